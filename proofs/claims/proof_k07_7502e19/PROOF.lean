import PyProof.Rows.All
import Wide.All
import OpenK.AllK
import Wide.FinOn
import Lean
import PyProof.EqAt
import PyProof.EqKinds
import PyProof.TupleCall
import KE.KIsAll
import KE.KRevIter
import PyProof.P3In
import PyProof.P3Eq
import KE.KDictList
import KE.KDictSum
import KE.KDictLaws
import PyProof.ZipIter
import KE.KItemsList
import PySem.Challenge.RW_samebook_k07_whole_order_and_words
set_option maxHeartbeats 16000000
abbrev Gh:=@if_neg
abbrev Gn:=@if_pos
abbrev GQ:=@decide_eq_false
abbrev Tc:=@decide_eq_true
abbrev TU:=@of_decide_eq_true
abbrev Dm:=@if_false
abbrev DB:=@beq_eq_false_iff_ne
abbrev EC:=@beq_self_eq_true
abbrev E4:=@or_false
abbrev So:=@beq_iff_eq
abbrev SD:=@if_true
abbrev SI:=@decide_eq_true_eq
abbrev F0:=@and_true
open Option renaming some->Ga,none->Ge,map_some->T3,isSome_map->Ea,map_eq_some_iff->EN,ne_none_iff_exists'->Ss,isSome_iff_exists->SJ,isSome_some->LZ,getD_none->FC,none->NM
open PySem renaming wpAny_bind->Gb,Addr->Gc,wpAny_pure->Gf,Program->Gi,sizeLine->Gj,Shared->Gk,World->Gu,sizeLine_eq->Gz,boot_len->GX,Str->GY,model->Tb,starEach->Ti,FuncData->Tp,wpAny_call_entry->Tz,wpAny_newObj_type->TB,wpAny_field->TH,Around->TL,wpAny_callSpecial?_slot->TQ,PyData->TW,Expr->TY,wpAny_holding->T5,mainGlobals->T6,sysModules->T8,Stmt->Db,wpAny_Call_Name_kw->Df,wpAny_seqItems->Dg,mem_of_lookup->Dj,compareOp->Dl,wpAny_truthy_bool->Dx,wpAny_dictEntries->DA,wpAny_mono->DI,wpAny_setField_rec->DJ,cLine->DM,wpAny_typeNameOfWhole_keyiter->DO,IsPair->DP,wpAny_typeNameOfWhole_valiter->DQ,wpAny_specialOf->DV,backTo->DX,tupleKind_room_in1->DZ,wpAny_passesOwn->D9,wpAny_typeNameOf_keyiter->Ef,wpAny_typeNameOf_valiter->Eg,Obj->Ek,wpAny_dictEpoch->Ep,DictEntry->Eu,builtinLookup_eq_fast->Ew,wpAny_setField->EA,wpAny_isInstance->ED,wpAny_notOrdered_dict->ES,wpAny_isOneOf_valiter->EU,wpAny_rule->EV,wpAny_attempt->EY,NameKind->E1,ReadsAll->E3,wpAny_pyIter_revIter->E5,wpAny_updateSeq_pair->E6,wpAny_execs_nil->E7,wpAny_updateSeq->E9,wpAny_ite_split->Sa,typeLookup_type->Sc,call_meetsIn->Si,wpAny_pyIter_tuple->Sm,wpAny_fieldsOf->Sr,wpAny_letGo->SF,wpAny_pyIter_slot->SG,wpAny_comprehension_free->SM,wpAny_onRaise->SN,Scope->SQ,wpAny_Call_method0_late->SR,wpAny_Dict_empty->SS,Pos->SX,call->SY,wpAny_pyNext_range_end->S0,wpAny_pyIter_rangeiter->S8,codeAny_mono->La,wpAny_Call_method_late->Lc,call_meets->Le,IsZip->Ll,wpAny_isTrue_Compare1->Lo,wpAny_isOneOf_keyiter->Lp,wpAny_pyNext_rev_item->Ls,IsRangeIter->Lw,isSubtype_stop->Ly,wpAny_pyIter_keyiter->Lz,wpAny_pyNext_rev_end->LA,evalArgs_none->LF,wpAny_standAt->LM,Reads->LN,wpAny_handled->LO,plainId_quiet->LQ,wpAny_pyIter_range->LV,IsPart->LY,wpAny_getItem_heap->L1,wpAny_setItem_heap->L3,call_reversed_list->L4,Within->L8,Env->L9,wpAny_assign_Name->Fa,BindsTo->Fg,Keyword->Fi,list_append->Fj,eqIsQuiet_byValue->Fl,wpAny_pyIter_enum->Fo,wpAny_pyHash_int->Fs,wpAny_pyHash_str->Ft,wpAny_execs_cons->Fu,wpAny_forIn_list->FF,wpAny_of_eq->FI,wpAny_throw->FJ,wpAny_ret_mkInt->FL,codeAny_builtin->FM,wpAny_Name->FR,ZipApart->Mb,wpAny_newTuple->Mc,intBits_le_64->Mu,evalPart_none->MJ,call_list_seq->ML,wpAny_in_heap->MM,DefRec->Nf,Params->Ng,Result->Nj,wpAny_typeOf->Nl,seqIndex_neg->Nm,seqIndex_of->NL,HeapKind->NN,wpAny_call->RC,typeIs_str->RE,PlainAttrs->RF,Tok->Bu,Sem->Bv
open PySem.W renaming Frag->Gd,findIn->GV,kitOne->Tf,isFn->Tk,keepIn->T1,kia_one->Dh,emptyDict->Dk,kia_tup->Do,plainGet->Dp,fnOf->Du,hasDictIn->Dw,plainOver->DR,instObj->DU,kitAny->D0,makesIn->D4,mg_of->Ev,nsIn->EJ,kitx_list->EK,kitx_dict->EL,methodCall_KW->EO,plainGet_of->Sd,codeIn->Sj,lookIn->Sn,callWith_K->Sq,methodObj->Sz,cellsFrom_some->Lb,takerIn->Lh,OpenLaw->Lj,callWith_K0->LD,kitx_float->LW,kitx_tuple->LX,kitx_none->Fc,kitx_bool->Fd,handedIn->Fv,kitx_int->Fw,kitx_str->Fy,kdl_call->FG,KdlSrc->FZ,WalkO->MO,kdl_hint_values->M9,OpenLaw->Nc,kdl_hint_dict->Nx,hideAll_size->NB,hideAll_none->NC,truthy_bytes->NI,looks_findIn->NJ,hideAll_get->NQ,findObj_own->NR,looks_clsIn->NS,kdu_collect->NU,XL->NV,of_hideAll->NY,codeRec_of->RD,pre_splitW->RG,mg_none_of->RI,len_bytes->RJ,get_value->RK,method_fn->RL,set_plain->RM,make_core->RO,specialIn->RP,kdx_alive->RS,eq_bytes->RW,ne_bytes->RX,osa_open->RZ,any_some->Ba,InitBack->Bb,makes_of->Bc,kitx_own->Bd,kdl_dict->Bj,hideAll->Bk,bind_fn->Bl,takesIn->Bm,kIn_of->Bn,InstAt->Bq,typeIn->Br,mroIn->Bt
open Bool renaming true->Gg,false->Gq,false_ne_true->GO,and_eq_true->Td,false_eq_true->TM,and_eq_true_iff->DL,eq_iff_iff->EG,eq_false_iff->SE,or_false->MK,not_true->MR,and_true->MU
open Nat renaming le_refl->Gm,zero_le->Gw,lt_of_lt_of_le->Te,ne_of_lt->Tg,lt_or_ge->Tn,le_trans->Tw,ne_of_gt->Tx,le_add_right->T4,lt_irrefl->Ds,lt_succ_self->DF,lt_of_le_of_lt->DG,mul_le_mul_right->Ed,add_lt_add_left->Ei,add_mul->El,le_succ->EI,min_eq_left->E8,le_of_lt->Se,le_of_eq->Sf,lt_add_of_pos_right->SV,add_le_add_left->LG,not_lt->L6,add_zero->Fn,lt_succ_of_lt->Fp,lt_trichotomy->Fq,min_le_right->FA,le_of_not_lt->FE,succ_ne_self->FH,one_mul->FK,mul_le_mul->Ma,add_assoc->MQ,lt_trans->Np,sub_self->Nu
open Ne renaming symm->Gp
open PySem.Paired renaming length->Gr,snoc->DN
open PySem.F renaming plainAttrs_list->Gs,slot_list_append->Gy,type_list_append->GJ,plain_extend_loop->DC,slot_list_pop->DD,type_list_pop->DE,plainAttrs_dict->DS,slot_dict_setdefault->Er,type_dict_setdefault->Es,slot_list_extend->EE,type_list_extend->EF,slot_dict_get->ER,slot_dict_getitem->Sw,entry_extend_loop->Sy,slot_dict_values->SO,args_dict_get_3->SU,entry_dict_get->Lf,args_list_append_2->FX,args_dict_values_1->Md,entry_list_append->Mq,entry_dict_values->Ms,args_list_init_2->MX,args_list_sort_1->MY,type_dict_values->MZ,slot_list_insert->M3,type_list_insert->M4,typeCall_list_1->M7,entry_list_init->M8,entry_list_sort->Nb,slot_list_sort->Nr,type_dict_get->Nw,called_list->NT
open PySem.PassesOwn renaming never->Gv
open PySem.PyData renaming canLayAll0->Gx,canLay0->Tt,depthAll->Tv,eqvAll->TC,eqv->TD,strOk->Dc,depth->DK,int->EB
open PyProof.Rows renaming boot_isinstance->Ta,boot_tuple->TR,boot_list->TV,callWith_type1->Dq,slot_tuple_getitem->Eh,boot_bool->Eo,subscriptTail_builtinR->EM,AllBare->SA,IntsAre->Lg,boot_str->Lu,boot_int->Lv,Constant_none->LL,callWith_builtin1->Fz,wpAny_notIn_heap->FD,isnot_none_gen->FS,slicePart_none->FT,Subscript_->FU,zipApart_new->Mr,boot_reversed->MT,boot_sorted->M1,isTrue_plain->Nh,boot_abs->Ny,boot_min->Nz,is_none_gen->NE,isTrue_and->NZ,boot_range->N9,Call_->Bp
open Array renaming getElem?_eq_getElem->Tj,length_toList->TF,getElem?_toList->T9,getElem?_eq_none->Di,toArray_toList->Eb,forIn_toList->EH,getElem?_append_left->Su,all_append->SW,append_assoc->LU,size_push->FN,toList->Ni
open Option.some renaming inj->To,injEq->RQ
open Int renaming emod_lt_of_pos->Tq,emod_nonneg->TJ,toNat_natCast->Dy,toNat->DT,zero_add->Ee,mul_le_mul_of_nonneg_right->EX,ediv_one->Nk,le_of_lt->Nv,pow_pos->NP
open PySem.NameKind renaming free->Ts,cell->SK
open True renaming intro->Tu
open Prod.mk renaming injEq->TX
open Classical renaming propDecidable->TZ,choose->EW,choose_spec->Lq,byContradiction->Mt
open Or renaming inl->De,inr->Ej
open PySem.Str renaming ofString->Dz,empty->Et
open ForInStep renaming yield->DW
open PySem.Calls renaming callWith_builtin->DY,spliced_cons->Em,spliced_nil->Ey,evalArgs_plain->E2,Name_function_global->Sk,call_function_entry->Sx,call_len_list->LC
open PySem.Obj renaming data_mapFields->D2,mapSeq->Ez,isFreed_of_fields->ET,mapFields->EZ,cls_mapFields->SH,data_mapDictKeys->Lx
open Sum renaming inl->Sg,inr->Sh
open PyProof renaming noPylong_small->S9
open PySem.AutoSeq1 renaming list_insert_list_int_val_1->Lm,list_extend_list_list_0->Fk
open PySem.Around renaming under_plainId->LB,under->Fe
open PySem.W.Fast renaming te14364793385576792824->LH,te10274390034422433532->LI,te14082659384304107361->LJ,te14289696077712309145->LK,te4187177175401517315->LR
open Function renaming comp->LP
open PySem.Code renaming isFrame->Ff,frames->NK
open Prod renaming ext->Fh
open PySem.SeqAt renaming compareEq_reads->FP,compareNe_reads->FQ,eqAt_reads->Nq
open PySem.EqNone renaming eq_none_none->Me,eq_none_bool->Mf,eq_bool_none->Mg,ne_none_none->Mj,ne_none_bool->Ml,ne_bool_none->Mm,eq_none_int->Mv,eq_none_str->Mw,eq_int_none->Mx,eq_str_none->Mz,ne_none_int->MC,ne_none_str->MD,ne_int_none->ME,ne_str_none->MH
open PySem.EqMixed renaming eq_bool_str->Mh,eq_str_bool->Mi,ne_bool_str->Mn,ne_str_bool->Mo,eq_int_str->My,eq_str_int->MA,ne_int_str->MF,ne_str_int->MI
open PySem.Shared renaming TypeIs->MV,heap->NO
open PySem.MeetsSeq renaming list_pop_last->No
open Sum.inr renaming inj->NA
open PySem.CmpOp renaming NotIn->ND,In->Bo
open PySem.Data renaming fields->NF,cell->RV,seq->Bs
open PySem.Walks renaming range->NG
open PySem.IsRange renaming new->NH
open PySem.SeqAt.EqAt renaming int_str->NW,str_int->NX
open PySem.P renaming truthy_int->Rs,truthy_str->RA,add_list->Bg
open PySem.W.Looks renaming here->RB
open PySem.W.WShape renaming has->RH
open PySem.Within renaming cons->RN
open Eq renaming refl->RT
open PySem.W.XL renaming keeps->RU
open PySem.DictEntry renaming refKey->RY
open PyProof.Rows.IsTup renaming new->Be
open PySem.IsL renaming update->Bf
open PySem.W.WData renaming int->Bh
open PySem.Expr renaming Call->Bi
open Sum.inl renaming inj->Bw
open PySem.W.OpenLaw renaming pre->Bx
abbrev Xb:=@rfl
set_option Elab.async false
set_option linter.all false
set_option maxRecDepth 100000
set_option bootstrap.genMatcherCode false
local macro_rules|`(«term{_}»|{$a,*})=>`(⟨$a,*⟩)
local macro_rules|`(tactic|ext)=>`(tactic|omega)
local macro_rules|`(tactic|exists $a,*)=>`(tactic|refine ⟨$a,*, ?_⟩)
local macro_rules|`(tactic|ac_rfl)=>`(tactic|first|with_reducible assumption|exact Gm _|exact Gw _|decide|exact Nat.succ_le_succ (Gw _)|exact T4 _ _|exact Nat.le_add_left _ _|exact DF _|exact Se (by assumption)|exact Tw (by assumption) (by decide)|exact DG (by assumption) (by decide)|exact Tw (by assumption) (by assumption)|exact Te (by assumption) (by assumption)|exact DG (by assumption) (by assumption)|exact Tw (Sf (by assumption)) (Tw (by assumption) (by decide))|exact DG (Tw (Sf (by assumption)) (by assumption)) (by decide)|exact Nat.le_succ_of_le (by assumption)|exact Ds _ (by assumption)|exact absurd (by assumption) (Ds _)|fail)
local macro_rules|`(tactic|omega)=>`(tactic|(ac_rfl;done))
local macro_rules|`(tactic|lia)=>`(tactic|(ac_rfl;done))
local macro_rules
 |`(tactic|eq_refl)=>`(tactic|first
  |exact⟨Xb,Xb,Xb,by decide+kernel,Xb,by decide+kernel,by decide+kernel⟩
  |exact⟨by rfl,by decide+kernel,by decide+kernel,by decide+kernel⟩
  |exactλ_ _ _ _ _ _ us hl=>match us,hl with|[_],_=>rfl
  |exactλ_ _ _ _ _ _ us hl=>match us,hl with|[_,_],_=>rfl
  |exactλ_ _ _ _ _ _ us hl=>match us,hl with|[_,_,_],_=>rfl
  |exactλ_ _ _ _ _ _ us hl=>match us,hl with|[_,_,_,_],_=>rfl
  |exactλ_ _ _ _ _ _ us hl=>match us,hl with|[_,_,_,_,_],_=>rfl)
namespace L2
open PySem PySem.Spec PyProof.Rows
def Z4(s:Db)(j:Nat):Db:=match s with
 |.ClassDef _ _ _ a _ _ _ _ _ _ _=>a.getD j (.Pass {0,0,0,0})
 |_=>.Pass {0,0,0,0}
def Vl(s:Db):Arguments:=match s with
 |.FunctionDef _ a _ _ _ _ _ _ _ _=>a
 |_=>{posonlyargs:=[],args:=[],vararg:=Ge,kwonlyargs:=[],kw_defaults:=[],kwarg:=Ge,defaults:=[]}
def X5(s:Db):List Db:=match s with
 |.FunctionDef _ _ b _ _ _ _ _ _ _=>b
 |_=>[]
def Qk(s:Db):SQ:=match s with
 |.FunctionDef _ _ _ _ _ _ a _ _ _=>a
 |_=>{kind:=.function,names:=[],isGenerator:=Gq,isCoroutine:=Gq}
end L2
section
namespace Sb
open PySem L2
inductive Yr(K:Gd)(x q:GY)(st:Db)(f:Gc):Prop
 |mk (oc:_) (od:_) (an:_) (sl:_) (kV:_) (dc:_) (pm:_) (cd:_) (ct:_) (h0:K.lookup f=Ga ⟨oc,od,.func (Du x q (Vl st) (X5 st) (Qk st) .none kV dc pm an cd ct),sl⟩) (h1:Sj K cd q=Gg) (h2:T1 K (.ref f)=Gg):Yr K x q st f
abbrev gh(K:Gd)(x:GY)(f:Gc):Prop:=EJ K T6 x=Ga (Ga (.ref f))
abbrev gj(K:Gd)(c:Gc)(x:GY)(f:Gc):Prop:=GV K (.ref c) x=Ga (Ga (.ref f))
abbrev gD(K:Gd)(x:GY):Prop:=EJ K T6 x=Ga Ge
end Sb
end
section
namespace K07
open PySem L2 Sb
def top(i:Nat):Db:=PySem.Challenge.pw_samebook_k07_whole_order_and_words.main.body.getD i (.Pass {0,0,0,0})
abbrev jm:Db:=top 1
abbrev Wf:Db:=Z4 (top 2) 0
abbrev W0:Db:=Z4 (top 2) 1
abbrev jx:Db:=Z4 (top 2) 2
abbrev oD:Db:=Z4 (top 2) 3
abbrev nV:Db:=Z4 (top 2) 4
abbrev Xj:Db:=Z4 (top 2) 5
abbrev j8:Db:=Z4 (top 2) 6
abbrev Wq:Db:=Z4 (top 2) 7
abbrev iP:Db:=Z4 (top 2) 8
abbrev jw:Db:=Z4 (top 2) 9
abbrev ix:Db:=Z4 (top 2) 10
abbrev iY:Db:=top 4
abbrev Rh:Db:=top 5
abbrev oK:Db:=top 6
abbrev Re:Db:=Z4 (top 7) 0
abbrev nH:Db:=Z4 (top 7) 1
abbrev Vj:Db:=Z4 (top 7) 2
abbrev On:Db:=Z4 (top 7) 3
abbrev kg:Db:=Z4 (top 12) 0
abbrev nX:Db:=Z4 (top 12) 1
abbrev nq:Db:=Z4 (top 12) 2
abbrev ph:Db:=Z4 (top 13) 0
abbrev Ys:Db:=Z4 (top 13) 1
abbrev lI:Db:=top 14
abbrev oA:Db:=top 15
abbrev pL:Db:=top 16
abbrev lE:Db:=top 19
abbrev jK:Db:=Z4 (top 20) 0
abbrev Rf:Db:=Z4 (top 20) 1
abbrev Jm:Db:=Z4 (top 20) 2
abbrev O1:Db:=Z4 (top 20) 3
abbrev hY:Db:=Z4 (top 20) 4
abbrev qq:Db:=Z4 (top 20) 5
abbrev mI:Db:=top 21
abbrev qh:Db:=top 23
abbrev sAt:Db:=top 24
abbrev j7:Db:=top 25
abbrev qt:Db:=top 26
abbrev Vp:Db:=top 27
abbrev nO:Db:=top 28
abbrev nj:Db:=top 29
abbrev nM:Db:=top 30
abbrev Rl:Db:=top 31
abbrev jg:Db:=top 32
abbrev nk:Db:=top 33
abbrev sSo:Db:=top 34
abbrev ie:Db:=top 35
end K07
end
section
namespace K07
open PySem L2 Sb
inductive Fx(K:Gd):Prop
 |mk {CP CW CN CS CB f0 f1 f2 f3 f4 f5 f6 f7 f8 f9 f10 f11 f12 f13 f14 f15 f16 f17 f18 f19 f20 f21 f22 f23 f24 f25 f26 f27 f28 f29 f30 f31 f32 f33 f34 f35 f36 f37 f38 f39 f40 f41 f42 f43 f44 f45 f46 f47:Gc} {tkn tfew twal tste:Bu}
  (aP:gh K "Places" CP) (pP:Dp K CP Et=Gg) (dP:Dw K CP=Gg) (oP:DR K CP=Gg) (sP:GV K (.ref CP) "__setattr__"=Ga (Ga (.builtin "object.__setattr__"))) (mP:D4 K CP=Gg) (cP:T1 K (.ref CP)=Gg)
  (nPthings:GV K (.ref CP) "things"=Ga Ge) (nPforms:GV K (.ref CP) "forms"=Ga Ge) (nPknown:GV K (.ref CP) "known"=Ga Ge) (aW:gh K "Walk" CW) (pW:Dp K CW Et=Gg) (dW:Dw K CW=Gg) (oW:DR K CW=Gg)
  (sW:GV K (.ref CW) "__setattr__"=Ga (Ga (.builtin "object.__setattr__"))) (mW:D4 K CW=Gg) (cW:T1 K (.ref CW)=Gg) (nWplaces:GV K (.ref CW) "places"=Ga Ge) (nWsteps:GV K (.ref CW) "steps"=Ga Ge) (aN:gh K "Net" CN)
  (pN:Dp K CN Et=Gg) (dN:Dw K CN=Gg) (oN:DR K CN=Gg) (sN:GV K (.ref CN) "__setattr__"=Ga (Ga (.builtin "object.__setattr__"))) (mN:D4 K CN=Gg) (cN:T1 K (.ref CN)=Gg) (nNforms:GV K (.ref CN) "forms"=Ga Ge)
  (nNleads:GV K (.ref CN) "leads"=Ga Ge) (nNmembers:GV K (.ref CN) "members"=Ga Ge) (nNusers:GV K (.ref CN) "users"=Ga Ge) (nNtable:GV K (.ref CN) "table"=Ga Ge) (nNlinks:GV K (.ref CN) "links"=Ga Ge) (nNlinkat:GV K (.ref CN) "link_at"=Ga Ge)
  (nNabove:GV K (.ref CN) "above"=Ga Ge) (aS:gh K "Showing" CS) (pS:Dp K CS Et=Gg) (dS:Dw K CS=Gg) (oS:DR K CS=Gg) (sS:GV K (.ref CS) "__setattr__"=Ga (Ga (.builtin "object.__setattr__"))) (mS:D4 K CS=Gg)
  (cS:T1 K (.ref CS)=Gg) (nSthings:GV K (.ref CS) "things"=Ga Ge) (nSnet:GV K (.ref CS) "net"=Ga Ge) (nSlines:GV K (.ref CS) "lines"=Ga Ge) (nSnumbers:GV K (.ref CS) "numbers"=Ga Ge) (aB:gh K "Book" CB) (pB:Dp K CB Et=Gg)
  (dB:Dw K CB=Gg) (oB:DR K CB=Gg) (sB:GV K (.ref CB) "__setattr__"=Ga (Ga (.builtin "object.__setattr__"))) (mB:D4 K CB=Gg) (cB:T1 K (.ref CB)=Gg) (nBplaces:GV K (.ref CB) "places"=Ga Ge) (nBtold:GV K (.ref CB) "told"=Ga Ge)
  (nBentries:GV K (.ref CB) "entries"=Ga Ge) (cfew:EJ K T6 "FEW_PARTS"=Ga (Ga (.int 4 tfew))) (cwal:EJ K T6 "WALKS_ANEW"=Ga (Ga (.int 1024 twal))) (cste:EJ K T6 "STEPS_ANEW"=Ga (Ga (.int 40000 tste))) (anm:EJ K T6 "NO_MOMENT"=Ga (Ga (.str "no moment" tkn)))
  (a0:gh K "top_words" f0) (h0:Yr K "top_words" "top_words" lI f0) (a1:gj K CP "__init__" f1) (i1:Tk K (.ref f1)=Gg) (h1:Yr K "__init__" "Places.__init__" kg f1) (a2:gj K CP "place_of" f2) (i2:Tk K (.ref f2)=Gg)
  (h2:Yr K "place_of" "Places.place_of" nX f2) (a3:gj K CW "__init__" f3) (i3:Tk K (.ref f3)=Gg) (h3:Yr K "__init__" "Walk.__init__" ph f3) (a4:gh K "place_among" f4) (h4:Yr K "place_among" "place_among" oA f4)
  (a5:gh K "share_of" f5) (h5:Yr K "share_of" "share_of" pL f5) (a6:gj K CW "place_within" f6) (i6:Tk K (.ref f6)=Gg) (h6:Yr K "place_within" "Walk.place_within" Ys f6) (a7:gj K CP "place_by_form" f7)
  (i7:Tk K (.ref f7)=Gg) (h7:Yr K "place_by_form" "Places.place_by_form" nq f7) (a8:gh K "net_of" f8) (h8:Yr K "net_of" "net_of" jm f8) (a9:gj K CN "__init__" f9) (i9:Tk K (.ref f9)=Gg) (h9:Yr K "__init__" "Net.__init__" Wf f9)
  (a10:gj K CN "take_in" f10) (i10:Tk K (.ref f10)=Gg) (h10:Yr K "take_in" "Net.take_in" W0 f10) (a11:gj K CN "key_of" f11) (i11:Tk K (.ref f11)=Gg) (h11:Yr K "key_of" "Net.key_of" jx f11) (a12:gj K CN "equal" f12)
  (i12:Tk K (.ref f12)=Gg) (h12:Yr K "equal" "Net.equal" oD f12) (a13:gj K CN "merge" f13) (i13:Tk K (.ref f13)=Gg) (h13:Yr K "merge" "Net.merge" nV f13) (a14:gj K CN "merge_link" f14) (i14:Tk K (.ref f14)=Gg)
  (h14:Yr K "merge_link" "Net.merge_link" Xj f14) (a15:gj K CN "hang" f15) (i15:Tk K (.ref f15)=Gg) (h15:Yr K "hang" "Net.hang" j8 f15) (a16:gj K CN "give_over" f16) (i16:Tk K (.ref f16)=Gg) (h16:Yr K "give_over" "Net.give_over" Wq f16)
  (a17:gj K CN "way" f17) (i17:Tk K (.ref f17)=Gg) (h17:Yr K "way" "Net.way" iP f17) (a18:gj K CN "way_up" f18) (i18:Tk K (.ref f18)=Gg) (h18:Yr K "way_up" "Net.way_up" jw f18) (a19:gj K CN "rows" f19) (i19:Tk K (.ref f19)=Gg)
  (h19:Yr K "rows" "Net.rows" ix f19) (a20:gh K "lines_between" f20) (h20:Yr K "lines_between" "lines_between" iY f20) (a21:gh K "links_needed" f21) (h21:Yr K "links_needed" "links_needed" Rh f21) (a22:gh K "pairs_below" f22)
  (h22:Yr K "pairs_below" "pairs_below" oK f22) (a23:gj K CS "__init__" f23) (i23:Tk K (.ref f23)=Gg) (h23:Yr K "__init__" "Showing.__init__" Re f23) (a24:gj K CS "write" f24) (i24:Tk K (.ref f24)=Gg) (h24:Yr K "write" "Showing.write" nH f24)
  (a25:gj K CS "write_link" f25) (i25:Tk K (.ref f25)=Gg) (h25:Yr K "write_link" "Showing.write_link" Vj f25) (a26:gj K CS "line_for" f26) (i26:Tk K (.ref f26)=Gg) (h26:Yr K "line_for" "Showing.line_for" On f26)
  (a27:gh K "answers" f27) (h27:Yr K "answers" "answers" lE f27) (a28:gj K CB "__init__" f28) (i28:Tk K (.ref f28)=Gg) (h28:Yr K "__init__" "Book.__init__" jK f28) (a29:gj K CB "answer" f29) (i29:Tk K (.ref f29)=Gg)
  (h29:Yr K "answer" "Book.answer" Rf f29) (a30:gj K CB "go_back" f30) (i30:Tk K (.ref f30)=Gg) (h30:Yr K "go_back" "Book.go_back" Jm f30) (a31:gj K CB "tell" f31) (i31:Tk K (.ref f31)=Gg) (h31:Yr K "tell" "Book.tell" O1 f31)
  (a32:gj K CB "ask" f32) (i32:Tk K (.ref f32)=Gg) (h32:Yr K "ask" "Book.ask" hY f32) (a33:gj K CB "lines_for" f33) (i33:Tk K (.ref f33)=Gg) (h33:Yr K "lines_for" "Book.lines_for" qq f33) (a34:gh K "least_clash" f34)
  (h34:Yr K "least_clash" "least_clash" mI f34) (a35:gh K "_law_any_word" f35) (h35:Yr K "_law_any_word" "_law_any_word" jg f35) (a36:gh K "_law_so" f36) (h36:Yr K "_law_so" "_law_so" sSo f36) (a37:gh K "_law_drawn_things" f37) (h37:Yr K "_law_drawn_things" "_law_drawn_things" j7 f37)
  (a38:gh K "_law_drawn_deeds" f38) (h38:Yr K "_law_drawn_deeds" "_law_drawn_deeds" qt f38) (a39:gh K "_law_any" f39) (h39:Yr K "_law_any" "_law_any" nk f39) (a40:gh K "_law_classes" f40) (h40:Yr K "_law_classes" "_law_classes" Vp f40)
  (a41:gh K "_law_kind" f41) (h41:Yr K "_law_kind" "_law_kind" nO f41) (a42:gh K "_law_barred" f42) (h42:Yr K "_law_barred" "_law_barred" nj f42) (a43:gh K "_law_after" f43) (h43:Yr K "_law_after" "_law_after" nM f43) (a44:gh K "_law_at" f44)
  (h44:Yr K "_law_at" "_law_at" sAt f44) (a45:gh K "_law_whole" f45) (h45:Yr K "_law_whole" "_law_whole" qh f45) (a46:gh K "_law_recalled" f46) (h46:Yr K "_law_recalled" "_law_recalled" Rl f46) (a47:gh K "law" f47) (h47:Yr K "law" "law" ie f47)
  (z_len:gD K "len") (z_min:gD K "min") (z_abs:gD K "abs") (z_list:gD K "list") (z_tuple:gD K "tuple") (z_str:gD K "str") (z_bool:gD K "bool") (z_int:gD K "int") (z_isinstance:gD K "isinstance") (z_range:gD K "range") (z_reversed:gD K "reversed") (z_enumerate:gD K "enumerate") (z_zip:gD K "zip")
  (z_sorted:gD K "sorted"):Fx K
end K07
open PySem PySem.W PyProof.Rows
namespace K07
abbrev pw:Gi:=PySem.Challenge.pw_samebook_k07_whole_order_and_words
abbrev qv:Gi:=view pw [1,2,4,5,6,7,9,10,11,12,13,14,15,16,18,19,20,21,23,24,25,26,27,28,29,30,31,32,33,34,35]
theorem once{l:Nc}{q:Gi}{d:Nf}{a:List (GY×PySem.Expr)}{N:Nat}(H:Hook)(left:LeftO l.row.prog q [] (λs=>xlAt q [] s&&recOk l.row.toRowW.records s) H.obs H.val N)(b:defOf q l.row.name=Ga (d,a))(i:l.row.prog.theDef l.row.name=Ga (d.params,d.body,d.scope))(h:kwWritten? d.params.kwonlyargs d.params.kw_defaults=Ga a)
  (c:(!l.row.writes||l.row.records.isEmpty)=Gg)(j:l.row.wellSaid=Gg)(ok:(chainsOk q&&opensWell l.row.prog&&(frees l.row.toRowW&&l.row.within.isEmpty))=Gg)(g:l.row.prog.bare)(hw:l.row.toRowW.promised)(call:WalkO q [] (NV q []) H.says l.row.toRowW d a λf k=>SY f k):l.row.Holds:=
 holds_open left H.of H.keeps (λs e=>xl_of s (DL.mp e).1) RU b i h (λs e=>recFacts_of (DL.mp e).2) c j ok g hw call
end K07
def PySem.W.Fast.tw10939262115988405975:Gi:=K07.pw
theorem PySem.W.Fast.te10939262115988405975:PySem.Challenge.pw_samebook_k07_whole_order_and_words=PySem.W.Fast.tw10939262115988405975:=rfl
local macro_rules|`(tactic|o_head $H:term)=>`(tactic|refine K07.once (q:=K07.qv) (N:=5324) $H ?hl (by rfl) (by rfl) (by rfl) (by rfl) (by assumption) (by decide+kernel) ⟨Xb,Xb,Xb,Xb,Xb,by decide+kernel⟩ ?hw ?hc)
set_option maxHeartbeats 0 in
theorem K07.head(W:∀(K:Ng->Frag)(a:Gu->Heap->Prop)(d:Nf),d.name="law"->d.params.defaults=[]->(∀(w:Gu)(h:Heap),a w h->(K w.params).In h)->(∀w:Gu,K07.Fx (K w.params))->WalkO K07.qv [] (NV K07.qv []) a PySem.Challenge.rw_samebook_k07_whole_order_and_words.row.toRowW d [] λf b=>SY f b):PySem.Challenge.rw_samebook_k07_whole_order_and_words.Holds:=by
 w_on;o_law;k_head;(case hw=>w_witness2)
 case hl=>
  (show LeftO K07.pw (view K07.pw _) _ _ _ _ _)
  intro w;unfold openEnds fencedOpening topFrom K07.pw;rw[LH,LI,LJ,LK,LR,PySem.W.Fast.te10939262115988405975];kernel_rfl
 case hc=>
  k_fill
  refine W _ _ _ rfl rfl (λw h Y=>Bn Y) λw=>?_;apply K07.Fx.mk;all_goals first|exact⟨_,_,_,_,_,_,_,_,_,by k_is,by k_is,by k_is⟩|(show _=_;k_is)|skip
end
namespace L2
open PySem PySem.Spec PyProof.Rows
variable{a b C:Gc}{P:Gi}{w:Gu}{o:Ek}{t' i k n:Nat}{N ps:List GY}{x:GY}{M:Model}{A:TL}{E Q:Value->Gk->Prop}{u:Value}{e c tg:TY}{s:Gk}{zq:List (Gc×Ek)}{pos:SX}{op:CmpOp}{K:Gd}{body:List Db}{fp:List Gc}{pl:Bv Bool}{f:Value->Value->Bv Value}{us:List Value}{kw:List (GY×Value)}{mg:GY->Option Value}
abbrev Xm:=Sum Int GY
def iS:Xm->Value->Bool
 |.inl k,v=>Value.isInt k v
 |.inr x,v=>Value.isStrOf x v
def QH(w:Gu):Xm->Int
 |.inl k=>hashInt k
 |.inr x=>hashStr w x
theorem Yz:∀{k:Xm}{v:Value},iS k v=Gg->(∃i t,k=Sg i/\v=Value.int i t)\/(∃x t,k=Sh x/\v=Value.str x t)
 |.inl i,v,h=>by obtain⟨t,e⟩:=Value.isInt_shape (k:=i) (v:=v) h;exact .inl ⟨i,t,Xb,e⟩
 |.inr x,v,h=>by obtain⟨t,e⟩:=Value.isStrOf_shape (x:=x) (v:=v) h;exact .inr ⟨x,t,Xb,e⟩
theorem QP(i:Int)(t:Bu):iS (.inl i) (.int i t)=Gg:=by simp[iS,Value.isInt]
theorem PP(x:GY)(t:Bu):iS (.inr x) (.str x t)=Gg:=by simp[iS,Value.isStrOf]
theorem OE(a b:Int):decide ((Sg a:Xm)=Sg b)=(a==b):=by
 by_cases e:a=b
 .subst e;simp
 .have h:¬(Sg a:Xm)=Sg b:=λq=>e (Bw q);rw[GQ h];exact(DB.mpr e).symm
theorem Pd(a b:GY):decide ((Sh a:Xm)=Sh b)=decide (a=b):=by
 by_cases e:a=b
 .subst e;simp
 .have h:¬(Sh a:Xm)=Sh b:=λq=>e (NA q);rw[GQ h,GQ e]
theorem ID(a:Int)(b:GY):decide ((Sg a:Xm)=Sh b)=Gq:=GQ (λq=>nomatch q)
theorem UI(a:GY)(b:Int):decide ((Sh a:Xm)=Sg b)=Gq:=GQ (λq=>nomatch q)
def Ya(prog:Gi)(w:Gu):PySem.KeyKind prog w Xm where
 is:=iS
 hash:=QH w
 inj:=λv a b g f=>by
  rcases Yz g with⟨i,t,rfl,rfl⟩|⟨x,t,rfl,rfl⟩
  .rcases Yz f with⟨j,u,rfl,e⟩|⟨y,u,rfl,e⟩
   .injection e with c _;rw[c]
   .exact nomatch e
  .rcases Yz f with⟨j,u,rfl,e⟩|⟨y,u,rfl,e⟩
   .exact nomatch e
   .injection e with c _;rw[c]
 byValue:=λk v h=>by rcases Yz h with⟨i,t,rfl,rfl⟩|⟨x,t,rfl,rfl⟩<;>rfl
 pyHash:=λd h=>by
  rcases Yz d with⟨i,t,rfl,rfl⟩|⟨x,t,rfl,rfl⟩
  .exact Fs h
  .exact Ft h
 eqBool:=λl d h=>by
  rcases Yz l with⟨i,t,rfl,rfl⟩|⟨x,t,rfl,rfl⟩
  .rcases Yz d with⟨j,u,rfl,rfl⟩|⟨y,u,rfl,rfl⟩
   .rw[OE]at h;exact wpAny_eqBool_int h
   .rw[ID]at h;exact NW i t y u _ _ _ _ h
  .rcases Yz d with⟨j,u,rfl,rfl⟩|⟨y,u,rfl,rfl⟩
   .rw[UI]at h;exact NX x t j u _ _ _ _ h
   .rw[Pd]at h;exact wpAny_eqBool_str h
 «strs»:=λk x t v h=>by
  rcases Yz h with⟨i,u,rfl,e⟩|⟨y,u,rfl,e⟩
  .exact nomatch e
  .injection e with c _;subst c;cases v<;>rfl
theorem PK(a:Gi)(w:Gu)(i:Int)(t:Bu):(Ya a w).is (.inl i) (.int i t)=Gg:=QP i t
theorem CZ(a:Gi)(w:Gu)(x:GY)(t:Bu):(Ya a w).is (.inr x) (.str x t)=Gg:=PP x t
inductive V where
 |non|bl (b:Bool)|int (i:Int)|str (x:GY)|byt (b:Array UInt8)|flt (b:UInt64)|ref (a:Gc)|ty (n:String)
 deriving DecidableEq
variable{v:V}{vs xs:List V}
def zm:V->Value->Prop
 |.non,u=>u=Value.none
 |.bl b,u=>u=Value.bool b
 |.int i,u=>∃t,u=Value.int i t
 |.str x,u=>∃t,u=Value.str x t
 |.byt b,u=>∃t,u=Value.bytes b t
 |.flt b,u=>∃t,u=Value.float b t
 |.ref a,u=>u=Value.ref a
 |.ty n,u=>u=Value.type n
abbrev Zt:List V->List Value->Prop:=Paired zm
theorem Zt.length{b:List V}{a:List Value}(r:Zt b a):b.length=a.length:=Gr r
theorem Zt.get:∀{b:List V}{a:List Value}{i:Nat}{x:V},Zt b a->b[i]?=Ga x->∃u,a[i]?=Ga u/\zm x u
 |_,_,_,_,.nil,e=>by simp at e
 |_,_,0,_,.cons r _,e=>by simp at e;subst e;exact{_,Xb,r}
 |_,_,i+1,x,.cons _ t,e=>by obtain⟨u,c,d⟩:=Zt.get (i:=i) (x:=x) t (by simpa using e);exact{u,by simpa using c,d}
theorem Zt.append:∀{c d:List V}{a b:List Value},Zt c a->Zt d b->Zt (c++d) (a++b)
 |_,_,_,_,.nil,s=>s
 |_,_,_,_,.cons r t,s=>.cons r (Zt.append t s)
theorem Zt.take:∀{b:List V}{a:List Value}(n:Nat),Zt b a->Zt (b.take n) (a.take n)
 |_,_,0,_=>.nil
 |_,_,_+1,.nil=>.nil
 |_,_,n+1,.cons r t=>.cons r (Zt.take n t)
theorem Zt.drop:∀{b:List V}{a:List Value}(n:Nat),Zt b a->Zt (b.drop n) (a.drop n)
 |_,_,0,r=>r
 |_,_,_+1,.nil=>.nil
 |_,_,n+1,.cons _ t=>Zt.drop n t
def J2:Option V->Option Value->Prop
 |some v,Ga u=>zm v u
 |none,Ge=>True
 |_,_=>False
def KV{κ:Type}:List (κ×V)->List (κ×Value)->Prop:=Paired λ(p:κ×V)(q:κ×Value)=>p.1=q.1/\zm p.2 q.2
def kV:Xm->V
 |.inl i=>.int i
 |.inr x=>.str x
inductive HO where
 |lst (xs:List V)
 |tup (xs:List V)
 |dK (zw:List (Xm×V))|dT (zw:List (List Xm×V))
 |set (S:Int->Bool) (n:Nat)
 |ins (C dx:Gc) (fs:List (GY×V))
 |own (x:Gc)
 |xd (fs:List (GY×V))
 |met (f x:Gc)
 |rng (lo hi:Int)
 |frz (o:Ek) (u:HO)
 |tbl (ps:Array Value)
 |ext (φ:Heap->Prop)
abbrev Hp:=Gc->Option HO
variable{H:Hp}
def zj(H:Hp)(a:Gc)(o:HO):Hp:=λb=>if b=a then Ga o else H b
theorem Qb{H:Hp}{a:Gc}{o:HO}:zj H a o a=Ga o:=by unfold zj;rw[Gn rfl]
theorem Qg{o:HO}(h:b≠a):zj H a o b=H b:=by unfold zj;rw[Gh h]
theorem Vz{o u:HO}:zj (zj H a o) a u=zj H a u:=by
 funext b;unfold zj;split<;>rfl
theorem Zi{o u:HO}(h:H a=Ga o)(c:H b=Ga u)(d:o≠u):a≠b:=by intro e;subst e;rw[h]at c;exact d (To c)
theorem Qc{o:HO}(h:H a=Ga o)(c:H b=Ge):a≠b:=by intro e;subst e;rw[h]at c;cases c
section
variable(P:Gi)(w:Gu)
def Z1(H:Hp)(h:Heap)(a:Gc):HO->Prop
 |.lst xs=>xs.length<=Gj/\∃(b:List Value)(n:Nat),Zt xs b/\h.get? a=Ga {cls:=.type "list",data:=.seq b.toArray n}
 |.tup xs=>xs.length<=Gj/\∃b:List Value,Zt xs b/\IsTup h a b.toArray
 |.dK zw=>zw.length<=Gj/\(a==T8)=Gq/\∃c,KV zw c/\h.DictOf (Ya P w) a c
 |.dT zw=>zw.length<=Gj/\(a==T8)=Gq/\∃xs:List (List Xm×Gc×Value),
   Paired (λ(p:List Xm×V)(q:List Xm×Gc×Value)=>p.1=q.1/\H q.2.1=Ga (.tup (p.1.map kV))/\zm p.2 q.2.2) zw xs/\
   ∃o es ep,h.get? a=Ga o/\o.ExactDict/\o.data=.dict es ep/\es.toList=xs.map (entryOfKey (tupleKind (Ya P w)))/\(xs.map (·.1)).Nodup
 |.set S n=>h.SetOf (intKind P w) a S n
 |.ins C dx fs=>H dx=Ga (.own a)/\fs.length<=1000/\dx≠a/\h.get? a=Ga (DU C dx)/\
   ∃mA,h.Ns1 dx mA/\(∀f,J2 (fs.lookup f) (mA f))/\L8 mA (fs.map (·.1))
 |.own _=>∃o,h.get? a=Ga o
 |.xd fs=>∃mA,h.Ns1 a mA/\∀f,J2 (fs.lookup f) (mA f)
 |.rng lo hi=>∃t u v,h.get? a=Ga {cls:=.type "range",data:=.fields #[.int lo t,.int hi u,.int 1 v]}
 |.frz o u=>h.get? a=Ga o/\Z1 H h a u
 |.tbl ps=>h.get? a=Ga {cls:=.none,data:=.fields ps}
 |.met f x=>h.get? a=Ga (Sz (.ref f) (.ref x))
 |.ext c=>c h/\(∃o,h.get? a=Ga o)/\∀h1 h2:Heap,c h1->(∀o,h1.get? a=Ga o->h2.get? a=Ga o)->c h2
def Ru(H:Hp)(h:Heap):Prop:=∀a o,H a=Ga o->Z1 P w H h a o
end
section
variable{P:Gi}{w:Gu}{H H':Hp}{h h':Heap}{a:Gc}{o:HO}
theorem Z1.lt(x:Z1 P w H h a o):a<h.objs.size:=by
 cases o with
 |lst d=>obtain⟨_,_,_,_,e⟩:=x;exact Heap.lt_size e
 |tup d=>obtain⟨_,_,_,p⟩:=x;exact p.lt
 |dK b=>obtain⟨_,_,_,_,o,_,_,e,_⟩:=x;exact Heap.lt_size e
 |dT b=>obtain⟨_,_,_,_,o,_,_,e,_⟩:=x;exact Heap.lt_size e
 |set S n=>obtain⟨o,_,_,_,e,_⟩:=x;exact Heap.lt_size e
 |ins C f c=>obtain⟨_,_,_,e,_⟩:=x;exact Heap.lt_size e
 |own y=>obtain⟨_,e⟩:=x;exact Heap.lt_size e
 |xd c=>obtain⟨_,⟨_,_,_,e,_⟩,_⟩:=x;exact Heap.lt_size e
 |rng g f=>obtain⟨_,_,_,e⟩:=x;exact Heap.lt_size e
 |frz f u=>obtain⟨e,_⟩:=x;exact Heap.lt_size e
 |tbl f=>exact Heap.lt_size (show h.get? a=Ga _ from x)
 |met f y=>exact Heap.lt_size (show h.get? a=Ga _ from x)
 |ext f=>obtain⟨_,⟨_,e⟩,_⟩:=x;exact Heap.lt_size e
theorem Paired.Yb{e g:Type}{F G:e->g->Prop}:∀{c:List e}{d:List g},Paired F c d->(∀a b,F a b->G a b)->Paired G c d
 |_,_,.nil,_=>.nil
 |_,_,.cons r t,f=>.cons (f _ _ r) (Paired.Yb t f)
theorem Z1.iF(x:Z1 P w H h a o)(k:∀b u,(b=a\/H b=Ga (.own a))->h.get? b=Ga u->h'.get? b=Ga u)
  (E:∀b,H b=Ga (.own a)->H' b=Ga (.own a))(F:∀b m,H b=Ga (.tup m)->H' b=Ga (.tup m)):Z1 P w H' h' a o:=by
 induction o with
 |lst m=>obtain⟨z,l,n,r,e⟩:=x;exact{z,l,n,r,k _ _ (.inl Xb) e}
 |tup m=>obtain⟨z,l,r,g,e,c⟩:=x;exact{z,l,r,g,k _ _ (.inl Xb) e,c}
 |dK s=>obtain⟨z,y,f,r,g,j,i,e,c⟩:=x;exact{z,y,f,r,g,j,i,k _ _ (.inl Xb) e,c}
 |dT s=>obtain⟨z,y,m,r,g,j,i,e,c⟩:=x;exact{z,y,m,Paired.Yb r λp q z=>{z.1,F _ _ z.2.1,z.2.2},g,j,i,k _ _ (.inl Xb) e,c}
 |set S n=>obtain⟨g,j,i,t,e,c⟩:=x;exact{g,j,i,t,k _ _ (.inl Xb) e,c}
 |ins C G D=>obtain⟨d,z,v,e,A,⟨B,j,i,f,c⟩,r⟩:=x;exact{E _ d,z,v,k _ _ (.inl Xb) e,A,{B,j,i,k _ _ (.inr d) f,c},r}
 |own y=>obtain⟨g,e⟩:=x;exact{g,k _ _ (.inl Xb) e}
 |xd D=>obtain⟨A,⟨B,j,i,e,c⟩,r⟩:=x;exact{A,{B,j,i,k _ _ (.inl Xb) e,c},r}
 |rng C f=>obtain⟨t,u,v,e⟩:=x;exact{t,u,v,k _ _ (.inl Xb) e}
 |frz g u f=>obtain⟨e,q⟩:=x;exact{k _ _ (.inl Xb) e,f q}
 |tbl f=>have e:h.get? a=Ga {cls:=.none,data:=.fields f}:=x;show h'.get? a=Ga {cls:=.none,data:=.fields f};exact k a _ (.inl Xb) e
 |met f y=>have e:h.get? a=Ga (Sz (.ref f) (.ref y)):=x;show h'.get? a=Ga (Sz (.ref f) (.ref y));exact k a _ (.inl Xb) e
 |ext v=>obtain⟨p,⟨o,e⟩,f⟩:=x;exact{f _ _ p λo q=>k _ _ (.inl Xb) q,{o,k _ _ (.inl Xb) e},f}
theorem Ru.lt(x:Ru P w H h)(e:H a=Ga o):a<h.objs.size:=(x a o e).lt
theorem Ru.fresh(x:Ru P w H h)(e:h.objs.size<=a):H a=Ge:=by
 cases q:H a with
 |none=>rfl
 |some u=>exact absurd (Te (x.lt q) e) (Ds _)
theorem Ru.kept(x:Ru P w H h)(k:∀b u,h.get? b=Ga u->h'.get? b=Ga u):Ru P w H h':=λa o e=>(x a o e).iF (λb u _ q=>k b u q) (λ_ q=>q) λ_ _ q=>q
theorem Ru.laid(x:Ru P w H h)(k:∀b u,h.get? b=Ga u->h'.get? b=Ga u)(i:h.objs.size<=a)(d:Z1 P w (zj H a o) h' a o):Ru P w (zj H a o) h':=λb u e=>by
 have g:=x.fresh i;by_cases f:b=a
 .subst f;rw[Qb]at e;cases e;exact d
 .rw[Qg f]at e;exact(x b u e).iF (λc v _ q=>k c v q) (λc q=>by rw[Qg (Qc q g)];exact q) λc j q=>by rw[Qg (Qc q g)];exact q
end
def Rd(H:Hp)(a:Gc)(u:HO):Prop:=H a=Ga u\/∃o,H a=Ga (.frz o u)
theorem Rd.ok{h:Heap}{u:HO}(r:Rd H a u)(x:Ru P w H h):Z1 P w H h a u:=by
 rcases r with r|⟨o,r⟩
 .exact x a u r
 .obtain⟨_,q⟩:=x a _ r;exact q
def jA:Option HO->Prop
 |some (.lst _)=>True
 |some (.dK _)=>True
 |some (.dT _)=>True
 |some (.set _ _)=>True
 |some (.ins _ _ _)=>True
 |some (.ext _)=>True
 |_=>False
section
variable{P:Gi}{w:Gu}{H:Hp}{h h':Heap}{x e:Gc}{o':HO}
theorem Ru.write(ok:Ru P w H h)(j:jA (H x))(o:e=x\/H e=Ga (.own x))(k:∀b u,b≠e->h.get? b=Ga u->h'.get? b=Ga u)(m:∃u,h'.get? e=Ga u)
  (n:Z1 P w (zj H x o') h' x o'):Ru P w (zj H x o') h':=λb u q=>by
 have d:∀c y,H c=Ga (.own y)->c≠x:=λc y r z=>by subst z;rw[r]at j;exact j
 have f:∀c l,H c=Ga (.tup l)->c≠x:=λc l r z=>by subst z;rw[r]at j;exact j
 by_cases g:b=x
 .subst g;rw[Qb]at q;cases q;exact n
 .rw[Qg g]at q;by_cases a:b=e
  .have i:H b=Ga (.own x):=by
    rcases o with z|z
    .exact absurd (a.trans z) g
    .rw[a];exact z
   rw[q]at i;cases i;obtain⟨v,p⟩:=m;exact{v,by rw[a];exact p}
  .refine(ok b u q).iF (λc v i r=>k c v ?_ r) (λc r=>by rw[Qg (d c b r)];exact r) λc l r=>by rw[Qg (f c l r)];exact r
   rcases i with rfl|i
   .exact a
   .rintro rfl;rcases o with z|z
    .exact d c b i z
    .rw[i]at z;cases z;exact g rfl
end
structure Un(fs ex:List Gc)(H H':Hp)(h h':Heap):Prop where
 keep:∀b o,h.get? b=Ga o->H b=Ge->b∉fs->b∉ex->h'.get? b=Ga o
 slot:∀b o,h.get? b=Ga o->H b=Ge->b∈fs->b∉ex->∃sl,h'.get? b=Ga {o with slots:=sl}
 free:∀b o,h.get? b=Ga o->H b=Ge->b∉ex->H' b=Ge
 there:∀b o,h.get? b=Ga o->b∉ex->∃o',h'.get? b=Ga o'
 Ql:∀b xs,H b=Ga (.tup xs)->H' b=Ga (.tup xs)
 Qan:∀b o u,H b=Ga (.frz o u)->H' b=Ga (.frz o u)
 Qce:∀b ps,H b=Ga (.tbl ps)->∃more,H' b=Ga (.tbl (ps++more))
section
variable{fs fs' ex ex':List Gc}{H H1 H2:Hp}{h h1 h2 h':Heap}{a x e:Gc}{o:HO}
theorem Un.any(u:Un fs ex H H1 h h1){a:Ek}(q:h.get? b=Ga a)(n:H b=Ge)(d:b∉ex):∃e,h1.get? b=Ga {a with slots:=e}:=by
 by_cases c:b∈fs
 .exact u.slot b a q n c d
 .exact{a.slots,u.keep b a q n c d}
theorem Un.trans(a:Un fs ex H H1 h h1)(b:Un fs ex H1 H2 h1 h2):Un fs ex H H2 h h2 where
 keep:=λc e q n g d=>b.keep c e (a.keep c e q n g d) (a.free c e q n d) g d
 slot:=λc e q n g d=>by obtain⟨m,f⟩:=a.slot c e q n g d;obtain⟨l,j⟩:=b.slot c _ f (a.free c e q n d) g d;exact⟨l,j⟩
 free:=λc e q n d=>by obtain⟨k,f⟩:=a.there c e q d;exact b.free c k f (a.free c e q n d) d
 there:=λc e q d=>by obtain⟨k,f⟩:=a.there c e q d;exact b.there c k f d
 Ql:=λc i q=>b.Ql c i (a.Ql c i q)
 Qan:=λc e i q=>b.Qan c e i (a.Qan c e i q)
 Qce:=λc o q=>by obtain⟨l,f⟩:=a.Qce c o q;obtain⟨m,j⟩:=b.Qce c _ f;exact{l++m,by rw[j,LU]}
theorem Un.kept(k:∀b u,h.get? b=Ga u->h'.get? b=Ga u):Un fs ex H H h h':=
 {λb a q _ _ _=>k b a q,λb a q _ _ _=>{a.slots,k b a q},λ_ _ _ n _=>n,λb a q _=>{a,k b a q},λ_ _ q=>q,λ_ _ _ q=>q,λ_ c q=>{#[],by rw[q];simp}}
theorem Un.refl:Un fs ex H H h h:=Un.kept λ_ _ q=>q
theorem Un.laid(k:∀b u,h.get? b=Ga u->h'.get? b=Ga u)(d:h.objs.size<=a)(c:H a=Ge):Un fs ex H (zj H a o) h h' where
 keep:=λb u q _ _ _=>k b u q
 slot:=λb u q _ _ _=>{u.slots,k b u q}
 free:=λb u q n _=>by rw[Qg (Tg (Te (Heap.lt_size q) d))];exact n
 there:=λb u q _=>{u,k b u q}
 Ql:=λb e q=>by rw[Qg (Qc q c)];exact q
 Qan:=λb u e q=>by rw[Qg (Qc q c)];exact q
 Qce:=λb f q=>{#[],by rw[Qg (Qc q c),q];simp}
theorem Un.write(c:jA (H x))(j:e=x\/H e=Ga (.own x))(k:∀b u,b≠e->h.get? b=Ga u->h'.get? b=Ga u)(d:∃u,h'.get? e=Ga u):Un fs ex H (zj H x o) h h':=by
 have i:∀b,H b=Ge->b≠x:=λb n z=>by subst z;rw[n]at c;exact c
 have g:∀b,H b=Ge->b≠e:=λb n z=>by
  subst z;rcases j with r|r
  .exact i b n r
  .rw[n]at r;cases r
 have f:∀b u,H b=Ga u->¬jA (Ga u)->b≠x:=λb u q l z=>by subst z;rw[q]at c;exact l c
 refine⟨λb u q n _ _=>k b u (g b n) q,λb u q n _ _=>{u.slots,k b u (g b n) q},λb u q n _=>by rw[Qg (i b n)];exact n,λb u q _=>?_,
  λb m q=>by rw[Qg (f b _ q λz=>z)];exact q,λb u m q=>by rw[Qg (f b _ q λz=>z)];exact q,λb p q=>{#[],by rw[Qg (f b _ q λz=>z),q];simp}⟩
 by_cases a:b=e
 .subst a;exact d
 .exact{u,k b u a q}
end
def trk(h:Heap)(H:Hp):List Gc:=(List.range h.objs.size).filter λa=>(H a).isSome
def ih(h:Heap)(H:Hp):Heap:=Bk h (trk h H)
theorem Ax(h:Heap)(H:Hp):(ih h H).objs.size=h.objs.size:=NB _ _
theorem Hn{h:Heap}(e:h.get? b=Ga o)(n:H b=Ge):(ih h H).get? b=Ga o:=
 NQ _ e λa=>by have q:(H b).isSome=Gg:=(List.mem_filter.mp a).2;rw[n]at q;simp at q
theorem Q1{h:Heap}(e:(ih h H).get? b=Ga o):h.get? b=Ga o/\H b=Ge:=by
 have a:h.get? b=Ga o:=NY (trk h H) e;exists a;cases q:H b with
 |none=>rfl
 |some x=>have c:b∈trk h H:=List.mem_filter.mpr {List.mem_range.mpr (Heap.lt_size a),by simp[q]};have z:(ih h H).get? b=Ge:=NC (trk h H) c;rw[z]at e;cases e
def BU(g h:Heap)(L:Gc):List (Gc×Ek):=(List.range h.objs.size).filterMap λa=>if a=L\/(g.get? a).isSome=Gg then Ge else(h.get? a).map λo=>(a,o)
def X9(g h:Heap)(L d:Gc):List (Gc×Ek):=(BU g h L).filter λp=>decide (p.1≠d)
structure Mod(K:Gd)(mg:GY->Option Value)(base:Heap):Prop where
 kin:K.In base
 glob:base.Ns T6 mg
 blt:∃mb,base.Ns builtinsNs mb/\∀x:GY,x≠"__name__"->mb x=bootBuiltins x
 nolimit:base.NoLimit
structure Cx where
 prog:Gi
 w:Gu
 K:Gd
 mg:GY->Option Value
 base:Heap
 A:TL
 N:List GY
 s₀:Gk
 H₀:Hp
 env:L9
 outer:List L9
 stack:List L9
 ex:List Gc
 fn:GY->Bool
 calm:Bool
 pn:List (Gc×Ek)
 xe:Value->Gk->Prop
variable{X:Cx}
def frs(l:List L9):List Gc:=l.filterMap (·.frame)
abbrev Cx.fs(X:Cx):List Gc:=frs X.outer
def pV(a:SQ)(x:GY):Prop:=a.names.lookup x=Ga .local\/a.names.lookup x=Ga .cell\/a.names.lookup x=Ga .free
def Loc(a:SQ)(x:GY):Prop:=a.names.lookup x=Ga .local\/a.names.lookup x=Ga .cell
def Look(a:L9)(h:Heap)(m:GY->Option Value)(x:GY)(u:Value):Prop:=
 (a.kindOf x=Ga .local/\m x=Ga u)\/((a.kindOf x=Ga .cell\/a.kindOf x=Ga .free)/\∃c,a.cells.lookup x=Ga c/\h.IsCell c (Ga u))
structure Cx.Ok(X:Cx):Prop where
 mod:Mod X.K X.mg X.base
 kind:X.env.scope.kind=.function
 glob:X.env.globals=T6
 blt:X.env.builtins=builtinsNs
 above:X.s₀.heap.objs.size<=X.env.locals
 inj:∀x y c,X.env.cells.lookup x=Ga c->X.env.cells.lookup y=Ga c->x=y
 has:∀x,(X.env.kindOf x=Ga .cell\/X.env.kindOf x=Ga .free)->∃c,X.env.cells.lookup x=Ga c
 cab:∀x c,X.fn x=Gg->X.env.cells.lookup x=Ga c->X.s₀.heap.objs.size<=c
 hd:X.calm=Gg->X.A.handled=Ge
 frames:X.A.frames=Ga X.stack
 stk:X.stack=X.outer\/(X.stack=X.env::X.outer/\X.env.frame=Ga X.env.locals)
 exf:∀b∈X.ex,b≠X.env.locals/\∀x c,X.env.cells.lookup x=Ga c->c≠b
 bs:∀b o,X.base.get? b=Ga o->X.s₀.heap.get? b=Ga o/\X.H₀ b=Ge
 bsz:X.base.objs.size<=X.s₀.heap.objs.size
 Qvf:∀b o,X.base.get? b=Ga o->b∉X.ex
 Qxu:∀b∈X.ex,b∉X.fs
 gO:X.s₀.heap.FunFrames X.base X.outer
 frf:∀b∈X.fs,X.H₀ b=Ge
structure zu(X:Cx)(zq:List (Gc×Ek))(σ:List (Option V))(H:Hp)(s:Gk):Prop where
 ok:X.Ok
 os:s.os=X.s₀.os
 bare:SA s.gens
 base:Un X.fs X.ex X.H₀ H X.s₀.heap s.heap
 loc:∃m,s.heap.Ns X.env.locals m/\∀(i:Nat)(x:GY)(v:V),X.N[i]?=Ga x->σ[i]?=Ga (Ga v)->pV X.env.scope x->∃u,zm v u/\Look X.env s.heap m x u
 cell:∀x c,X.env.cells.lookup x=Ga c->∃v,s.heap.IsCell c v
 free:H X.env.locals=Ge
 Ic:∀x c,X.env.cells.lookup x=Ga c->H c=Ge
 pin:∀p∈X.pn++zq,s.heap.get? p.1=Ga p.2/\H p.1=Ge/\p.1≠X.env.locals/\p.1∉X.fs/\∀v,p.2.data≠.cell v
 Zv:Ru X.prog X.w H s.heap
 len:σ.length=X.N.length
section
variable{X:Cx}{zq:List (Gc×Ek)}{σ:List (Option V)}{H H':Hp}{s:Gk}{h':Heap}
theorem Cx.Ok.QX(ok:X.Ok)(e:X.base.get? b=Ga o):b∉X.fs:=λa=>by have:=(ok.gO.mem a).1;rw[e]at this;cases this
theorem zu.bs(I:zu X zq σ H s):∀b o,X.base.get? b=Ga o->s.heap.get? b=Ga o/\H b=Ge:=λb o e=>{I.base.keep b o (I.ok.bs b o e).1 (I.ok.bs b o e).2 (I.ok.QX e) (I.ok.Qvf b o e),I.base.free b o (I.ok.bs b o e).1 (I.ok.bs b o e).2 (I.ok.Qvf b o e)}
theorem zu.bk(I:zu X zq σ H s):∀b o,X.base.get? b=Ga o->s.heap.get? b=Ga o:=λb o e=>(I.bs b o e).1
theorem zu.mod(I:zu X zq σ H s):Mod X.K X.mg X.base:=I.ok.mod
theorem zu.Il(I:zu X zq σ H s):X.K.In s.heap:=I.ok.mod.kin.keeps I.bk
theorem zu.lt(I:zu X zq σ H s):X.env.locals<s.heap.objs.size:=let⟨_,hn,_⟩:=I.loc;hn.lt
theorem zu.sz(I:zu X zq σ H s):X.s₀.heap.objs.size<=s.heap.objs.size:=Tw I.ok.above (Se I.lt)
theorem zu.UJ(I:zu X zq σ H s)(h:s.heap.objs.size<=a):a∉X.fs:=λb=>by obtain⟨_,o,c,_⟩:=I.ok.gO.mem b;exact absurd (Te (Heap.lt_size c) (Tw I.sz h)) (Ds _)
theorem zu.cne(I:zu X zq σ H s):∀x c,X.env.cells.lookup x=Ga c->c≠X.env.locals:=λx c e z=>by obtain⟨v,o,f,d⟩:=I.cell x c e;obtain⟨m,⟨i,h,g,b,a,_⟩,_⟩:=I.loc;rw[z,b]at f;cases f;rw[a]at d;cases d
theorem zu.gO(I:zu X zq σ H s):s.heap.FunFrames X.base X.outer:=by
 have all:∀(l:List L9),(∀b∈frs l,b∈X.fs)->X.s₀.heap.FunFrames X.base l->s.heap.FunFrames X.base l:=by
  intro l;induction l with
  |nil=>intro _ _;trivial
  |cons g r p=>intro f j;obtain⟨i,⟨L,o,d,k,m,h⟩,n⟩:=j;have a:L∈X.fs:=f L (by unfold frs;rw[List.filterMap_cons,d];exact List.mem_cons_self);obtain⟨q,e⟩:=I.base.slot L o m (I.ok.frf L a) a λz=>I.ok.Qxu L z a;exact{i,{L,_,d,k,e,h},p (λb c=>f b (by unfold frs;rw[List.filterMap_cons,d];exact List.mem_cons_of_mem _ c)) n}
 exact all X.outer (λ_ c=>c) I.ok.gO
theorem zu.stack(I:zu X zq σ H s):s.heap.FunFrames X.base X.stack:=by
 rcases I.ok.stk with e|⟨e,a⟩
 .rw[e];exact I.gO
 .rw[e];obtain⟨m,b,_⟩:=I.loc;refine .cons (by rw[I.ok.kind];decide) a b ?_ I.gO;exact Heap.get?_none_of_le (Tw I.ok.bsz I.ok.above)
theorem zu.md(I:zu X zq σ H s):∀b∈frs X.stack,b∈X.env.locals::X.fs:=λb a=>by
 rcases I.ok.stk with e|⟨e,c⟩
 .rw[e]at a;exact List.mem_cons_of_mem _ a
 .rw[e]at a;unfold frs at a;rw[List.filterMap_cons,c]at a;exact a
theorem zu.sQ(I:zu X zq σ H s):∀b∈frs X.stack,H b=Ge:=λb a=>by
 rcases List.mem_cons.mp (I.md b a)with e|a
 .rw[e];exact I.free
 .obtain⟨_,o,c,_⟩:=I.ok.gO.mem a;exact I.base.free b o c (I.ok.frf b a) λz=>I.ok.Qxu b z a
theorem zu.step{g':Array GenState}{Q:Nat}{d':Drawn}{ch:List Gc}(I:zu X zq σ H s)
  (g:∀b∈ch,(b∈X.ex\/X.s₀.heap.objs.size<=b)/\b≠X.env.locals/\(∀x c,X.env.cells.lookup x=Ga c->c≠b)/\∀p∈X.pn++zq,p.1≠b)
  (keep:∀b o,b≠X.env.locals->b∉X.fs->b∉ch->s.heap.get? b=Ga o->H b=Ge->h'.get? b=Ga o)
  (slot:∀b o,b≠X.env.locals->b∈X.fs->b∉ch->s.heap.get? b=Ga o->H b=Ge->∃G,h'.get? b=Ga {o with slots:=G})(free:∀b o,b∉ch->s.heap.get? b=Ga o->H b=Ge->H' b=Ge)
  (there:∀b o,b∉ch->s.heap.get? b=Ga o->∃D,h'.get? b=Ga D)
  (Ql:∀b w,H b=Ga (.tup w)->H' b=Ga (.tup w))(Qan:∀b o u,H b=Ga (.frz o u)->H' b=Ga (.frz o u))(Qce:∀b E,H b=Ga (.tbl E)->∃l,H' b=Ga (.tbl (E++l)))
  (P:∀m,s.heap.Ns X.env.locals m->h'.Ns X.env.locals m)(K:Ru X.prog X.w H' h')(M:SA g'):
  zu X zq σ H' {s with heap:=h',gens:=g',drawn:=d',toks:=Q}:=by
 have C:∀b o,X.s₀.heap.get? b=Ga o->b≠X.env.locals:=λb o e=>Tg (Te (Heap.lt_size e) I.ok.above);have t:∀b o,X.s₀.heap.get? b=Ga o->b∉X.ex->b∉ch:=λb o e a y=>by
  rcases(g b y).1 with z|z
  .exact a z
  .exact absurd (Te (Heap.lt_size e) z) (Ds _)
 have f:∀x c,X.env.cells.lookup x=Ga c->∀v,s.heap.IsCell c v->h'.IsCell c v:=λx c e v⟨o,A,F⟩=>by
  have h:c∉ch:=λz=>(g c z).2.2.1 x c e rfl;by_cases l:c∈X.fs
  .obtain⟨G,q⟩:=slot c o (I.cne x c e) l h A (I.Ic x c e);exact{_,q,F}
  .exact{o,keep c o (I.cne x c e) l h A (I.Ic x c e),F}
 refine{I.ok,I.os,M,{λb o e n y a=>?_,λb o e n y a=>?_,λb o e n a=>?_,λb o e a=>?_,λb w e=>Ql b w (I.base.Ql b w e),λb o w e=>Qan b o w (I.base.Qan b o w e),λb E e=>?_},?_,λx c e=>?_,?_,λx c e=>?_,λp J=>?_,K,I.len}
 .exact keep b o (C b o e) y (t b o e a) (I.base.keep b o e n y a) (I.base.free b o e n a)
 .obtain⟨G,j⟩:=I.base.slot b o e n y a;obtain⟨l,B⟩:=slot b _ (C b o e) y (t b o e a) j (I.base.free b o e n a);exact⟨l,B⟩
 .obtain⟨D,j⟩:=I.base.there b o e a;exact free b D (t b o e a) j (I.base.free b o e n a)
 .obtain⟨D,j⟩:=I.base.there b o e a;exact there b D (t b o e a) j
 .obtain⟨l,j⟩:=I.base.Qce b E e;obtain⟨r,B⟩:=Qce b _ j;exact{l++r,by rw[B,LU]}
 .obtain⟨m,O,N⟩:=I.loc;refine{m,P m O,λi x v j B L=>?_};obtain⟨u,r,l⟩:=N i x v j B L;exists u,r;rcases l with l|⟨k,c,e,z⟩
  .exact .inl l
  .exact .inr {k,c,e,f x c e _ z}
 .obtain⟨v,z⟩:=I.cell x c e;exact{v,f x c e v z}
 .obtain⟨m,⟨o,_,_,A,_⟩,_⟩:=I.loc;exact free _ o (λz=>(g _ z).2.1 Xb) A I.free
 .obtain⟨v,o,A,F⟩:=I.cell x c e;exact free c o (λz=>(g c z).2.2.1 x c e Xb) A (I.Ic x c e)
 .obtain⟨e,n,l,r,d⟩:=I.pin p J;have h:p.1∉ch:=λz=>(g p.1 z).2.2.2 p J rfl;exact{keep p.1 p.2 l r h e n,free p.1 p.2 h e n,l,r,d}
theorem zu.un(I:zu X zq σ H s)(u:Un X.fs [] H H' s.heap h')(h:Ru X.prog X.w H' h'):zu X zq σ H' {s with heap:=h',toks:=t'}:=by obtain⟨m,⟨o,p,l,g,r⟩,_⟩:=id I.loc;obtain⟨v,i⟩:=u.any g I.free (by simp);exact I.step (g':=s.gens) (d':=s.drawn) (ch:=[]) (λ_ z=>nomatch z) (λb o _ f _ e n=>u.keep b o e n f (by simp)) (λb o _ f _ e n=>u.slot b o e n f (by simp)) (λb o _ e n=>u.free b o e n (by simp)) (λb o _ e=>u.there b o e (by simp)) u.Ql u.Qan u.Qce (λq j=>by obtain⟨t,d,c,a,k⟩:=j;rw[g]at a;cases a;exact{_,d,c,i,k}) h I.bare
theorem zu.call{g':Array GenState}{d':Drawn}{ch:List Gc}(I:zu X zq σ H s)(u:Un (frs X.stack) ch H H' s.heap h')(k:Ru X.prog X.w H' h')(l:SA g')
  (d:∀b∈ch,(b∈X.ex\/X.s₀.heap.objs.size<=b)/\b≠X.env.locals/\(∀x c,X.env.cells.lookup x=Ga c->c≠b)/\∀p∈X.pn++zq,p.1≠b):
  zu X zq σ H' {s with heap:=h',gens:=g',drawn:=d',toks:=t'}:=by
 obtain⟨m,⟨o,g,f,j,r⟩,_⟩:=id I.loc;obtain⟨v,i⟩:=u.any j I.free λz=>(d _ z).2.1 rfl;exact I.step (ch:=ch) d (λb o i f a e n=>u.keep b o e n (λz=>(List.mem_cons.mp (I.md b z)).elim i f) a) (λb o _ _ a e n=>u.any e n a) (λb o a e n=>u.free b o e n a) (λb o a e=>u.there b o e a) u.Ql u.Qan u.Qce (λr m=>by obtain⟨t,h,g,f,q⟩:=m;rw[j]at f;cases f;exact{_,h,g,i,q}) k l
theorem zu.turned{a:Gc}(I:zu X zq σ H s)(k:∀b o,b≠a->s.heap.get? b=Ga o->h'.get? b=Ga o)(A:H a=Ge)(g:a≠X.env.locals)
  (j:a∈X.ex\/X.s₀.heap.objs.size<=a)(l:∀x c,X.env.cells.lookup x=Ga c->c≠a)(t:∀p∈X.pn++zq,p.1≠a):zu X zq σ H {s with heap:=h',toks:=t'}:=by
 have f:∀b u,H b=Ga u->b≠a:=λb u e z=>by rw[z,A]at e;cases e
 refine I.step (g':=s.gens) (d':=s.drawn) (ch:=[a]) (λb w=>?_) (λb o _ _ d e _=>k b o (λz=>d (by simp[z])) e) (λb o _ _ d e _=>{o.slots,k b o (λz=>d (by simp[z])) e}) (λ_ _ _ _ n=>n)
  (λb o d e=>{o,k b o (λz=>d (by simp[z])) e}) (λ_ _ e=>e) (λ_ _ _ e=>e) (λb h e=>{#[],by rw[e];simp}) (λm y=>?_) (λb u e=>?_) I.bare
 .have e:b=a:=by simpa using w
  subst e;exact⟨j,g,l,t⟩
 .obtain⟨o,i,h,v,r⟩:=y;exact{o,i,h,k _ o (Gp g) v,r}
 .refine(I.Zv b u e).iF (λc v d q=>k c v ?_ q) (λ_ q=>q) λ_ _ q=>q;rcases d with z|z
  .rw[z];exact f b u e
  .exact f c _ z
theorem zu.tok(I:zu X zq σ H s)(t:Nat):zu X zq σ H {s with toks:=t}:=I.un (h':=s.heap) (t':=t) Un.refl I.Zv
theorem zu.kept{t':Nat}(I:zu X zq σ H s)(k:∀b u,s.heap.get? b=Ga u->h'.get? b=Ga u):zu X zq σ H {s with heap:=h',toks:=t'}:=I.un (Un.kept k) (I.Zv.kept k)
theorem zu.laid{a:Gc}{o:HO}{t':Nat}(I:zu X zq σ H s)(k:∀b u,s.heap.get? b=Ga u->h'.get? b=Ga u)(c:s.heap.objs.size<=a)(d:Z1 X.prog X.w (zj H a o) h' a o):
  zu X zq σ (zj H a o) {s with heap:=h',toks:=t'}:=I.un (Un.laid k c (I.Zv.fresh c)) (I.Zv.laid k c d)
theorem zu.write{x e:Gc}{o:HO}{g:Nat}(I:zu X zq σ H s)(f:jA (H x))(d:e=x\/H e=Ga (.own x))(k:∀b u,b≠e->s.heap.get? b=Ga u->h'.get? b=Ga u)(a:∃u,h'.get? e=Ga u)
  (c:Z1 X.prog X.w (zj H x o) h' x o):zu X zq σ (zj H x o) {s with heap:=h',toks:=g}:=I.un (Un.write f d k a) (I.Zv.write f d k a c)
theorem zu.wu{a:List (Gc×Ek)}(I:zu X zq σ H s)(h:∀p∈a,s.heap.get? p.1=Ga p.2/\H p.1=Ge/\p.1≠X.env.locals/\p.1∉X.fs/\∀v,p.2.data≠.cell v):zu X a σ H s:=
 {I.ok,I.os,I.bare,I.base,I.loc,I.cell,I.free,I.Ic,λp b=>(List.mem_append.mp b).elim (λz=>I.pin p (List.mem_append_left _ z)) (h p),I.Zv,I.len}
theorem xF(e:N.Nodup){j:Nat}(a:N[i]?=Ga x)(b:N[j]?=Ga x):i=j:=by obtain⟨f,c⟩:=List.getElem?_eq_some_iff.mp a;obtain⟨g,d⟩:=List.getElem?_eq_some_iff.mp b;exact(List.getElem_inj e).mp (c.trans d.symm)
theorem xP{ab:Unit->Gk->Prop}(b:zu X zq σ H s)(hN:X.N.Nodup)(F:X.N[i]?=Ga x)(l:Loc X.env.scope x)(ae:zm v u)
  (ac:∀r,zu X zq (σ.set i (Ga v)) H r->(∃a,Heap.SameBut a s.heap r.heap/\(a=X.env.locals\/X.env.cells.lookup x=Ga a))->ab () r)(hf:X.fn x=Gg\/X.env.scope.names.lookup x=Ga .local:=by first|exact .inl rfl|exact .inr rfl|assumption):wpAny M A (storeName X.env x u) ab E s:=by
 obtain⟨ai,Q,hl⟩:=id b.loc;have ah:(X.env.scope.kind==.class||(X.env.scope.kind==.module&&X.env.locals !=X.env.globals))=Gq:=by rw[b.ok.kind];rfl
 have ad:i<σ.length:=by rw[b.len];exact(List.getElem?_eq_some_iff.mp F).1
 have O:=b.cne;have af:∀{a:Gc}{C:Heap},(∃m,s.heap.get? a=Ga m/\H a=Ge)->Heap.SameBut a s.heap C->Ru X.prog X.w H C:=λ{a C}ha f g ob e=>by
  obtain⟨_,_,r⟩:=ha;refine(b.Zv g ob e).iF (λc L j q=>(f.2 c ?_).trans q) (λ_ q=>q) λ_ _ q=>q;rintro rfl;rcases j with rfl|j
  .rw[r]at e;cases e
  .rw[r]at j;cases j
 rcases l with t|t
 .refine wpAny_storeName_local t Q (λC r f=>?_) ah;obtain⟨I,_,_,D,_⟩:=id Q;refine ac _ {b.ok,b.os,b.bare,{λg m e n w l=>?_,λg m e n w l=>?_,b.base.free,λg m e l=>?_,b.base.Ql,b.base.Qan,b.base.Qce},{_,r,λG y Y h o P=>?_},λy c e=>?_,b.free,b.Ic,λp R=>?_,af {I,D,b.free} f,by simpa using b.len} {_,f,.inl Xb}
  .exact(f.2 g (Tg (Te (Heap.lt_size e) b.ok.above))).trans (b.base.keep g m e n w l)
  .obtain⟨V,h⟩:=b.base.slot g m e n w l;exact{V,(f.2 g (Tg (Te (Heap.lt_size e) b.ok.above))).trans h}
  .obtain⟨T,h⟩:=b.base.there g m e l;exact{T,(f.2 g (Tg (Te (Heap.lt_size e) b.ok.above))).trans h}
  .by_cases B:G=i
   .subst B;rw[F]at h;cases h;rw[List.getElem?_set_self ad]at o;cases o;exact{u,ae,.inl {t,by simp}}
   .rw[List.getElem?_set_ne (Gp B)]at o;obtain⟨W,U,q⟩:=hl G y Y h o P;exists W,U;rcases q with⟨k,e⟩|⟨k,c,e,z⟩
    .refine .inl {k,?_};have:y≠x:=λe=>B (xF hN h (e▸F));simp[this,e]
    .exact .inr {k,c,e,z.sameBut f (O y c e)}
  .obtain⟨L,z⟩:=b.cell y c e;exact{L,z.sameBut f (O y c e)}
  .obtain⟨e,n,K,S,d⟩:=b.pin p R;exact{(f.2 p.1 K).trans e,n,K,S,d}
 .have N:X.fn x=Gg:=by
   rcases hf with z|z
   .exact z
   .rw[z]at t;cases t
  obtain⟨c,j⟩:=b.ok.has x (.inl t);obtain⟨L,z⟩:=b.cell x c j;refine wpAny_storeName_cell b.ok.kind t j z (λC Z f=>?_);obtain⟨oc,aa,ag⟩:=id z;refine ac {s with heap:=C} {b.ok,b.os,b.bare,{λg m e n w l=>?_,λg m e n w l=>?_,b.base.free,λg m e l=>?_,b.base.Ql,b.base.Qan,b.base.Qce},{ai,Q.sameBut f (Gp (O x c j)),λG y Y h o P=>?_},λy D e=>?_,b.free,b.Ic,λp R=>?_,af {oc,aa,b.Ic x c j} f,by simpa using b.len} {c,f,.inr j}
  .exact(f.2 g (Tg (Te (Heap.lt_size e) (b.ok.cab x c N j)))).trans (b.base.keep g m e n w l)
  .obtain⟨V,h⟩:=b.base.slot g m e n w l;exact{V,(f.2 g (Tg (Te (Heap.lt_size e) (b.ok.cab x c N j)))).trans h}
  .obtain⟨T,h⟩:=b.base.there g m e l;exact{T,(f.2 g (Tg (Te (Heap.lt_size e) (b.ok.cab x c N j)))).trans h}
  .by_cases B:G=i
   .subst B;rw[F]at h;cases h;rw[List.getElem?_set_self ad]at o;cases o;exact{u,ae,.inr {.inl t,c,j,Z}}
   .rw[List.getElem?_set_ne (Gp B)]at o;obtain⟨W,U,q⟩:=hl G y Y h o P;exists W,U;rcases q with q|⟨k,D,e,r⟩
    .exact .inl q
    .refine .inr {k,D,e,r.sameBut f ?_};rintro rfl;exact B (xF hN h (b.ok.inj _ _ _ e j▸F))
  .by_cases r:D=c
   .subst r;exact{_,Z}
   .obtain⟨I,J⟩:=b.cell y D e;exact{I,J.sameBut f r}
  .obtain⟨e,n,K,S,d⟩:=b.pin p R;refine{(f.2 p.1 ?_).trans e,n,K,S,d};intro q;rw[q,aa]at e;have r:oc=p.2:=To e;exact d L (by rw[<-r];exact ag)
theorem um{Q:Unit->Gk->Prop}(I:zu X zq σ H s)(c:X.N.Nodup)(e:X.N[i]?=Ga x)(f:Loc X.env.scope x)(r:zm v u)
  (h:∀a,zu X zq (σ.set i (Ga v)) H a->Q () a)(d:X.fn x=Gg\/X.env.scope.names.lookup x=Ga .local:=by first|exact .inl rfl|exact .inr rfl|assumption):wpAny M A (storeName X.env x u) Q E s:=
 xP I c e f r (λa b _=>h a b) d
theorem zu.P6{a:Gk}{ch:List Gc}(I:zu X zq σ H s)(h:a.os=s.os)(u:Un (frs X.stack) ch H H' s.heap a.heap)(f:Ru X.prog X.w H' a.heap)(g:SA a.gens)
  (d:∀b∈ch,(b∈X.ex\/X.s₀.heap.objs.size<=b)/\b≠X.env.locals/\(∀x c,X.env.cells.lookup x=Ga c->c≠b)/\∀p∈X.pn++zq,p.1≠b):zu X zq σ H' a:=by
 obtain⟨j,g',d',t',i⟩:=a;have e:i=s.os:=h;subst e;exact I.call (g':=g') (t':=t') (d':=d') u f g d
end
abbrev XK:=Value->Option Gc->Hp->Prop
abbrev St:=List (Option V)
variable{σ:St}
abbrev VK:=V->Hp->Prop
abbrev TE:=St->Hp->VK->Prop
variable{t te:TE}
abbrev TT:=St->Hp->(Bool->Hp->Prop)->Prop
abbrev TA:=St->Hp->(List V->Hp->Prop)->Prop
structure Ends where
 nx:St->Hp->Prop
 rt:VK
 bk:St->Hp->Prop:=λ_ _=>False
 ct:St->Hp->Prop:=λ_ _=>False
variable{D:Ends}
abbrev TS:=Ends->St->Hp->Prop
variable{tb:TS}
inductive EP(X:Cx)(zq:List (Gc×Ek))(σ:St)(Q:VK)(u:Value)(s':Gk):Prop
 |mk (v:_) (H':_) (h0:zu X zq σ H' s') (h1:zm v u) (h2:Q v H'):EP X zq σ Q u s'
def TP(X:Cx)(zq:List (Gc×Ek))(σ:St)(Q:Bool->Hp->Prop)(b:Bool)(s':Gk):Prop:=∃H',zu X zq σ H' s'/\Q b H'
inductive AP(X:Cx)(zq:List (Gc×Ek))(σ:St)(Q:List V->Hp->Prop)(us:List Value)(s':Gk):Prop
 |mk (vs:_) (H':_) (h0:zu X zq σ H' s') (h1:Zt vs us) (h2:Q vs H'):AP X zq σ Q us s'
def SP(X:Cx)(zq:List (Gc×Ek))(D:Ends)(f:Flow)(s':Gk):Prop:=
 match f with
 |.next=>∃a H',zu X zq a H' s'/\D.nx a H'
 |.brk=>∃a H',zu X zq a H' s'/\D.bk a H'
 |.cont=>∃a H',zu X zq a H' s'/\D.ct a H'
 |.ret u=>∃v a H',zu X zq a H' s'/\zm v u/\D.rt v H'
def PE(X:Cx)(e:TY)(t:TE):Prop:=
 ∀(zq:List (Gc×Ek))(s:Gk)(σ:St)(H:Hp)(Q:VK),zu X zq σ H s->t σ H Q->wpAny (Tb X.prog X.w) X.A (eval e X.env) (EP X zq σ Q) X.xe s
def PT(X:Cx)(e:TY)(t:TT):Prop:=
 ∀(zq:List (Gc×Ek))(s:Gk)(σ:St)(H:Hp)(Q:Bool->Hp->Prop),zu X zq σ H s->t σ H Q->wpAny (Tb X.prog X.w) X.A (isTrue e X.env (eval e X.env)) (TP X zq σ Q) X.xe s
def PW(X:Cx)(e:TY)(t:TT):Prop:=
 ∀(a:Bv Value)(zq:List (Gc×Ek))(s:Gk)(σ:St)(H:Hp)(Q:Bool->Hp->Prop),zu X zq σ H s->t σ H Q->wpAny (Tb X.prog X.w) X.A (isTrue e X.env a) (TP X zq σ Q) X.xe s
theorem PW.pt{t:TT}(h:PW X e t):PT X e t:=h _
def PA(X:Cx)(es:List TY)(t:TA):Prop:=
 ∀(pos:SX)(zq:List (Gc×Ek))(s:Gk)(σ:St)(H:Hp)(Q:List V->Hp->Prop),zu X zq σ H s->t σ H Q->wpAny (Tb X.prog X.w) X.A (spliced (DX pos (Ti es X.env))) (AP X zq σ Q) X.xe s
def PS(X:Cx)(st:Db)(t:TS):Prop:=
 ∀(zq:List (Gc×Ek))(s:Gk)(σ:St)(H:Hp)(D:Ends),zu X zq σ H s->t D σ H->wpAny (Tb X.prog X.w) X.A (exec st X.env) (SP X zq D) X.xe s
def Ik(X:Cx)(st:List Db)(t:TS):Prop:=
 ∀(zq:List (Gc×Ek))(s:Gk)(σ:St)(H:Hp)(D:Ends),zu X zq σ H s->t D σ H->wpAny (Tb X.prog X.w) X.A (execs st X.env) (SP X zq D) X.xe s
theorem Yi{c:Type}{t:Bv c}{Q b:c->Gk->Prop}(h:wpAny M A t Q E s)(d:∀a s,Q a s->b a s):wpAny M A t b E s:=DI h d λ_ _ x=>x
section
variable{X:Cx}
theorem bin{a b:TY}{g i:TE}(m:PE X a g)(n:PE X b i){R:V->V->Hp->Prop}(I:zu X zq σ H s)(h:g σ H λx H1=>i σ H1 λy H2=>R x y H2)
  {j:Type}{Q:j->Gk->Prop}{f:Value->Value->Bv j}
  (o:∀v u e x y H2,zu X zq σ H2 e->zm x v->zm y u->R x y H2->wpAny (Tb X.prog X.w) X.A (f v u) Q X.xe e):
  wpAny (Tb X.prog X.w) X.A (eval a X.env) (λv c=>wpAny (Tb X.prog X.w) X.A (eval b X.env) (λu d=>wpAny (Tb X.prog X.w) X.A (f v u) Q X.xe d) X.xe c) X.xe s:=by
 refine Yi (m zq s σ H _ I h) λv w⟨x,H1,k,r,p⟩=>?_;refine Yi (n zq w σ H1 _ k p) λu e⟨y,H2,l,t,q⟩=>?_;exact o v u e x y H2 l r t q
inductive sM(i:Nat)(σ:St)(H:Hp)(Q:VK):Prop
 |mk (v:_) (h0:σ[i]?=Ga (Ga v)) (h1:Q v H):sM i σ H Q
def Vw(i:Nat):TE:=λσ H Q=>sM i σ H Q
def tC(v:V):TE:=λ_ H Q=>Q v H
theorem A9(n:X.N[i]?=Ga x)(t:pV X.env.scope x)(j:(x==("__debug__":GY))=Gq:=by decide)(g:(x==("__classdict__":GY))=Gq:=by decide):PE X (.Name x pos) (Vw i):=by
 intro f s w H Q I h;obtain⟨v,e,h⟩:=h;obtain⟨m,q,o⟩:=I.loc;obtain⟨u,r,l⟩:=o i x v n e t;have b:EP X f w Q u s:=⟨v,H,I,r,h⟩;rcases l with⟨d,p⟩|⟨d,c,k,a⟩
 .exact FR (wpAny_loadName_local I.ok.kind d q p b) j
 .rcases d with d|d
  .exact FR (wpAny_loadName_cell I.ok.kind d k a b) j
  .exact FR (wpAny_loadName_free I.ok.kind d k a b g) j
theorem Qj{i j pos}:PE X (.Constant (.int i) j pos) (tC (.int i)):=λ_ _ _ H _ I h=>wpAny_Constant_int {.int i,H,I.tok _,{_,Xb},h}
theorem Ww{b j pos}:PE X (.Constant (.bool b) j pos) (tC (.bl b)):=λ_ _ _ H _ I h=>Constant_bool {.bl b,H,I,Xb,h}
theorem Ux{j pos}:PE X (.Constant .none j pos) (tC .non):=λ_ _ _ H _ I h=>LL {.non,H,I,Xb,h}
theorem Q7{x j pos}:PE X (.Constant (.str x) j pos) (tC (.str x)):=λ_ _ _ H _ I h=>Calls.Constant_str {.str x,H,I.tok _,{_,Xb},h}
def Gl(X:Cx)(x:GY):Prop:=X.env.kindOf x=Ga .globalImplicit
theorem lG(I:zu X zq σ H s)(b:Gl X x)(c:X.mg x=Ga u)(h:Q u s)
  (a:(x==("__debug__":GY))=Gq:=by decide):wpAny (Tb X.prog X.w) X.A (eval (.Name x pos) X.env) Q E s:=
 Sk I.ok.kind b (Calls.loadGlobal_global (by rw[I.ok.glob];exact I.mod.glob.keeps I.bk) c h) a
theorem V6(I:zu X zq σ H s)(d:Gl X x)(e:X.mg x=Ge)(g:bootBuiltins x=Ga u)(h:Q u s)
  (f:x≠"__name__":=by decide)(c:(x==("__debug__":GY))=Gq:=by decide):wpAny (Tb X.prog X.w) X.A (eval (.Name x pos) X.env) Q E s:=by
 obtain⟨i,a,b⟩:=I.mod.blt;exact Sk I.ok.kind d (Calls.loadGlobal_builtin (by rw[I.ok.glob];exact I.mod.glob.keeps I.bk) e (by rw[I.ok.blt];exact a.keeps I.bk) ((b x f).trans g) h) c
theorem Ot(b:Gl X x)(c:X.mg x=Ga u)(r:zm v u)(a:(x==("__debug__":GY))=Gq:=by decide):PE X (.Name x pos) (tC v):=
 λ_ _ _ H _ I h=>lG I b c ⟨v,H,I,r,h⟩ a
theorem Xn(b:Gl X x)(c:X.mg x=Ge)(e:bootBuiltins x=Ga u)(r:zm v u)(d:x≠"__name__":=by decide)(a:(x==("__debug__":GY))=Gq:=by decide):PE X (.Name x pos) (tC v):=
 λ_ _ _ H _ I h=>V6 I b c e ⟨v,H,I,r,h⟩ d a
variable{a b:TY}{ta tb:TE}{pos:SX}
def PC(X:Cx)(e:CmpOp)(a b:TY)(t:TE):Prop:=
 ∀(zq:List (Gc×Ek))(s:Gk)(σ:St)(H:Hp)(Q:VK),zu X zq σ H s->t σ H Q->
  wpAny (Tb X.prog X.w) X.A (eval a X.env) (λv c=>wpAny (Tb X.prog X.w) X.A (eval b X.env) (λu d=>wpAny (Tb X.prog X.w) X.A (Dl e v u) (EP X zq σ Q) X.xe d) X.xe c) X.xe s
theorem Pu(b:TY)(h:op≠.In)(d:op≠.NotIn):behindInMarks op b=Gq:=by
 have a:(op==Bo)=Gq:=by cases op<;>first|rfl|exact absurd rfl h
 have c:(op==ND)=Gq:=by cases op<;>first|rfl|exact absurd rfl d
 cases b<;>simp[behindInMarks,a,c]
def KF(ta:TE):TE:=λσ H Q=>ta σ H λx H1=>Q (.bl (decide (x=.non))) H1
def C8(ta:TE):TE:=λσ H Q=>ta σ H λx H1=>Q (.bl (!decide (x=.non))) H1
theorem zm.uY{x:V}{v:Value}(r:zm x v):(v==Value.none)=decide (x=.non):=by
 cases x with
 |non=>cases r;rfl
 |bl _=>cases r;rfl
 |int _=>obtain⟨t,rfl⟩:=r;rfl
 |str _=>obtain⟨t,rfl⟩:=r;rfl
 |byt _=>obtain⟨t,rfl⟩:=r;rfl
 |flt _=>obtain⟨t,rfl⟩:=r;rfl
 |ref _=>cases r;rfl
 |ty _=>cases r;rfl
theorem QE{j pos'}(e:PE X a ta):PC X .Is a (.Constant .none j pos') (KF ta):=by intro b s i H Q I h;refine Yi (e b s i H _ I h) λv k⟨x,c,d,g,f⟩=>?_;exact LL (NE {.bl _,c,d,by rw[g.uY];rfl,f})
theorem rH{j pos'}(e:PE X a ta):PC X .IsNot a (.Constant .none j pos') (C8 ta):=by intro b s i H Q I h;refine Yi (e b s i H _ I h) λv k⟨x,c,d,g,f⟩=>?_;exact LL (FS {.bl _,c,d,by rw[g.uY];rfl,f})
inductive iTB(Q:Bool->Hp->Prop)(x:V)(H1:Hp):Prop
 |mk (c:_) (h0:x=.bl c) (h1:Q c H1):iTB Q x H1
def tB(t:TE):TT:=λσ H Q=>t σ H λx H1=>iTB Q x H1
theorem R7(h:PC X op a b t)(f:behindInMarks op b=Gq:=by first|exact Pu _ (by decide) (by decide)|rfl):PT X (.Compare a [op] [b] pos) (tB t):=by intro e s m H Q I hw;refine Lo (Yi (h e s m H _ I hw) λv n f=>Yi f λu o j=>Yi j λc p⟨x,g,i,l,k⟩=>?_) f;obtain⟨d,rfl,q⟩:=k;cases l;exact Dx ⟨g,i,q⟩
theorem Wb(h:PE X e t)(f:∀a,isTrue e X.env a=(do let v<-a;standAt e.pos;holding [v] (truthy v)):=by intro _;rfl):PT X e (tB t):=by intro a s j H Q I hw;refine Nh (Yi (h a s j H _ I hw) λv k⟨x,b,c,i,g⟩=>?_) (f _);obtain⟨d,rfl,q⟩:=g;cases i;exact Dx ⟨b,c,q⟩
variable{tA tB':TT}{X9:List TY}
def Pm(t u:TT):TT:=λσ H Q=>t σ H λc H1=>if c=Gg then u σ H1 Q else Q Gq H1
def tOr(t u:TT):TT:=λσ H Q=>t σ H λc H1=>if c=Gg then Q Gg H1 else u σ H1 Q
def z9(t:TT):TT:=λσ H Q=>t σ H λc H1=>Q (!c) H1
theorem Uq(d:PT X a tA):PW X (.BoolOp .And [a] pos) tA:=by
 intro i b s f H Q I h;refine NZ (Yi (d b s f H Q I h) λc g e=>?_);cases c with
 |true=>exact isTrue_and_nil e
 |false=>exact e
theorem Ia(d:PT X a tA):PW X (.BoolOp .Or [a] pos) tA:=by
 intro i b s f H Q I h;refine isTrue_or (Yi (d b s f H Q I h) λc g e=>?_);cases c with
 |false=>exact isTrue_or_nil e
 |true=>exact e
theorem J9(j:PT X a tA)(k:PW X (.BoolOp .And (b::X9) pos) tB'):PW X (.BoolOp .And (a::b::X9) pos) (Pm tA tB'):=by
 intro m d s i H Q I h;refine NZ (Yi (j d s i H _ I h) λc l⟨e,f,g⟩=>?_);cases c with
 |true=>exact k m d l i e Q f g
 |false=>exact⟨e,f,g⟩
theorem Rx(j:PT X a tA)(k:PW X (.BoolOp .Or (b::X9) pos) tB'):PW X (.BoolOp .Or (a::b::X9) pos) (tOr tA tB'):=by
 intro m d s i H Q I h;refine isTrue_or (Yi (j d s i H _ I h) λc l⟨e,f,g⟩=>?_);cases c with
 |true=>exact⟨e,f,g⟩
 |false=>exact k m d l i e Q f g
theorem Jy(e:PT X a tA):PT X (.UnaryOp .Not a pos) (z9 tA):=by intro b s f H Q I h;exact isTrue_not (e b s f H (λc d=>Q (!c) d) I h)
inductive sT(tb:TE)(σ:St)(Q:VK)(x:V)(H1:Hp):Prop
 |mk (c:_) (h0:x=.bl c) (h1:if c=Gg then tb σ H1 Q else Q (.bl Gq) H1):sT tb σ Q x H1
def zX(ta tb:TE):TE:=λσ H Q=>ta σ H λx H1=>sT tb σ Q x H1
inductive rQ(Q:VK)(x:V)(H1:Hp):Prop
 |mk (c:_) (h0:x=.bl c) (h1:Q (.bl (!c)) H1):rQ Q x H1
def UH(ta:TE):TE:=λσ H Q=>ta σ H λx H1=>rQ Q x H1
theorem rP{c}(h:PE X a t):PE X (.BoolOp c [a] pos) t:=λb s d H Q I hw=>BoolOp_one (h b s d H Q I hw)
theorem JC(j:PE X a ta)(k:PE X (.BoolOp .And (b::X9) pos) tb):PE X (.BoolOp .And (a::b::X9) pos) (zX ta tb):=by
 intro d s i H Q I h;refine BoolOp_and (Yi (j d s i H _ I h) λv m⟨x,f,g,l,e⟩=>?_);obtain⟨c,rfl,e⟩:=e;cases l;refine Dx ?_;cases c with
 |true=>exact k d m i f Q g e
 |false=>exact{.bl Gq,f,g,Xb,e}
theorem AO(g:PE X a ta):PE X (.UnaryOp .Not a pos) (UH ta):=by intro b s j H Q I h;refine UnaryOp_ (Yi (g b s j H _ I h) λv k⟨x,e,f,i,d⟩=>?_);obtain⟨c,rfl,d⟩:=d;cases i;exact not_of (Dx {.bl (!c),e,f,Xb,d})
def tIf(t:TT)(ta tb:TE):TE:=λσ H Q=>t σ H λc H1=>if c=Gg then ta σ H1 Q else tb σ H1 Q
theorem B4(n:PT X c tA)(l:PE X a ta)(m:PE X b tb):PE X (.IfExp c a b pos) (tIf tA ta tb):=by
 intro e s f H Q I h;refine wpAny_IfExp (Yi (n e s f H _ I h) λd k⟨g,i,j⟩=>?_);cases d with
 |true=>exact l e k f g Q i j
 |false=>exact m e k f g Q i j
end
def Zb(K:Gd)(H:Hp)(a:Gc)(xs:List V):Prop:=
 Rd H a (.lst xs)\/
  ∃(o:Ek)(b:Array Value)(n:Nat),K.lookup a=Ga o/\o.cls=.type "list"/\o.dict=Ge/\o.data=.seq b n/\b.size<=Gj/\Zt xs b.toList
def Zz(K:Gd)(H:Hp)(a:Gc)(xs:List V):Prop:=
 Rd H a (.tup xs)\/
  ∃(o:Ek)(b:Array Value)(n:Nat),K.lookup a=Ga o/\o.cls=.type "tuple"/\o.data=.seq b n/\b.size<=Gj/\Zt xs b.toList
def zT:Value->Option V
 |.none=>Ga .non
 |.bool b=>Ga (.bl b)
 |.int i _=>Ga (.int i)
 |.str x _=>Ga (.str x)
 |.bytes b _=>Ga (.byt b)
 |.float b _=>Ga (.flt b)
 |.ref a=>Ga (.ref a)
 |.type n=>Ga (.ty n)
 |_=>Ge
theorem zm.abs{x:V}(r:zm x u):zT u=Ga x:=by
 cases x with
 |non=>cases r;rfl
 |bl _=>cases r;rfl
 |int _=>obtain⟨t,rfl⟩:=r;rfl
 |str _=>obtain⟨t,rfl⟩:=r;rfl
 |byt _=>obtain⟨t,rfl⟩:=r;rfl
 |flt _=>obtain⟨t,rfl⟩:=r;rfl
 |ref _=>cases r;rfl
 |ty _=>cases r;rfl
theorem zm.inj{x y:V}{u:Value}(r:zm x u)(q:zm y u):x=y:=To (r.abs.symm.trans q.abs)
theorem Zt.inj:∀{b c:List V}{a:List Value},Zt b a->Zt c a->b=c
 |_,_,_,.nil,.nil=>rfl
 |_,_,_,.cons r t,.cons d e=>by rw[r.inj d,Zt.inj t e]
section
variable{X:Cx}{zq:List (Gc×Ek)}{σ:St}{H:Hp}{s:Gk}{a:Gc}{xs ys:List V}
theorem Zb.of(h:H a=Ga (.lst xs)):Zb K H a xs:=.inl (.inl h)
theorem Zz.of(h:H a=Ga (.tup xs)):Zz K H a xs:=.inl (.inl h)
theorem zu.list(I:zu X zq σ H s)(h:Zb X.K H a xs):∃b:List Value,Zt xs b/\PlainL s.heap a b.toArray/\xs.length<=Gj:=by
 rcases h with h|⟨o,b,n,f,c,d,g,i,r⟩
 .obtain⟨z,b,n,r,e⟩:=h.ok I.Zv;exact{b,r,{_,n,e,Xb,Xb,Xb},z}
 .exists b.toList,r,{o,n,I.Il a o f,c,d,by simpa using g};have e:=r.length;simp only[TF]at e;ext
theorem zu.tuple(I:zu X zq σ H s)(h:Zz X.K H a xs):∃b:List Value,Zt xs b/\IsTup s.heap a b.toArray/\xs.length<=Gj:=by
 rcases h with h|⟨o,b,n,d,c,f,g,r⟩
 .obtain⟨z,b,r,p⟩:=h.ok I.Zv;exact⟨b,r,p,z⟩
 .exists b.toList,r,{o,I.Il a o d,c,n,by simpa using f};have e:=r.length;simp only[TF]at e;ext
theorem zu.qr(I:zu X zq σ H s)(h:Zb X.K H a xs)(j:Zb X.K H a ys):xs=ys:=by
 obtain⟨c,r,⟨o,n,e,_,_,d⟩,_⟩:=I.list h;obtain⟨b,k,⟨m,l,g,_,_,f⟩,_⟩:=I.list j;rw[e]at g;cases g;rw[d]at f;injection f with i _;have:c=b:=by simpa using congrArg Ni i
 subst this;exact r.inj k
theorem zu.HX(I:zu X zq σ H s)(h:Zz X.K H a xs)(j:Zz X.K H a ys):xs=ys:=by
 obtain⟨c,r,⟨o,e,_,n,d⟩,_⟩:=I.tuple h;obtain⟨b,k,⟨m,g,_,l,f⟩,_⟩:=I.tuple j;rw[e]at g;cases g;rw[d]at f;injection f with i _;have:c=b:=by simpa using congrArg Ni i
 subst this;exact r.inj k
end
abbrev Cx.hB(X:Cx)(E:Value->Gk->Prop):Cx:={X with xe:=E}
abbrev Cx.nox(X:Cx):Cx:=X.hB λ_ _=>False
theorem Cx.Ok.hB{X:Cx}(ok:X.Ok)(E:Value->Gk->Prop):(X.hB E).Ok:=
 {ok.mod,ok.kind,ok.glob,ok.blt,ok.above,ok.inj,ok.has,ok.cab,ok.hd,ok.frames,ok.stk,ok.exf,ok.bs,ok.bsz,ok.Qvf,ok.Qxu,ok.gO,ok.frf}
theorem Cx.Ok.Ir(ok:(X.hB E).Ok):X.Ok:=
 {ok.mod,ok.kind,ok.glob,ok.blt,ok.above,ok.inj,ok.has,ok.cab,ok.hd,ok.frames,ok.stk,ok.exf,ok.bs,ok.bsz,ok.Qvf,ok.Qxu,ok.gO,ok.frf}
section
variable{X:Cx}{zq:List (Gc×Ek)}{σ:St}{H:Hp}{s:Gk}{E:Value->Gk->Prop}
theorem zu.hB(I:zu X zq σ H s)(E:Value->Gk->Prop):zu (X.hB E) zq σ H s:={I.ok.hB E,I.os,I.bare,I.base,I.loc,I.cell,I.free,I.Ic,I.pin,I.Zv,I.len}
theorem zu.Ir(I:zu (X.hB E) zq σ H s):zu X zq σ H s:={I.ok.Ir,I.os,I.bare,I.base,I.loc,I.cell,I.free,I.Ic,I.pin,I.Zv,I.len}
theorem SP.Ir{D:Ends}{f:Flow}{c:Gk}(h:SP (X.hB E) zq D f c):SP X zq D f c:=by
 cases f with
 |next=>obtain⟨a,b,I,q⟩:=h;exact⟨a,b,I.Ir,q⟩
 |brk=>obtain⟨a,b,I,q⟩:=h;exact{a,b,I.Ir,q}
 |cont=>obtain⟨a,b,I,q⟩:=h;exact{a,b,I.Ir,q}
 |ret u=>obtain⟨v,a,b,I,r,q⟩:=h;exact{v,a,b,I.Ir,r,q}
theorem Ik.nox{b:List Db}{t:TS}(h:Ik X.nox b t):Ik X b t:=λa s c H D I hw=>DI (h a s c H D (I.hB _) hw) (λ_ _ q=>q.Ir) λ_ _ z=>False.elim z
end
section
variable{X:Cx}{st:Db}{X9:List Db}{t u:TS}{e:TY}{te:TE}{pos:SX}
def Ce:TS:=λD σ H=>D.nx σ H
def Kr(t u:TS):TS:=λD σ H=>t {D with nx:=u D} σ H
theorem Q6:Ik X [] Ce:=λ_ _ a H _ I h=>E7 ⟨a,H,I,h⟩
theorem Qd(e:PS X st t)(g:Ik X X9 u):Ik X (st::X9) (Kr t u):=by
 intro a s j H D I h;refine Fu (Yi (e a s j H {D with nx:=u D} I h) λf i q=>?_);cases f with
 |next=>obtain⟨b,c,d,q⟩:=q;exact g a i b c D d q
 |ret v=>exact q
 |brk=>exact q
 |cont=>exact q
theorem Qh(b:PS X st t):Ik X [st] t:=by
 intro a s c H D I h;refine Fu (Yi (b a s c H D I h) λf d q=>?_);cases f with
 |next=>exact E7 q
 |ret v=>exact q
 |brk=>exact q
 |cont=>exact q
def JG:TS:=λD σ H=>D.ct σ H
theorem P4:PS X (.Continue pos) JG:=λ_ _ a H _ I h=>wpAny_Continue ⟨a,H,I,h⟩
theorem zu.quiet(I:zu X zq σ H s):interactive X.env=Gq:=by simp[interactive,I.ok.kind]
def KG(te:TE):TS:=λD σ H=>te σ H λ_ H1=>D.nx σ H1
theorem Zc(f:PE X e te)(g:swapsWith e Ge pos.line X.env=pure Gq:=by rfl):PS X (.Expr e pos) (KG te):=by intro a s b H D I h;exact wpAny_Expr_any (Yi (f a s b H _ I h) λv k⟨x,c,d,j,i⟩=>⟨b,c,d,i⟩) I.quiet g
def IU(te:TE):TS:=λD σ H=>te σ H D.rt
theorem Qv(f:PE X e te):PS X (.Return (Ga e) pos) (IU te):=by intro a s b H D I h;exact wpAny_Return_some (Yi (f a s b H _ I h) λv j⟨x,c,d,i,g⟩=>⟨x,b,c,d,i,g⟩)
def UG:TS:=λD _ H=>D.rt .non H
theorem Pn:PS X (.Return Ge pos) UG:=λ_ _ a H _ I h=>wpAny_Return_none {.non,a,H,I,Xb,h}
def Hd(c:TT)(t u:TS):TS:=λD σ H=>c σ H λb H1=>if b=Gg then t D σ H1 else u D σ H1
theorem Zq{a b:List Db}{l:TT}(o:PT X c l)(m:Ik X a t)(n:Ik X b u):PS X (.If c a b pos) (Hd l t u):=by
 intro e s f H D I h;refine wpAny_If (Yi (o e s f H _ I h) λd k⟨g,i,j⟩=>?_);cases d with
 |true=>exact m e k f g D i j
 |false=>exact n e k f g D i j
end
abbrev TG:=V->St->Hp->(St->Hp->Prop)->Prop
variable{g:TG}
abbrev hZ:=List V->St->Hp->(St->Hp->Prop)->Prop
def PG(X:Cx)(a:TY)(t:TG):Prop:=
 ∀(zq:List (Gc×Ek))(s:Gk)(σ:St)(H:Hp)(v:V)(u:Value)(Q:St->Hp->Prop),zu X zq σ H s->zm v u->t v σ H Q->
  wpAny (Tb X.prog X.w) X.A (assign a X.env u) (λ_ s'=>∃b H',zu X zq b H' s'/\Q b H') X.xe s
def l7(X:Cx)(ts:List TY)(t:hZ):Prop:=
 ∀(zq:List (Gc×Ek))(s:Gk)(σ:St)(H:Hp)(c:List V)(b:List Value)(Q:St->Hp->Prop),zu X zq σ H s->Zt c b->t c σ H Q->
  wpAny (Tb X.prog X.w) X.A (assignInOrder ((assignEach ts X.env).map (·.2)) b) (λ_ s'=>∃a H',zu X zq a H' s'/\Q a H') X.xe s
abbrev l9:=V->V->V->Hp->(Hp->Prop)->Prop
def yL(X:Cx)(t:l9):Prop:=
 ∀(zq:List (Gc×Ek))(s:Gk)(σ:St)(H:Hp)(o i v:V)(ov a u:Value)(Q:Hp->Prop),zu X zq σ H s->zm o ov->zm i a->zm v u->t o i v H Q->
  wpAny (Tb X.prog X.w) X.A (setItem ov a u) (λ_ s'=>∃H',zu X zq σ H' s'/\Q H') X.xe s
section
variable{X:Cx}{pos:SX}
def Vn(i:Nat):TG:=λv σ H Q=>Q (σ.set i (Ga v)) H
theorem Xe(c:X.N.Nodup)(e:X.N[i]?=Ga x)(f:Loc X.env.scope x)(d:X.fn x=Gg\/X.env.scope.names.lookup x=Ga .local:=by first|exact .inl rfl|exact .inr rfl|assumption):PG X (.Name x pos) (Vn i):=by intro a s j H v u Q I r h;exact Fa (um I c e f r (λg b=>{_,H,b,h}) d)
theorem Z6(i:Nat)(a:X.N.Nodup)(c:X.N[i]?=Ga x:=by rfl)(d:Loc X.env.scope x:=by exact De Xb)(b:X.fn x=Gg\/X.env.scope.names.lookup x=Ga .local:=by first|exact .inl rfl|exact .inr rfl|assumption):PG X (.Name x pos) (Vn i):=Xe a c d b
def qk:hZ:=λa σ H Q=>a=[]/\Q σ H
inductive vB(t:TG)(u:hZ)(vs:List V)(σ:St)(H:Hp)(Q:St->Hp->Prop):Prop
 |mk (v:_) (r:_) (h0:vs=v::r) (h1:t v σ H λσ' H'=>u r σ' H' Q):vB t u vs σ H Q
def jL(t:TG)(u:hZ):hZ:=λa σ H Q=>vB t u a σ H Q
theorem Wl:l7 X [] qk:=by intro a s b H d c Q I r h;obtain⟨e,h⟩:=h;subst e;cases r;exact assignInOrder_nil ⟨b,H,I,h⟩
theorem Zn{b:List TY}{t:TG}{u:hZ}(i:PG X e t)(j:l7 X b u)
  (k:(assignEach (e::b) X.env).map (·.2)=assign e X.env::(assignEach b X.env).map (·.2):=by rfl):l7 X (e::b) (jL t u):=by
 intro a s o H d c Q I r h;obtain⟨v,p,g,h⟩:=h;subst g;cases r with
 |cons r m=>rw[k];refine assignInOrder_cons (Yi (i a s o H _ _ _ I r h) λ_ n⟨c,d,f,l⟩=>?_);exact j a n c d _ _ Q f m l
inductive uA(K:Gd)(n:Nat)(t:hZ)(v:V)(σ:St)(H:Hp)(Q:St->Hp->Prop):Prop
 |mk (a:_) (xs:_) (h0:v=.ref a) (h1:Zz K H a xs) (h2:xs.length=n) (h3:t xs σ H Q):uA K n t v σ H Q
def qf(K:Gd)(n:Nat)(t:hZ):TG:=λv σ H Q=>uA K n t v σ H Q
theorem Vv{d:List TY}{t:hZ}(p:X.calm=Gg)(h:l7 X d t)
  (w:(assignEach d X.env).length=n:=by rfl)(f:(assignEach d X.env).findIdx? (·.1)=Ge:=by rfl):PG X (.Tuple d k pos) (qf X.K n t):=by
 intro c s i H v u Q I r hw;obtain⟨a,B,l,x,q,hw⟩:=hw;subst l;cases r;obtain⟨A,g,y,C⟩:=I.tuple x;refine assign_Tuple_tuple (I.ok.hd p) y (by simp[w,<-q,g.length]) f λm z=>?_;have j:zu X c i H {s with heap:=m}:=I.kept (t':=s.toks) λb o e=>z b o (Tg (Heap.lt_size e)) e;exact h c _ i H B _ Q j (by simpa using g) hw
def zY(to b:TE)(t:l9):TG:=λv σ H Q=>to σ H λo H1=>b σ H1 λi H2=>t o i v H2 λa=>Q σ a
theorem jk{o i:TY}{e d:TE}{t:l9}(q:PE X o e)(p:PE X i d)(w:yL X t)
  (n:∀v,assign (.Subscript o i pos) X.env v=(do
   let ov<-holding [v] (eval o X.env)
   let b<-holding [v,ov] (eval i X.env)
   standAt pos
   holding [v,ov,b] (setItem ov b v)
   release [v,ov,b] []):=by intro _;rfl):PG X (.Subscript o i pos) (zY e d t):=by
 intro a s c H v u Q I r h;rw[n];refine Gb (T5 (Yi (q a s c H _ I h) λov E⟨x,f,k,C,z⟩=>?_));refine Gb (T5 (Yi (p a E c f _ k z) λb F⟨y,g,l,D,A⟩=>?_));refine Gb (LM (Gb (T5 (Yi (w a F c g x y v ov b u _ l C D r A) λ_ G⟨j,m,B⟩=>?_))));exact wpAny_release ⟨c,j,m,B⟩
def kY(te:TE)(g:TG):TS:=λD σ H=>te σ H λx H1=>g x σ H1 D.nx
theorem Oj(i:PE X e te)(j:PG X tg g)(k:swapsWithSole [tg] e pos.line X.env=pure Gq:=by rfl)(hw:swappedStores [tg] e X.env=pure Ge:=by rfl)
  (f:(assignEach [tg] X.env).map (·.2)=[assign tg X.env]:=by rfl):PS X (.Assign [tg] e pos) (kY te g):=by
 intro a s b H D I h;refine wpAny_Assign_stores (Yi (i a s b H _ I h) λv n⟨x,c,d,m,l⟩=>?_) k hw;rw[f];exact Yi (j a n b c x v _ d m l) λ_ o q=>q
theorem Ub{a:SX}(g:X.N.Nodup)(l:X.N[i]?=Ga x)(n:Loc X.env.scope x)(j:PE X e te)(m:swapsWith e (Ga (.Name x a)) pos.line X.env=pure Gq:=by rfl)(k:X.fn x=Gg\/X.env.scope.names.lookup x=Ga .local:=by first|exact .inl rfl|exact .inr rfl|assumption):
  PS X (.Assign [.Name x a] e pos) (kY te (Vn i)):=by
 intro b s q H D I h;refine wpAny_Assign_Name (Yi (j b s q H _ I h) λv r⟨y,c,d,p,o⟩=>?_) m;exact um d g l n p (λt f=>{_,c,f,o}) k
theorem Qt(i:Nat){a:SX}(b:X.N.Nodup)(c:PE X e te)(f:X.N[i]?=Ga x:=by rfl)(h:Loc X.env.scope x:=by exact De Xb)(g:swapsWith e (Ga (.Name x a)) pos.line X.env=pure Gq:=by rfl)(d:X.fn x=Gg\/X.env.scope.names.lookup x=Ga .local:=by first|exact .inl rfl|exact .inr rfl|assumption):PS X (.Assign [.Name x a] e pos) (kY te (Vn i)):=Ub b f h c g d
end
section
variable{X:Cx}{pos:SX}
def xJ(c:TT)(tb:TS):TS:=λD σ H=>∃W:Nat->St->Hp->Prop,(∃m,W m σ H)/\∀m σ H,W m σ H->
 c σ H λb H1=>if b=Gg then∃N:St->Hp->Prop,(∀a H',N a H'->∃d,d<m/\W d a H')/\tb {D with nx:=N,ct:=N,bk:=D.nx} σ H1 else D.nx σ H1
theorem Ws{y:TT}(x:PassesOwn (Tb X.prog X.w) X.A X.env X.xe)(B:PT X c y)(A:Ik X body tb):PS X (.While c body [] pos) (xJ y tb):=by
 intro a s L H D I h;obtain⟨W,⟨C,J⟩,turn⟩:=h;refine wpAny_While (codeAny_whileLoop (λn E=>∃i q,zu X a i q E/\W n i q) ?_ C ⟨L,H,I,J⟩);rintro n F ⟨e,r,z,K⟩;refine D9 x (Yi (B a F e r _ z (turn n e r K)) λb G⟨t,u,j⟩=>?_);cases b with
 |true=>
  obtain⟨N,w,j⟩:=j;rw[Gn rfl];refine D9 x (Yi (A a G e t _ u j) λf M k=>?_);cases f with
  |next=>obtain⟨d,g,l,n3⟩:=k;obtain⟨o,m,p⟩:=w d g n3;exact⟨o,m,d,g,l,p⟩
  |cont=>obtain⟨d,g,l,n3⟩:=k;obtain⟨o,m,p⟩:=w d g n3;exact⟨o,m,d,g,l,p⟩
  |brk=>exact k
  |ret v=>exact k
 |false=>rw[Gh GO];exact E7 ⟨e,t,u,j⟩
end
structure It where
 go:Nat->Hp->Prop
 yld:Nat->Hp->V->Hp->Prop
 stop:Nat->Hp->Prop
def gL(X:Cx)(zq:List (Gc×Ek))(H:Hp)(b:Gc):Prop:=
 H b=Ge/\b≠X.env.locals/\b∉X.fs/\(b∈X.ex\/X.s₀.heap.objs.size<=b)/\(∀x c,X.env.cells.lookup x=Ga c->c≠b)/\∀p∈X.pn++zq,p.1≠b
theorem zu.iD{d:Hp}(I:zu X zq σ H s)(a:s.heap.objs.size<=b)(f:d b=Ge):gL X zq d b:=by
 refine{f,Tx (Te I.lt a),I.UJ a,.inr (Tw I.sz a),λx c e z=>?_,λp g z=>?_}
 .obtain⟨v,q⟩:=I.cell x c e;exact absurd (Te q.lt (by rw[z];exact a)) (Ds _)
 .exact absurd (Te (Heap.lt_size (I.pin p g).1) (by rw[z];exact a)) (Ds _)
structure iq(P:Gi)(w:Gu)(K:Gd)(tg:TY)(J:It)(fp:List Gc)(it:Gc)(tn:Nat->Heap->Prop):Prop where
 mem:it∈fp
 obj:∀i h,tn i h->∀b∈fp,∃o,h.get? b=Ga o/\∀v,o.data≠.cell v
 keep:∀i h h',tn i h->(∀b∈fp,∀o,h.get? b=Ga o->h'.get? b=Ga o)->tn i h'
 item:∀(X:Cx),X.prog=P->X.w=w->X.K=K->X.calm=Gg->∀(i:Nat)(zq:List (Gc×Ek))(s:Gk)(σ:St)(H:Hp)(E:Value->Gk->Prop),zu X zq σ H s->(∀b∈fp,gL X zq H b)->tn i s.heap->J.go i H->
  wpAny (Tb P w) X.A (pyNext (.ref it)) (λr s1=>∃u,r=Ga u/\
   wpAny (Tb P w) X.A (letOwnedTupleGo tg (.ref it) u) (λ_ s2=>∃x H',zu X zq σ H' s2/\zm x u/\J.yld i H x H'/\tn (i+1) s2.heap/\∀b∈fp,H' b=Ge) E s1) E s
 done:∀(X:Cx),X.prog=P->X.w=w->X.K=K->X.calm=Gg->∀(i:Nat)(zq:List (Gc×Ek))(s:Gk)(σ:St)(H:Hp)(E:Value->Gk->Prop),zu X zq σ H s->(∀b∈fp,gL X zq H b)->tn i s.heap->J.stop i H->
  wpAny (Tb P w) X.A (pyNext (.ref it)) (λr s1=>r=Ge/\zu X zq σ H s1) E s
 self:∀(A:TL)(i:Nat)(s:Gk)(Q:Value->Gk->Prop)(E:Value->Gk->Prop),tn i s.heap->Q (.ref it) s->wpAny (Tb P w) A (pyIter (.ref it)) Q E s
abbrev TI:=St->Hp->(It->Hp->Prop)->Prop
def v8(X:Cx)(zq:List (Gc×Ek))(σ:St)(tg:TY)(R:It->Hp->Prop)(a:Value)(d:Gk):Prop:=
 ∃(c:Gc)(fp:List Gc)(e:Nat->Heap->Prop)(J:It)(H':Hp),a=.ref c/\zu X zq σ H' d/\iq X.prog X.w X.K tg J fp c e/\e 0 d.heap/\(∀b∈fp,gL X zq H' b)/\R J H'
def PI(X:Cx)(tg iter:TY)(wi:TI):Prop:=
 ∀(zq:List (Gc×Ek))(s:Gk)(σ:St)(H:Hp)(R:It->Hp->Prop),zu X zq σ H s->wi σ H R->
  wpAny (Tb X.prog X.w) X.A (eval iter X.env) (λv a=>wpAny (Tb X.prog X.w) X.A (pyIter v) (v8 X zq σ tg R) X.xe a) X.xe s
theorem ji      {b : Gc}   {n : String} {c : Array Value} {Q : Unit -> Gk -> Prop} (g : s.heap.get? b = Ga o) (d : o.cls = .type n) (e : o.data = .fields c)
    (f : ["enumerate", "zip", "dict_itemiterator", "dict_reverseitemiterator", "odict_iterator", "itertools.zip_longest", "itertools.pairwise"].contains n = Gq) (a : Q () s) : wpAny M A (letOwnedTupleGo tg (.ref b) u) Q E s := by
  unfold letOwnedTupleGo
  cases tg <;> first
    | exact Gf a
    | (cases u <;> first
        | exact Gf a
        | (refine Gb (wpAny_load g ?_)
           rw [d, e]
           show wpAny M A (if (["enumerate", "zip", "dict_itemiterator", "dict_reverseitemiterator", "odict_iterator", "itertools.zip_longest", "itertools.pairwise"].contains n && c[0]? == Ga (rawInt _)) = Gg then _ else _) Q E s
           rw [Gh (by intro h; rw [f, Bool.false_and] at h; cases h)]
           exact Gf a))
def hV(K:Gd)(a:Gc):It:=
 {λi H=>∃xs x,Zb K H a xs/\xs[i]?=Ga x,λi H x H'=>H'=H/\∀xs,Zb K H a xs->xs[i]?=Ga x,λi H=>∃xs,Zb K H a xs/\xs.length<=i}
def ij(K:Gd)(a:Gc):It:=
 {λi H=>∃xs x,Zz K H a xs/\xs[i]?=Ga x,λi H x H'=>H'=H/\∀xs,Zz K H a xs->xs[i]?=Ga x,λi H=>∃xs,Zz K H a xs/\xs.length<=i}
def iU(lo:Int)(n:Nat):It:={λi _=>i<n,λi H x H'=>H'=H/\x=.int (lo+i),λi _=>n<=i}
theorem BI(a l:Gc):iq P w K tg (hV K a) [l] l (λi h=>h.IsListIter l a i) where
 mem:=by simp
 obj:=λi h f b j=>by
  have e:b=l:=by simpa using j
  subst e;obtain⟨o,e,c,d⟩:=f;exact{o,e,λv z=>by rw[d]at z;cases z}
 keep:=λi h n f k=>f.at λo e=>k l (by simp) o e
 item:=by intro X F hw D N i g s O H E I q f G;subst F hw D;obtain⟨W,x,r,J⟩:=G;obtain⟨L,M,p,T⟩:=I.list r;obtain⟨u,R,U⟩:=M.get J;obtain⟨t,y,Q,A,B,C⟩:=q l (by simp);refine wpAny_pyNext_list_item f p.isList (x:=u) (by simpa using R) λn m V=>?_;have v:zu X g O H {s with heap:=n}:=I.turned (t':=s.toks) (λb o j e=>(V.2 b j).trans e) t y A B C;obtain⟨o,e,c,d⟩:=id m;exact{u,Xb,ji (s:={s with heap:=n}) e c d (by decide) {x,H,v,U,{Xb,λY S=>by rw[I.qr S r];exact J},m,λb j=>(q b j).1}}
 done:=by intro X F hw D N i g s O H E I q f G;subst F hw D;obtain⟨W,r,J⟩:=G;obtain⟨L,M,p,T⟩:=I.list r;obtain⟨t,y,Q,A,B,C⟩:=q l (by simp);have v:=M.length;exact wpAny_pyNext_list_end (I.ok.hd N) f p.isList (by simp;lia) λn m=>{Xb,I.turned (t':=s.toks) (λb o j e=>m b o j e) t y A B C}
 self:=λ_ _ _ _ _ f h=>wpAny_pyIter_listiter f h
theorem BO(a l:Gc):iq P w K tg (ij K a) [l] l (λi h=>h.IsTupleIter l a i) where
 mem:=by simp
 obj:=λi h f b j=>by
  have e:b=l:=by simpa using j
  subst e;obtain⟨o,e,c,d⟩:=f;exact{o,e,λv z=>by rw[d]at z;cases z}
 keep:=λi h q f k=>f.at λo e=>k l (by simp) o e
 item:=by intro X G hw F N i g s O H E I r f J;subst G hw F;obtain⟨W,x,t,L⟩:=J;obtain⟨m,M,p,T⟩:=I.tuple t;obtain⟨u,R,U⟩:=M.get L;obtain⟨y,A,Q,B,C,D⟩:=r l (by simp);refine wpAny_pyNext_tuple_item f (show s.heap.IsTuple a m.toArray from p) (x:=u) (by simpa using R) λq n V=>?_;have v:zu X g O H {s with heap:=q}:=I.turned (t':=s.toks) (λb o j e=>(V.2 b j).trans e) y A B C D;obtain⟨o,e,c,d⟩:=id n;exact{u,Xb,ji (s:={s with heap:=q}) e c d (by decide) {x,H,v,U,{Xb,λY S=>by rw[I.HX S t];exact L},n,λb j=>(r b j).1}}
 done:=by intro X G hw F N i g s O H E I r f J;subst G hw F;obtain⟨W,t,L⟩:=J;obtain⟨m,M,p,T⟩:=I.tuple t;obtain⟨y,A,Q,B,C,D⟩:=r l (by simp);have v:=M.length;exact wpAny_pyNext_tuple_end (I.ok.hd N) f (show s.heap.IsTuple a m.toArray from p) (by simp;ext) λq n=>{Xb,I.turned (t':=s.toks) (λb o j e=>n b o j e) y A B C D}
 self:=λ_ _ _ _ _ f h=>wpAny_pyIter_tupleiter f h
theorem AK(c:Gc)(m:Int)(n:Nat):iq P w K tg (iU m n) [c] c (λi h=>Lw h c (m+(i:Nat)*1) ((n:Int) - (i:Nat)) 1) where
 mem:=by simp
 obj:=λi h a b f=>by
  have e:b=c:=by simpa using f
  subst e;exact{_,a,λv z=>by have g:NF _=RV v:=z;cases g}
 keep:=λi h j a k=>k c (by simp) _ a
 item:=by intro X A hw y B i d s F H E I l a C;subst A hw y;obtain⟨p,q,J,r,u,x⟩:=l c (by simp);have W:=NG (prog:=X.prog) (w:=X.w) (I.ok.hd B) c m 1 n;refine W.item i s _ _ C a λv j D L g M=>?_;obtain⟨t,rfl⟩:=L;have G:zu X d F H {s with heap:=j,toks:=D}:=I.turned (λb o f e=>M b o (by simpa using f) e) p q r u x;refine{_,Xb,ji (s:={s with heap:=j,toks:=D}) (n:="range_iterator") g rfl rfl (by decide) {.int (m+i),H,G,{t,?_},⟨Xb,Xb⟩,g,λb f=>(l b f).1}};rw[Int.mul_one]
 done:=by intro X A hw y B i d s F H E I l a C;subst A hw y;obtain⟨p,q,J,r,u,x⟩:=l c (by simp);exact S0 (I.ok.hd B) a (by have:n<=i:=C;lia) λj g=>{Xb,I.turned (t':=s.toks) (λb o f e=>g b o f e) p q r u x}
 self:=λ_ _ _ _ _ a h=>S8 a h
section
variable{X:Cx}{tg:TY}
inductive vw(K:Gd)(R:It->Hp->Prop)(x:V)(H1:Hp):Prop
 |mk (a:_) (h0:x=.ref a) (h1:(∃xs,Zb K H1 a xs)) (h2:R (hV K a) H1):vw K R x H1
def OB(K:Gd)(tl:TE):TI:=λσ H R=>tl σ H λx H1=>vw K R x H1
inductive vd(K:Gd)(R:It->Hp->Prop)(x:V)(H1:Hp):Prop
 |mk (a:_) (h0:x=.ref a) (h1:(∃xs,Zz K H1 a xs)) (h2:R (ij K a) H1):vd K R x H1
def IK(K:Gd)(tl:TE):TI:=λσ H R=>tl σ H λx H1=>vd K R x H1
theorem Yx{l:TY}{g:TE}(k:PE X l g):PI X tg l (OB X.K g):=by
 intro c s u H R I h;refine Yi (k c s u H _ I h) λv f⟨x,i,d,t,r⟩=>?_;obtain⟨a,e,⟨z,m⟩,q⟩:=r;subst e;cases t;obtain⟨n,y,p,w⟩:=d.list m;refine wpAny_pyIter_list p.isList ?_;refine{f.heap.objs.size,[f.heap.objs.size],_,_,i,Xb,d.kept (t':=f.toks) λb o e=>Heap.get?_push_of_some _ e,BI a _,{_,Heap.get?_push_size _ Xb,Xb,Xb},λb j=>?_,q};have e:b=f.heap.objs.size:=by simpa using j
 subst e;exact d.iD (Gm _) (d.Zv.fresh (Gm _))
theorem V4{l:TY}{i:TE}(m:PE X l i):PI X tg l (IK X.K i):=by
 intro c s u H R I h;refine Yi (m c s u H _ I h) λv d⟨x,j,f,t,r⟩=>?_;obtain⟨a,e,⟨z,n⟩,q⟩:=r;subst e;cases t;obtain⟨g,y,p,w⟩:=f.tuple n;refine Sm (show d.heap.IsTuple a g.toArray from p) ?_;refine{d.heap.objs.size,[d.heap.objs.size],_,_,j,Xb,f.kept (t':=d.toks) λb o e=>Heap.get?_push_of_some _ e,BO a _,{_,Heap.get?_push_size _ Xb,Xb,Xb},λb k=>?_,q};have e:b=d.heap.objs.size:=by simpa using k
 subst e;exact f.iD (Gm _) (f.Zv.fresh (Gm _))
theorem Pk{R:It->Hp->Prop}{a c:Int}{t u v:Bu}{f:Nat}(I:zu X zq σ H s)(i: -(2^62)<=a)(j:a<2^62)(k: -(2^62)<=c)(l:c<2^62)
  (q:R (iU a (c - a).toNat) H):wpAny (Tb X.prog X.w) X.A (pyIter (.ref s.heap.objs.size)) (v8 X zq σ tg R) E {s with heap:=s.heap.push {cls:=.type "range",data:=.fields #[.int a t,.int c u,.int 1 v]},toks:=f}:=by
 refine LV (NH ..) (small_one i j k l) ?_;have d:zu X zq σ H {s with heap:=s.heap.push {cls:=.type "range",data:=.fields #[.int a t,.int c u,.int 1 v]},toks:=f}:=I.kept λb o e=>Heap.get?_push_of_some _ e;refine⟨(s.heap.push {cls:=.type "range",data:=.fields #[.int a t,.int c u,.int 1 v]}).objs.size,[(s.heap.push {cls:=.type "range",data:=.fields #[.int a t,.int c u,.int 1 v]}).objs.size],_,_,H,Xb,
  d.kept (t':=f) λb o e=>Heap.get?_push_of_some _ e,AK _ a (c - a).toNat,?_,λb m=>?_,q⟩
 .have g:a+((0:Nat):Int)*1=a:=by simp
  have h:(((c - a).toNat:Nat):Int) - ((0:Nat):Int)=Builtin.Range.rangeSize a c 1:=by rw[rangeSize_one];split<;>lia
  show Lw _ _ (a+((0:Nat):Int)*1) ((((c - a).toNat:Nat):Int) - ((0:Nat):Int)) 1;rw[g,h];exact Heap.get?_push_size _ rfl
 .have e:b=(s.heap.push {cls:=.type "range",data:=.fields #[.int a t,.int c u,.int 1 v]}).objs.size:=by simpa using m
  subst e;exact d.iD (Gm _) (d.Zv.fresh (Gm _))
inductive qM(R:It->Hp->Prop)(vs:List V)(H1:Hp):Prop
 |mk (j:Int) (h0:vs=[.int j]) (h1: -(2^62)<=j) (h2:j<2^62) (h3:R (iU 0 j.toNat) H1):qM R vs H1
def OF(ta:TA):TI:=λσ H R=>ta σ H λa H1=>qM R a H1
theorem Vg{a:TY}{d:TA}{p:SX}(i:Gl X "range")(k:X.mg "range"=Ge)(g:PA X [a] d)(l:Ti [a] X.env=[(Gq,eval a X.env)]:=by rfl):PI X tg (.Call (.Name "range" p) [a] [] pos) (OF d):=by
 intro b s u H R I h;refine Bp (V6 I i k N9 (Dq (Yi (g pos b s u H _ I h) λx w⟨y,v,f,n,c⟩=>?_) l Xb));obtain⟨j,e,c,m,q⟩:=c;subst e;cases n with
 |cons r o=>cases o;obtain⟨t,rfl⟩:=r;exact call_range_1 (Pk f (by ext) (by ext) c m (by simpa using q))
def AL(wi:TI)(g:TG)(tb:TS):TS:=λD σ H=>wi σ H λJ H1=>∃W:Nat->Nat->St->Hp->Prop,(∃m,W 0 m σ H1)/\∀i m σ H,W i m σ H->
 (J.stop i H/\D.nx σ H)\/(J.go i H/\∃N:St->Hp->Prop,(∀a H',N a H'->∃c,c<m/\W (i+1) c a H')/\∀x H',J.yld i H x H'->g x σ H' λb H2=>tb {D with nx:=N,ct:=N,bk:=D.nx} b H2)
def jC(fp:List Gc)(h:Heap):List (Gc×Ek):=fp.filterMap λb=>(h.get? b).map λo=>(b,o)
theorem Jx{h:Heap}(a:b∈fp)(e:h.get? b=Ga o):(b,o)∈jC fp h:=List.mem_filterMap.mpr {b,a,by rw[e];rfl}
theorem CK{h:Heap}{p:Gc×Ek}(d:p∈jC fp h):p.1∈fp/\h.get? p.1=Ga p.2:=by
 obtain⟨b,c,e⟩:=List.mem_filterMap.mp d;cases q:h.get? b with
 |none=>rw[q]at e;cases e
 |some o=>rw[q]at e;have a:(b,o)=p:=To e;subst a;exact⟨c,q⟩
theorem zu.pinned(I:zu X zq σ H s)(i:∀b∈fp,gL X zq H b)(j:∀b∈fp,∃o,s.heap.get? b=Ga o/\∀v,o.data≠.cell v):zu X (zq++jC fp s.heap) σ H s:=
 I.wu λp k=>(List.mem_append.mp k).elim (λz=>I.pin p (List.mem_append_right _ z)) λz=>by obtain⟨c,e⟩:=CK z;obtain⟨f,g,h,_⟩:=i p.1 c;obtain⟨o,a,d⟩:=j p.1 c;rw[e]at a;cases a;exact⟨e,f,g,h,d⟩
theorem zu.O8{b:List (Gc×Ek)}(I:zu X (zq++b) σ H s):zu X zq σ H s:=I.wu λp a=>I.pin p (List.mem_append_right _ (List.mem_append_left _ a))
theorem Z8{iter:TY}{N:TI}(p:PassesOwn (Tb X.prog X.w) X.A X.env X.xe)(G:X.calm=Gg)(hi:PI X tg iter N)(hg:PG X tg g)(e:Ik X body tb)
  (hs:∀x,foldedSetIterable iter X.env x=pure x:=by intro _;rfl):PS X (.For tg iter body [] pos) (AL N g tb):=by
 intro k s O P ai S ad;refine wpAny_For (Yi (hi k s O P _ S ad) λag s1 h1=>Yi h1 λak s2 h2=>?_) hs;obtain⟨it,o,M,aj,Q,m,T,l,af,E,W,⟨m0,w0⟩,turn⟩:=h2;subst m;have B:∀{h:Hp},(∀a∈o,h a=Ge)->∀a∈o,gL X k h a:=λhn a e=>{hn a e,(E a e).2};refine codeAny_forLoop_any (λn I=>∃i r h,zu X k r h I/\M i I.heap/\(∀a∈o,h a=Ge)/\W i n r h) ?_ m0 {0,O,Q,T,af,λa e=>(E a e).1,w0};rintro n J ⟨i,t,v,D,L,F,w3⟩;rcases turn i n t v w3 with⟨stop,qn⟩|⟨go,aa,hN,step⟩
 .refine D9 p (Yi (l.done X rfl rfl rfl G i k J t v X.xe D (B F) L stop) λae s4⟨w,U⟩=>?_);subst w;exact E7 ⟨t,v,U,qn⟩
 .refine D9 p (Yi (l.item X rfl rfl rfl G i k J t v X.xe D (B F) L go) λae s4⟨u,w,h4⟩=>?_);subst w;refine D9 p (Yi h4 λ_ K⟨x,C,V,r5,y5,A,ac⟩=>?_);have Y:=V.pinned (B ac) (l.obj _ _ A);refine D9 p (Yi (hg _ K t C x u _ Y r5 (step x C y5)) λ_ s6⟨ah,R,Z,q6⟩=>?_);refine D9 p (Yi (e _ s6 ah R _ Z q6) λab z j=>?_);have again:∀{f:St}{b:Hp},zu X (k++jC o K.heap) f b z->aa f b->∃H,H<n/\∃i r h,zu X k r h z/\M i z.heap/\(∀a∈o,h a=Ge)/\W i H r h:=λ{f b}c q=>by obtain⟨m',hm,w7⟩:=hN f b q;refine{m',hm,i+1,f,b,c.O8,l.keep _ _ _ A λa e y m=>(c.pin (a,y) (List.mem_append_right _ (List.mem_append_right _ (Jx e m)))).1,λa e=>?_,w7};obtain⟨y,m,d⟩:=l.obj _ _ A a e;exact(c.pin (a,y) (List.mem_append_right _ (List.mem_append_right _ (Jx e m)))).2.1
  cases ab with
  |next=>obtain⟨f,b,c,q⟩:=j;exact again c q
  |cont=>obtain⟨f,b,c,q⟩:=j;exact again c q
  |brk=>obtain⟨f,b,c,j⟩:=j;exact{f,b,c.O8,j}
  |ret ag=>obtain⟨x7,f,b,c,r7,j⟩:=j;exact{x7,f,b,c.O8,r7,j}
end
theorem Xh(b:Nat->St->Hp->Prop)(k:b 0 σ H)(o:∀i σ H,i<=xs.length->b i σ H->Zb K H a xs)
  (r:∀i x σ H,xs[i]?=Ga x->b i σ H->g x σ H λf H2=>tb {D with nx:=b (i+1),ct:=b (i+1),bk:=D.nx} f H2)(l:∀σ H,b xs.length σ H->D.nx σ H):
  ∃W:Nat->Nat->St->Hp->Prop,(∃m,W 0 m σ H)/\∀i m σ H,W i m σ H->
   ((hV K a).stop i H/\D.nx σ H)\/((hV K a).go i H/\∃N:St->Hp->Prop,(∀d c,N d c->∃j,j<m/\W (i+1) j d c)/\∀x c,(hV K a).yld i H x c->g x σ c λf H2=>tb {D with nx:=N,ct:=N,bk:=D.nx} f H2):=by
 exists λi m σ H=>m=xs.length - i/\i<=xs.length/\b i σ H,{xs.length,by simp,Gw _,k};rintro i m σ H ⟨rfl,n,p⟩;have q:=o i σ H n p;by_cases h:i<xs.length
 .refine .inr {{xs,xs[i],q,by simp[h]},b (i+1),λd c j=>{xs.length - (i+1),by ext,Xb,h,j},λx c y=>?_};obtain⟨e,y⟩:=y;subst e;exact r i x σ _ (y xs q) p
 .have e:i=xs.length:=by ext
  subst e;exact .inl {{xs,q,Gm _},l σ H p}
theorem oq(b:Nat->St->Hp->Prop)(k:b 0 σ H)(o:∀i σ H,i<=xs.length->b i σ H->Zz K H a xs)
  (r:∀i x σ H,xs[i]?=Ga x->b i σ H->g x σ H λf H2=>tb {D with nx:=b (i+1),ct:=b (i+1),bk:=D.nx} f H2)(l:∀σ H,b xs.length σ H->D.nx σ H):
  ∃W:Nat->Nat->St->Hp->Prop,(∃m,W 0 m σ H)/\∀i m σ H,W i m σ H->
   ((ij K a).stop i H/\D.nx σ H)\/((ij K a).go i H/\∃N:St->Hp->Prop,(∀d c,N d c->∃j,j<m/\W (i+1) j d c)/\∀x c,(ij K a).yld i H x c->g x σ c λf H2=>tb {D with nx:=N,ct:=N,bk:=D.nx} f H2):=by
 exists λi m σ H=>m=xs.length - i/\i<=xs.length/\b i σ H,{xs.length,by simp,Gw _,k};rintro i m σ H ⟨rfl,n,p⟩;have q:=o i σ H n p;by_cases h:i<xs.length
 .refine .inr {{xs,xs[i],q,by simp[h]},b (i+1),λd c j=>{xs.length - (i+1),by ext,Xb,h,j},λx c y=>?_};obtain⟨e,y⟩:=y;subst e;exact r i x σ _ (y xs q) p
 .have e:i=xs.length:=by ext
  subst e;exact .inl {{xs,q,Gm _},l σ H p}
theorem Vh{lo:Int}(b:Nat->St->Hp->Prop)(j:b 0 σ H)
  (l:∀i σ H,i<n->b i σ H->g (.int (lo+i)) σ H λf H2=>tb {D with nx:=b (i+1),ct:=b (i+1),bk:=D.nx} f H2)(k:∀σ H,b n σ H->D.nx σ H):
  ∃W:Nat->Nat->St->Hp->Prop,(∃m,W 0 m σ H)/\∀i m σ H,W i m σ H->
   ((iU lo n).stop i H/\D.nx σ H)\/((iU lo n).go i H/\∃N:St->Hp->Prop,(∀d a,N d a->∃h,h<m/\W (i+1) h d a)/\∀x a,(iU lo n).yld i H x a->g x σ a λf H2=>tb {D with nx:=N,ct:=N,bk:=D.nx} f H2):=by
 exists λi m σ H=>m=n - i/\i<=n/\b i σ H,{n,by simp,Gw _,j};rintro i m σ H ⟨rfl,o,p⟩;by_cases c:i<n
 .refine .inr {c,b (i+1),λd a h=>{n - (i+1),by ext,Xb,c,h},λx a y=>?_};obtain⟨e,y⟩:=y;subst e y;exact l i σ _ c p
 .have e:i=n:=by ext
  subst e;exact .inl {Gm _,k σ H p}
abbrev R2:=V->V->Hp->VK->Prop
variable{r:R2}
def gi(X:Cx)(f:Value->Value->Bv Value)(r:R2):Prop:=
 ∀(zq:List (Gc×Ek))(s:Gk)(σ:St)(H:Hp)(x y:V)(v u:Value)(Q:VK),zu X zq σ H s->zm x v->zm y u->r x y H Q->
  wpAny (Tb X.prog X.w) X.A (f v u) (EP X zq σ Q) X.xe s
def o9(X:Cx)(f:Value->Bv Value)(r:V->Hp->VK->Prop):Prop:=
 ∀(zq:List (Gc×Ek))(s:Gk)(σ:St)(H:Hp)(x:V)(v:Value)(Q:VK),zu X zq σ H s->zm x v->r x H Q->
  wpAny (Tb X.prog X.w) X.A (f v) (EP X zq σ Q) X.xe s
def V9(X:Cx)(f:Value)(r:List V->Hp->VK->Prop):Prop:=
 ∀(zq:List (Gc×Ek))(s:Gk)(σ:St)(H:Hp)(xs:List V)(a:List Value)(Q:VK),zu X zq σ H s->Zt xs a->r xs H Q->
  wpAny (Tb X.prog X.w) X.A (call f a) (EP X zq σ Q) X.xe s
def C5(X:Cx)(r:V->Hp->(Bool->Hp->Prop)->Prop):Prop:=
 ∀(zq:List (Gc×Ek))(s:Gk)(σ:St)(H:Hp)(x:V)(v:Value)(Q:Bool->Hp->Prop),zu X zq σ H s->zm x v->r x H Q->
  wpAny (Tb X.prog X.w) X.A (truthy v) (TP X zq σ Q) X.xe s
def tOp(r:R2)(ta tb:TE):TE:=λσ H Q=>ta σ H λx H1=>tb σ H1 λy H2=>r x y H2 Q
def tUn(r:V->Hp->VK->Prop)(ta:TE):TE:=λσ H Q=>ta σ H λx H1=>r x H1 Q
inductive iRI(C:Int->Int->Prop)(g:Int->Int->V)(x:V)(y:V)(H:Hp)(Q:VK):Prop
 |mk (i:_) (j:_) (h0:x=.int i) (h1:y=.int j) (h2:C i j) (h3:Q (g i j) H):iRI C g x y H Q
def rI(C:Int->Int->Prop)(g:Int->Int->V):R2:=λx y H Q=>iRI C g x y H Q
inductive wC(g:Int->Int->V)(x:V)(y:V)(H:Hp)(Q:VK):Prop
 |mk (i:_) (j:_) (h0:x=.int i) (h1:y=.int j) (h2:Q (g i j) H):wC g x y H Q
def rI0(g:Int->Int->V):R2:=λx y H Q=>wC g x y H Q
inductive iRU(g:Int->V)(x:V)(H:Hp)(Q:VK):Prop
 |mk (i:_) (h0:x=.int i) (h1:Q (g i) H):iRU g x H Q
def rU(g:Int->V):V->Hp->VK->Prop:=λx H Q=>iRU g x H Q
section
variable{X:Cx}{a b c:TY}{ta tb tc:TE}{pos:SX}
theorem oo(j:PE X a ta)(k:PE X b tb){R:V->V->Hp->Prop}(I:zu X zq σ H s)
  (h:ta σ H λx H1=>tb σ H1 λy H2=>R x y H2)
  (l:∀v u e x y H2,zu X zq σ H2 e->zm x v->zm y u->R x y H2->wpAny (Tb X.prog X.w) X.A (f v u) Q X.xe e):
  wpAny (Tb X.prog X.w) X.A (eval a X.env) (λv c=>wpAny (Tb X.prog X.w) X.A (eval b X.env) (λu d=>wpAny (Tb X.prog X.w) X.A (f v u) Q X.xe d) X.xe c) X.xe s:=by
 refine Yi (j zq s σ H _ I h) λv q⟨x,H1,g,o,m⟩=>?_;refine Yi (k zq q σ H1 _ g m) λu e⟨y,H2,i,p,n⟩=>?_;exact l v u e x y H2 i o p n
theorem Zh{d:Operator}(j:gi X (binaryOp d) r)(g:PE X a ta)(i:PE X b tb):PE X (.BinOp a d b pos) (tOp r ta tb):=by intro c s n H Q I h;exact wpAny_BinOp (oo g i I h λv u m x y e f k l q=>j c m n e x y v u Q f k l q)
theorem Rr{c:UnaryOp}{r:V->Hp->VK->Prop}(i:o9 X (unaryOp c) r)(g:PE X a ta):PE X (.UnaryOp c a pos) (tUn r ta):=by intro b s d H Q I h;exact UnaryOp_ (Yi (g b s d H _ I h) λv l⟨x,e,f,k,j⟩=>i b l d e x v Q f k j)
theorem opI{C:Int->Int->Prop}{g:Int->Int->Int}
  (rule:∀(i j:Int)(t u:Bu)(s:Gk)(Q:Value->Gk->Prop)(E:Value->Gk->Prop),C i j->Q (.int (g i j) s.toks) {s with toks:=s.toks+1}->wpAny (Tb X.prog X.w) X.A (f (.int i t) (.int j u)) Q E s):
  gi X f (rI C λi j=>.int (g i j)):=by
 intro a s k H x y v u Q I c d h;obtain⟨i,j,rfl,rfl,b,q⟩:=h;obtain⟨t,rfl⟩:=c;obtain⟨e,rfl⟩:=d;exact rule i j t e s _ _ b {.int (g i j),H,I.tok _,{_,Xb},q}
theorem tR{g:Int->Int->Int}
  (rule:∀(i j:Int)(t u:Bu)(s:Gk)(Q:Value->Gk->Prop)(E:Value->Gk->Prop),Q (.int (g i j) s.toks) {s with toks:=s.toks+1}->wpAny (Tb X.prog X.w) X.A (f (.int i t) (.int j u)) Q E s):
  gi X f (rI0 λi j=>.int (g i j)):=by
 intro a s e H x y v u Q I b c h;obtain⟨i,j,rfl,rfl,q⟩:=h;obtain⟨t,rfl⟩:=b;obtain⟨d,rfl⟩:=c;exact rule i j t d s _ _ {.int (g i j),H,I.tok _,{_,Xb},q}
theorem lB{g:Int->Int->Bool}
  (rule:∀(i j:Int)(t u:Bu)(s:Gk)(Q:Value->Gk->Prop)(E:Value->Gk->Prop),Q (.bool (g i j)) s->wpAny (Tb X.prog X.w) X.A (f (.int i t) (.int j u)) Q E s):
  gi X f (rI0 λi j=>.bl (g i j)):=by
 intro a s e H x y v u Q I b c h;obtain⟨i,j,rfl,rfl,q⟩:=h;obtain⟨t,rfl⟩:=b;obtain⟨d,rfl⟩:=c;exact rule i j t d s _ _ {.bl (g i j),H,I,Xb,q}
def xY(i j:Int):Prop:=0<j/\j<1073741824
def JK(i j:Int):Prop:=0<=j/\j<=1000000/\i.natAbs<2^64
def oh(i j:Int):Prop:=(-(2^64)<i/\i<2^64)\/(-(2^64)<j/\j<2^64)
theorem oh.ok{i j:Int}(h:oh i j):IntMulOk i j:=by
 rcases h with⟨a,b⟩|⟨a,b⟩
 .exact .of_left (Mu a b)
 .exact .of_right (Mu a b)
theorem Uw:gi X (binaryOp .Add) (rI0 λi j=>.int (i+j)):=tR λ_ _ _ _ _ _ _ q=>add_int q
theorem kQ:gi X (binaryOp .Sub) (rI0 λi j=>.int (i - j)):=tR λ_ _ _ _ _ _ _ q=>sub_int q
theorem ny:gi X (binaryOp .Mult) (rI oh λi j=>.int (i*j)):=opI λ_ _ _ _ _ _ _ a q=>mul_int q a.ok
theorem X0:gi X (binaryOp .FloorDiv) (rI xY λi j=>.int (i / j)):=opI λi j _ _ _ _ _ a q=>by have b:(0:Int)<j:=a.1;have c:j<1073741824:=a.2;exact floordiv_int (by ext) (by rw[Int.fdiv_eq_ediv_of_nonneg i (by ext)];exact q) (.inl (S9 (by ext)))
theorem Xy:gi X (binaryOp .Mod) (rI (λ_ j=>0<j) λi j=>.int (i % j)):=opI λi j _ _ _ _ _ a q=>by have b:(0:Int)<j:=a;exact mod_int' (by ext) (by rw[Int.fmod_eq_emod_of_nonneg i (by ext)];exact q)
theorem wq:gi X (binaryOp .Pow) (rI JK λi j=>.int (i^j.toNat)):=opI λ_ _ _ _ _ _ _ a q=>pow_int_small a.1 a.2.1 a.2.2 q
theorem unI{f:Value->Bv Value}{g:Int->Int}
  (rule:∀(i:Int)(t:Bu)(s:Gk)(Q:Value->Gk->Prop)(E:Value->Gk->Prop),Q (.int (g i) s.toks) {s with toks:=s.toks+1}->wpAny (Tb X.prog X.w) X.A (f (.int i t)) Q E s):
  o9 X f (rU λi=>.int (g i)):=by
 intro a s c H x v Q I b h;obtain⟨i,rfl,q⟩:=h;obtain⟨t,rfl⟩:=b;exact rule i t s _ _ {.int (g i),H,I.tok _,{_,Xb},q}
theorem Uz:o9 X (unaryOp .USub) (rU λi=>.int (-i)):=unI λ_ _ _ _ _ q=>neg_int q
end
def sq:V->V->Bool
 |.non,.non=>Gg|.non,.int _=>Gg|.int _,.non=>Gg|.non,.bl _=>Gg|.bl _,.non=>Gg|.non,.str _=>Gg|.str _,.non=>Gg
 |.int _,.int _=>Gg|.bl _,.bl _=>Gg|.str _,.str _=>Gg|.byt _,.byt _=>Gg
 |.int _,.str _=>Gg|.str _,.int _=>Gg|.bl _,.str _=>Gg|.str _,.bl _=>Gg
 |_,_=>Gq
def rEq:R2:=λx y H Q=>sq x y=Gg/\Q (.bl (decide (x=y))) H
def rNe:R2:=λx y H Q=>sq x y=Gg/\Q (.bl (!decide (x=y))) H
theorem Vk{i j:Int}:decide (V.int i=V.int j)=(i==j):=by rw[EG];simp
theorem vq{i j:Bool}:decide (V.bl i=V.bl j)=(i==j):=by rw[EG];simp
theorem Xo{i j:GY}:decide (V.str i=V.str j)=(i==j):=by rw[EG];simp
theorem qQ{i j:Array UInt8}:decide (V.byt i=V.byt j)=(i.toList==j.toList):=by rw[EG];cases i;cases j;simp
section
variable{X:Cx}{a b c:TY}{ta tb tc:TE}{pos:SX}
theorem Z9{Q:VK}{k a:Bool}(I:zu X zq σ H s)(q:Q (.bl k) H)(e:k=a):EP X zq σ Q (.bool a) s:=by subst e;exact{.bl k,H,I,Xb,q}
theorem Va:gi X (Dl .Eq) rEq:=by
 intro e s f H x y v u Q I d a h;obtain⟨c,q⟩:=h;cases x with
 |non=>
  cases d;cases y with
  |non=>cases a;exact Me (Z9 I q (by simp))
  |bl j=>cases a;exact Mf (Z9 I q (by simp))
  |int j=>obtain⟨b,rfl⟩:=a;exact Mv (Z9 I q (by simp))
  |str j=>obtain⟨b,rfl⟩:=a;exact Mw (Z9 I q (by simp))
  |_=>exact absurd (show Gq=Gg from c) GO
 |bl i=>
  cases d;cases y with
  |non=>cases a;exact Mg (Z9 I q (by simp))
  |bl j=>cases a;exact eq_bool (Z9 I q vq)
  |str j=>obtain⟨b,rfl⟩:=a;exact Mh (Z9 I q (by simp))
  |_=>exact absurd (show Gq=Gg from c) GO
 |int i=>
  obtain⟨t,rfl⟩:=d;cases y with
  |non=>cases a;exact Mx (Z9 I q (by simp))
  |int j=>obtain⟨b,rfl⟩:=a;exact eq_int (Z9 I q Vk)
  |str j=>obtain⟨b,rfl⟩:=a;exact My (Z9 I q (by simp))
  |_=>exact absurd (show Gq=Gg from c) GO
 |str i=>
  obtain⟨t,rfl⟩:=d;cases y with
  |non=>cases a;exact Mz (Z9 I q (by simp))
  |bl j=>cases a;exact Mi (Z9 I q (by simp))
  |int j=>obtain⟨b,rfl⟩:=a;exact MA (Z9 I q (by simp))
  |str j=>obtain⟨b,rfl⟩:=a;exact eq_str (Z9 I q Xo)
  |_=>exact absurd (show Gq=Gg from c) GO
 |byt i=>
  obtain⟨t,rfl⟩:=d;cases y with
  |byt j=>obtain⟨b,rfl⟩:=a;exact RW (Z9 I q qQ)
  |_=>exact absurd (show Gq=Gg from c) GO
 |_=>cases y<;>exact absurd (show Gq=Gg from c) GO
theorem Io:gi X (Dl .NotEq) rNe:=by
 intro e s f H x y v u Q I d a h;obtain⟨c,q⟩:=h;cases x with
 |non=>
  cases d;cases y with
  |non=>cases a;exact Mj (Z9 I q (by simp))
  |bl j=>cases a;exact Ml (Z9 I q (by simp))
  |int j=>obtain⟨b,rfl⟩:=a;exact MC (Z9 I q (by simp))
  |str j=>obtain⟨b,rfl⟩:=a;exact MD (Z9 I q (by simp))
  |_=>exact absurd (show Gq=Gg from c) GO
 |bl i=>
  cases d;cases y with
  |non=>cases a;exact Mm (Z9 I q (by simp))
  |bl j=>cases a;exact ne_bool (Z9 I q (congrArg not vq))
  |str j=>obtain⟨b,rfl⟩:=a;exact Mn (Z9 I q (by simp))
  |_=>exact absurd (show Gq=Gg from c) GO
 |int i=>
  obtain⟨t,rfl⟩:=d;cases y with
  |non=>cases a;exact ME (Z9 I q (by simp))
  |int j=>obtain⟨b,rfl⟩:=a;exact ne_int (Z9 I q (congrArg not Vk))
  |str j=>obtain⟨b,rfl⟩:=a;exact MF (Z9 I q (by simp))
  |_=>exact absurd (show Gq=Gg from c) GO
 |str i=>
  obtain⟨t,rfl⟩:=d;cases y with
  |non=>cases a;exact MH (Z9 I q (by simp))
  |bl j=>cases a;exact Mo (Z9 I q (by simp))
  |int j=>obtain⟨b,rfl⟩:=a;exact MI (Z9 I q (by simp))
  |str j=>obtain⟨b,rfl⟩:=a;exact ne_str (Z9 I q (congrArg not Xo))
  |_=>exact absurd (show Gq=Gg from c) GO
 |byt i=>
  obtain⟨t,rfl⟩:=d;cases y with
  |byt j=>obtain⟨b,rfl⟩:=a;exact RX (Z9 I q (congrArg not qQ))
  |_=>exact absurd (show Gq=Gg from c) GO
 |_=>cases y<;>exact absurd (show Gq=Gg from c) GO
theorem Rv:gi X (Dl .Lt) (rI0 λi j=>.bl (decide (i<j))):=lB λ_ _ _ _ _ _ _ q=>lt_int q
theorem lC:gi X (Dl .LtE) (rI0 λi j=>.bl (decide (i<=j))):=lB λ_ _ _ _ _ _ _ q=>le_int q
theorem lK:gi X (Dl .Gt) (rI0 λi j=>.bl (decide (j<i))):=lB λ_ _ _ _ _ _ _ q=>gt_int q
theorem J4:gi X (Dl .GtE) (rI0 λi j=>.bl (decide (j<=i))):=lB λ_ _ _ _ _ _ _ q=>ge_int q
theorem Ag:gi X (Dl .Is) (λx y H Q=>y=.non/\Q (.bl (decide (x=.non))) H):=by
 intro a s d H x y v u Q I b c h;obtain⟨rfl,q⟩:=h;cases c;refine NE (Z9 I q ?_);cases x<;>first
  |(cases b;rfl)
  |(obtain⟨t,rfl⟩:=b;rfl)
theorem jy:gi X (Dl .IsNot) (λx y H Q=>y=.non/\Q (.bl (!decide (x=.non))) H):=by
 intro a s d H x y v u Q I b c h;obtain⟨rfl,q⟩:=h;cases c;refine FS (Z9 I q ?_);cases x<;>first
  |(cases b;rfl)
  |(obtain⟨t,rfl⟩:=b;rfl)
theorem Q4(b:TY)(h:op≠.In:=by decide)(d:op≠.NotIn:=by decide):behindInMarks op b=Gq:=by
 have a:(op==Bo)=Gq:=by cases op<;>first|rfl|exact absurd rfl h
 have c:(op==ND)=Gq:=by cases op<;>first|rfl|exact absurd rfl d
 cases b<;>simp[behindInMarks,a,c]
theorem QQ(j:gi X (Dl op) r)(f:PE X a ta)(g:PE X b tb)(i:behindInMarks op b=Gq):PE X (.Compare a [op] [b] pos) (tOp r ta tb):=by intro c s n H Q I h;exact wpAny_Compare1 (oo f g I h λv u m x y d e k l q=>j c m n d x y v u Q e k l q) i
inductive yB(Q:Bool->Hp->Prop)(x:V)(H':Hp):Prop
 |mk (k:_) (h0:x=.bl k) (h1:Q k H'):yB Q x H'
def so(t:TE):TT:=λσ H Q=>t σ H λx H'=>yB Q x H'
theorem Qr(t:gi X (Dl op) r)(o:PE X a ta)(p:PE X b tb)(q:behindInMarks op b=Gq):PT X (.Compare a [op] [b] pos) (so (tOp r ta tb)):=by
 intro d s f H Q I h;refine Lo (Yi (o d s f H _ I h) λv F⟨x,g,l,C,w⟩=>Yi (p d F f g _ l w) λu G⟨y,i,m,D,A⟩=>Yi (t d G f i x y v u _ m C D A) λc J⟨z,j,n,E,k,e,B⟩=>?_) q
 subst e;cases E;exact Dx ⟨j,n,B⟩
inductive ui(r':R2)(tc:TE)(σ:St)(Q:VK)(y:V)(z:V)(H3:Hp):Prop
 |mk (k:_) (h0:z=.bl k) (h1:(if k=Gg then tc σ H3 λw' H4=>r' y w' H4 Q else Q (.bl Gq) H3)):ui r' tc σ Q y z H3
def Ki(r b:R2)(ta tb tc:TE):TE:=λσ H Q=>ta σ H λx H1=>tb σ H1 λy H2=>r x y H2 λz a=>ui b tc σ Q y z a
theorem A8{g:CmpOp}{o:R2}(M:gi X (Dl op) r)(j:gi X (Dl g) o)(G:PE X a ta)(J:PE X b tb)(K:PE X c tc)
  (L:lastMarks [op,g] [b,c]=Gq:=by with_unfolding_all rfl):PT X (.Compare a [op,g] [b,c] pos) (so (Ki r o ta tb tc)):=by
 intro f s i H Q I h;refine isTrue_chain (Yi (G f s i H _ I h) λv V⟨x,q,B,R,N⟩=>test_link (Yi (J f V i q _ B N) λu W⟨y,t,C,p,O⟩=>Yi (M f W i t x y v u _ C R p O) λd Y⟨z,l,m,S,k,e,n⟩=>?_)) L
 subst e;cases S;refine Dx ?_;cases k with
 |false=>obtain⟨D,w,A⟩:=n;cases w;exact ite_ff ⟨l,m,A⟩
 |true=>refine ite_tt (test_last (Yi (K f Y i l _ m n) λZ s4⟨z',w,D,T,P⟩=>Yi (j f s4 i w y z' u Z _ D p T P) λd' s5⟨z2,A,E,U,k2,F,Q⟩=>?_));subst F;cases U;exact Dx ⟨A,E,Q⟩
def qH(K:Gd)(x:V)(H:Hp)(k:Bool):Prop:=
 match x with
 |.non=>k=Gq
 |.bl b=>k=b
 |.int i=>k=(i !=0)
 |.str y=>y.length<=Gj/\k=((y.length:Int) !=0)
 |.byt y=>y.size<=Gj/\k=((y.size:Int) !=0)
 |.ref p=>(∃xs,Zb K H p xs/\k= !xs.isEmpty)\/(∃xs,Zz K H p xs/\k= !xs.isEmpty)\/∃zw,H p=Ga (.dK zw)/\k= !zw.isEmpty
 |_=>False
theorem Hj{c:Type}{a:List (c×V)}{b:List (c×Value)}(r:KV a b):(!b.isEmpty)= !a.isEmpty:=by cases r<;>rfl
theorem ua{a:List Value}(r:Zt xs a):(!a.toArray.isEmpty)= !xs.isEmpty:=by cases r<;>simp
theorem Om:(Gj:Nat)<2^63:=by rw[Gz];decide
theorem vH:C5 X (λx H Q=>∃k,qH X.K x H k/\Q k H):=by
 intro u s C H x v Q I f h;obtain⟨k,e,q⟩:=h;have A:=Om;have B:Gj=16777216:=Gz;cases x with
 |non=>cases f;have a:k=Gq:=e;subst a;exact truthy_none ⟨H,I,q⟩
 |bl b=>cases f;have a:k=b:=e;subst a;exact Dx ⟨H,I,q⟩
 |int i=>obtain⟨t,rfl⟩:=f;have a:k=(i !=0):=e;subst a;exact Rs ⟨H,I,q⟩
 |str y=>obtain⟨t,rfl⟩:=f;obtain⟨z,a⟩:y.length<=Gj/\k=((y.length:Int) !=0):=e;subst a;exact RA (by lia) {H,I.tok _,q}
 |byt y=>obtain⟨t,rfl⟩:=f;obtain⟨z,a⟩:y.size<=Gj/\k=((y.size:Int) !=0):=e;subst a;exact NI (by lia) {H,I.tok _,q}
 |ref p=>
  cases f;have a:(∃d,Zb X.K H p d/\k= !d.isEmpty)\/(∃d,Zz X.K H p d/\k= !d.isEmpty)\/∃b,H p=Ga (.dK b)/\k= !b.isEmpty:=e;rcases a with⟨d,g,a⟩|⟨d,g,a⟩|⟨b,g,a⟩
  .subst a;obtain⟨l,r,n,o⟩:=I.list g;have c:=r.length;exact wpAny_truthy_list n.isList (by simp only[List.size_toArray];lia) {H,I.tok _,by rw[ua r];exact q}
  .subst a;obtain⟨l,r,n,o⟩:=I.tuple g;have c:=r.length;exact truthy_tuple n (by simp only[List.size_toArray];lia) {H,I.tok _,by rw[ua r];exact q}
  .subst a;obtain⟨o,w,j,r,m⟩:b.length<=Gj/\(p==T8)=Gq/\∃j,KV b j/\s.heap.DictOf (Ya X.prog X.w) p j:=I.Zv p _ g;have c:b.length=j.length:=Gr r;exact wpAny_truthy_dict w m (by lia) {H,I.tok _,by rw[Hj r];exact q}
 |_=>exact(show False from e).elim
theorem uU(e:PE X a ta)(f:∀b,isTrue a X.env b=(do let v<-b;standAt a.pos;holding [v] (truthy v))):
  PT X a (λσ H Q=>ta σ H λx H'=>∃k,qH X.K x H' k/\Q k H'):=by
 intro c s σ H Q I h;exact Nh (Yi (e c s σ H _ I h) λv j⟨x,b,d,i,g⟩=>vH c j σ b x v Q d i g) (f _)
theorem Oi:gi X (binaryOp .Add) (λx y H Q=>∃i j,x=.str i/\y=.str j/\i.length+j.length<=Gj/\Q (.str (i++j)) H):=by intro a s g H x y v u Q I c d h;obtain⟨i,j,rfl,rfl,b,q⟩:=h;obtain⟨t,rfl⟩:=c;obtain⟨e,rfl⟩:=d;exact add_str (λe f=>{.str (i++j),H,I.tok _,{_,Xb},q}) b
theorem vals1{x:V}(r:Zt [x] us):∃u,us=[u]/\zm x u:=by
 cases r with
 |cons a b=>cases b;exact{_,Xb,a}
theorem vals2{x y:V}(r:Zt [x,y] us):∃u a,us=[u,a]/\zm x u/\zm y a:=by
 cases r with
 |cons b c=>
  cases c with
  |cons d e=>cases e;exact{_,_,Xb,b,d}
theorem Al:V9 X (.builtin "abs") (λxs H Q=>∃i,xs=[.int i]/\Q (.int (if i<0 then -i else i)) H):=by intro a s d H xs c Q I r h;obtain⟨i,rfl,q⟩:=h;obtain⟨u,rfl,t,rfl⟩:=vals1 r;exact call_abs_int λu b=>{.int (if i<0 then -i else i),H,I.tok _,{_,Xb},q}
theorem Co(c:X.calm=Gg):V9 X (.builtin "min") (λxs H Q=>∃i j,xs=[.int i,.int j]/\Q (.int (if j<i then j else i)) H):=by
 intro b s m H xs g Q I r h;obtain⟨i,j,rfl,q⟩:=h;obtain⟨u,l,rfl,⟨t,rfl⟩,⟨e,rfl⟩⟩:=vals2 r;refine min_two_ints (I.ok.hd c) λd f k=>{_,H,I.kept k,?_,q};by_cases a:j<i
 .rw[Gn a,Gn a];exact{_,Xb}
 .rw[Gh a,Gh a];exact{_,Xb}
def Q2(K:Gd)(x:V)(H:Hp)(n:Nat):Prop:=
 match x with
 |.str y=>y.length<=Gj/\n=y.length
 |.byt y=>y.size<=Gj/\n=y.size
 |.ref p=>(∃xs,Zb K H p xs/\n=xs.length)\/∃xs,Zz K H p xs/\n=xs.length
 |_=>False
theorem Xd:V9 X (.builtin "len") (λxs H Q=>∃x n,xs=[x]/\Q2 X.K x H n/\Q (.int n) H):=by
 intro j s w H xs v Q I r h;obtain⟨x,n,rfl,e,q⟩:=h;obtain⟨u,rfl,i⟩:=vals1 r;have m:=Om;have o:Gj=16777216:=Gz;cases x with
 |str y=>obtain⟨t,rfl⟩:=i;obtain⟨k,b⟩:y.length<=Gj/\n=y.length:=e;subst b;exact len_str (by ext) {.int _,H,I.tok _,{_,Xb},q}
 |byt y=>obtain⟨t,rfl⟩:=i;obtain⟨k,b⟩:y.size<=Gj/\n=y.size:=e;subst b;exact RJ (by ext) {.int _,H,I.tok _,{_,Xb},q}
 |ref p=>
  cases i;have b:(∃xs,Zb X.K H p xs/\n=xs.length)\/∃xs,Zz X.K H p xs/\n=xs.length:=e;rcases b with⟨xs,c,b⟩|⟨xs,c,b⟩
  .subst b;obtain⟨d,g,f,l⟩:=I.list c;have a:=g.length;exact LC f.isList (by simp only[List.size_toArray];ext) {.int xs.length,H,I.tok _,{_,by simp only[List.size_toArray];rw[a]},q}
  .subst b;obtain⟨d,g,f,l⟩:=I.tuple c;have a:=g.length;exact len_tuple f (by simp only[List.size_toArray];ext) {.int xs.length,H,I.tok _,{_,by simp only[List.size_toArray];rw[a]},q}
 |_=>exact(show False from e).elim
end
structure iL(h:Heap)(x dx C:Gc)(mA:GY->Option Value):Prop where
 obj:h.get? x=Ga (DU C dx)
 ns:h.Ns1 dx mA
 ne:dx≠x
theorem BW{h:Heap}{d:Gc}{g:GY->Option Value}(n:h.Ns1 d g):∃i,h.get? d=Ga i/\∀b,Sn b i=Ga (g b):=by
 obtain⟨o,f,s,p,k,l,_,m⟩:=n;refine{o,p,λb=>?_};have e:=m b;unfold nsFind findBy at e;rw[<-Array.find?_toList]at e;unfold Sn;rw[k];dsimp only;split
 .rename_i y q
  rw[q]at e;exact congrArg Ga e
 .rename_i q
  rw[q]at e;have a:f.toList.any (·.refKey)=Gq:=by rw[List.any_eq_false];intro y r;obtain⟨z,t,c⟩:=l y (Array.mem_toList_iff.mp r);simp[RY,c]
  have j:¬f.toList.any (·.refKey)=Gg:=by rw[a];exact GO
  rw[Gh j];exact congrArg Ga e
theorem iL.look{h:Heap}{x c:Gc}{d:GY->Option Value}(I:iL h x c C d):∃b,Bq h x (DU C c) C (Ga b)/\∀a,Sn a b=Ga (d a):=
 let⟨b,ho,hl⟩:=BW I.ns
 {b,{I.obj,Xb,Xb,ho},hl}
section
variable{prog:Gi}{w:Gu}{A:TL}{E:Value->Gk->Prop}{s:Gk}{K:Gd}{x dx C f:Gc}{mA:GY->Option Value}{name:GY}{v:Value}
theorem PQ{a:Bool}(X:K.In s.heap)(I:iL s.heap x dx C mA)(d:Dp K C name=Gg)(e:Dw K C=Gg)
  (c:GV K (.ref C) name=Ga Ge)(g:mA name=Ga v)(b:Fv v=Gg)(h:Q v {s with toks:=s.toks+1}):
  wpAny (Tb prog w) A (getAttr (.ref x) name a) Q E s:=by
 obtain⟨i,J,f⟩:=I.look;exact RK X J (Sd d).1 (NR e c rfl (by rw[f,g])) b h
theorem C0{Q:Value×List Value->Gk->Prop}(X:K.In s.heap)(I:iL s.heap x dx C mA)(a:Dp K C name=Gg)
  (b:GV K (.ref C) name=Ga (Ga (.ref f)))(d:Tk K (.ref f)=Gg)(e:mA name=Ge)(h:Q (.ref f,[.ref x]) s):
  wpAny (Tb prog w) A (getMethod (.ref x) name pl) Q E s:=by
 obtain⟨g,J,c⟩:=I.look;exact RL X J (Sd a).1 (Sd a).2 b (So.mp d) (by show(Sn name g).map (·.isSome)=Ga Gq;rw[c,e];rfl) h
theorem PL{j:List GY}{Q:Unit->Gk->Prop}(X:K.In s.heap)(I:iL s.heap x dx C mA)
  (p:GV K (.ref C) "__setattr__"=Ga (Ga (.builtin "object.__setattr__")))(o:DR K C=Gg)(r:Lh K C name=Ga Ge)(n:Dw K C=Gg)
  (hw:L8 mA j)(q:j.length<=Gj)
  (h:∀d,iL d x dx C (λy=>if y=name then Ga v else mA y)->Heap.SameBut dx s.heap d->Q () {s with heap:=d,toks:=s.toks+2}):
  wpAny (Tb prog w) A (setAttr (.ref x) name v) Q E s:=by
 obtain⟨B,J,q⟩:=I.look;refine RM X J p (RZ (s:={s with toks:=s.toks+1}) (r:=Ge) X J o r λb=>?_);obtain⟨u,m,f⟩:=Ba n;have t:s.heap.get? x=Ga {.ref C,Ga dx,.plain,#[]}:=I.obj;refine Gb (Gf (Gb (Gb (wpAny_loadPart t (Gb (RB (s:={s with toks:=s.toks+1}) (NS X m) ?_))))));rw[f];refine Gf (a:=Ga dx) (Gb (Gf (Gb ?_)));refine wpAny_nsSet1 (s:={s with toks:=s.toks+1}) I.ns λd a c=>?_;obtain⟨z,l,k,i,g,e⟩:=a.count (RN name v hw);refine Gb (wpAny_lookBehind i (by rw[g];exact pastItsLine_dict (Tw e (by rw[List.length_cons];ext))) ?_);exact Gf (h _ {(c.2 _ (Gp I.ne)).trans I.obj,a,I.ne} c)
theorem OM{R:Nj->Gk->Prop}{b:List Value}(X:K.In s.heap)(i:D4 K C=Gg)
  (e:GV K (.ref C) "__init__"=Ga (Ga (.ref f)))(c:Br K (.ref f)=Ga (.type "function"))
  (h:codeAny (Tb prog w) (A.under (.builtin "type.__call__" {.ref C::b,kw})) (.call (.ref f) {.ref (s.heap.objs.size+1)::b,kw}) (Bb (s.heap.objs.size+1) R)
   {s with heap:=(s.heap.push Dk).push (DU C s.heap.objs.size)}):
  codeAny (Tb prog w) A (.call (.ref C) ⟨b,kw⟩) R s:=by
 obtain⟨a,g,d,t,os⟩:=s;exact RO (Bc X i) (NJ X e) (λa=>Bl X a c) (.inl Xb) h
end
def Yj(f:GY)(v:V):List (GY×V)->List (GY×V)
 |[]=>[(f,v)]
 |(g,x)::r=>if g=f then(g,v)::r else(g,x)::Yj f v r
theorem yo(f g:GY)(v:V):∀c:List (GY×V),(Yj f v c).lookup g=if g=f then Ga v else c.lookup g
 |[]=>by
  show List.lookup g [(f,v)]=_;by_cases h:g=f
  .have a:(g==f)=Gg:=So.mpr h;simp only[List.lookup,a,Gn h]
  .have a:(g==f)=Gq:=DB.mpr h;simp only[List.lookup,a,Gh h]
 |(k,x)::r=>by
  have d:=yo f g v r;rw[show Yj f v ((k,x)::r)=(if k=f then(k,v)::r else(k,x)::Yj f v r)from rfl];by_cases b:k=f
  .rw[Gn b];by_cases h:g=k
   .have a:(g==k)=Gg:=So.mpr h;simp only[List.lookup,a,Gn (h.trans b)]
   .have a:(g==k)=Gq:=DB.mpr h;simp only[List.lookup,a,Gh (λe:g=f=>h (e.trans b.symm))]
  .rw[Gh b];by_cases h:g=k
   .have a:(g==k)=Gg:=So.mpr h;simp only[List.lookup,a,Gh (λe:g=f=>b (h.symm.trans e))]
   .have a:(g==k)=Gq:=DB.mpr h;simp only[List.lookup,a];exact d
theorem ox(f:GY)(v:V):∀a:List (GY×V),f∈(Yj f v a).map (·.1)/\∀g,g∈a.map (·.1)->g∈(Yj f v a).map (·.1)
 |[]=>{by simp[Yj],λg h=>by simp at h}
 |(k,x)::r=>by
  obtain⟨c,d⟩:=ox f v r;rw[show Yj f v ((k,x)::r)=(if k=f then(k,v)::r else(k,x)::Yj f v r)from rfl];by_cases b:k=f
  .rw[Gn b];subst b;exact{by simp,λg h=>by simpa using h}
  .rw[Gh b];refine{?_,λg h=>?_}
   .rw[List.map_cons];exact List.mem_cons_of_mem _ c
   .rw[List.map_cons]at h⊢;rcases List.mem_cons.mp h with e|e
    .exact List.mem_cons.mpr (.inl e)
    .exact List.mem_cons_of_mem _ (d g e)
theorem yW(f:GY)(v:V):∀a:List (GY×V),(Yj f v a).length<=a.length+1
 |[]=>by simp[Yj]
 |(k,x)::r=>by
  have c:=yW f v r;rw[show Yj f v ((k,x)::r)=(if k=f then(k,v)::r else(k,x)::Yj f v r)from rfl];by_cases b:k=f
  .rw[Gn b,List.length_cons,List.length_cons];lia
  .rw[Gh b,List.length_cons,List.length_cons];lia
theorem J2.some_of{o:Option Value}(r:J2 (Ga v) o):∃u,o=Ga u/\zm v u:=by
 cases o with
 |none=>exact(show False from r).elim
 |some u=>exact⟨u,Xb,r⟩
theorem J2.none_of{o:Option Value}(r:J2 Ge o):o=Ge:=by
 cases o with
 |none=>rfl
 |some u=>exact(show False from r).elim
theorem Pr(r:zm v u):Fv u=Gg:=by
 cases v with
 |non=>cases(show u=Value.none from r);rfl
 |bl b=>cases(show u=Value.bool b from r);rfl
 |int i=>obtain⟨t,e⟩:=(show∃t,u=Value.int i t from r);cases e;rfl
 |str x=>obtain⟨t,e⟩:=(show∃t,u=Value.str x t from r);cases e;rfl
 |byt b=>obtain⟨t,e⟩:=(show∃t,u=Value.bytes b t from r);cases e;rfl
 |flt b=>obtain⟨t,e⟩:=(show∃t,u=Value.float b t from r);cases e;rfl
 |ref a=>cases(show u=Value.ref a from r);rfl
 |ty n=>cases(show u=Value.type n from r);rfl
section
variable{P:Gi}{w:Gu}{H H':Hp}{h h':Heap}{a C dx:Gc}{fs fs':List (GY×V)}
theorem la(c:Ru P w H h)(e:H a=Ga (.ins C dx fs)):∃b,iL h a dx C b/\(∀f,J2 (fs.lookup f) (b f))/\L8 b (fs.map (·.1))/\fs.length<=1000/\H dx=Ga (.own a):=by obtain⟨d,z,f,g,b,n,r,q⟩:=(show Z1 P w H h a (.ins C dx fs)from c a _ e);exact{b,⟨g,n,f⟩,r,q,z,d}
end
structure gC(K:Gd)(C:Gc):Prop where
 pg:Dp K C Et=Gg
 hd:Dw K C=Gg
 po:DR K C=Gg
 sa:GV K (.ref C) "__setattr__"=Ga (Ga (.builtin "object.__setattr__"))
theorem gC.get(c:gC K C)(f:GY):Dp K C f=Gg:=c.pg
def Yp(K:Gd)(C:Gc)(f:GY):Prop:=GV K (.ref C) f=Ga Ge
theorem Yp.Kj{f:GY}(n:Yp K C f):Lh K C f=Ga Ge:=by unfold Lh;rw[show GV K (.ref C) f=Ga Ge from n];rfl
structure Yc(K:Gd)(C:Gc)(m:GY)(f:Gc):Prop where
 at_:GV K (.ref C) m=Ga (Ga (.ref f))
 fn:Tk K (.ref f)=Gg
 kp:T1 K (.ref f)=Gg
section
variable{X:Cx}{zq:List (Gc×Ek)}{σ:St}{H:Hp}{s:Gk}{a C dx:Gc}{fs:List (GY×V)}{f:GY}{v:V}{A:TL}{E:Value->Gk->Prop}
theorem CT{b:Bool}(I:zu X zq σ H s)(e:H a=Ga (.ins C dx fs))(c:gC X.K C)(n:Yp X.K C f)(l:fs.lookup f=Ga v)
  (h:∀u g,zu X zq σ H g->zm v u->Q u g):wpAny (Tb X.prog X.w) A (getAttr (.ref a) f b) Q E s:=by
 obtain⟨j,O,r,_,_,_⟩:=la I.Zv e;obtain⟨u,i,d⟩:=J2.some_of (v:=v) (o:=j f) (by rw[<-l];exact r f);exact PQ I.Il O (c.get f) c.hd n i (Pr d) (h u _ (I.tok _) d)
theorem R0{m:GY}{g:Gc}{Q:Value×List Value->Gk->Prop}(I:zu X zq σ H s)(e:H a=Ga (.ins C dx fs))(c:gC X.K C)(k:Yc X.K C m g)(l:fs.lookup m=Ge)
  (h:Q (.ref g,[.ref a]) s):wpAny (Tb X.prog X.w) A (getMethod (.ref a) m pl) Q E s:=by
 obtain⟨d,O,r,_,_,_⟩:=la I.Zv e;have b:d m=Ge:=J2.none_of (by rw[<-l];exact r m);exact C0 I.Il O (c.get m) k.at_ k.fn b h
theorem Kg{y:V}{Q:Unit->Gk->Prop}(I:zu X zq σ H s)(e:H a=Ga (.ins C dx fs))(c:gC X.K C)(n:Yp X.K C f)(b:fs.length<1000)(w:zm y u)
  (h:∀b,zu X zq σ (zj H a (.ins C dx (Yj f y fs))) b->Q () b):wpAny (Tb X.prog X.w) A (setAttr (.ref a) f u) Q E s:=by
 obtain⟨j,O,r,k,_,i⟩:=la I.Zv e;have v:(fs.map (·.1)).length<=Gj:=by rw[List.length_map,Gz];ext
 refine PL I.Il O c.sa c.po n.Kj c.hd k v λl d x=>h _ ?_;have p:∃o,l.get? dx=Ga o:=let⟨o,_,_,e',_⟩:=d.ns;⟨o,e'⟩;refine I.write (x:=a) (e:=dx) (by rw[e];exact Tu) (.inr i) (λb q m z=>(x.2 b m).trans z) p ?_;refine{by rw[Qg O.ne];exact i,?_,O.ne,d.obj,_,d.ns,λg=>?_,λg t=>?_}
 .have:=yW f y fs;ext
 .show J2 ((Yj f y fs).lookup g) (if g=f then Ga u else j g);rw[yo];by_cases q:g=f
  .rw[Gn q,Gn q];exact w
  .rw[Gh q,Gh q];exact r g
 .by_cases q:g=f
  .rw[q];exact(ox f y fs).1
  .refine(ox f y fs).2 g (k g λz=>t ?_);show(if g=f then Ga u else j g)=Ge;rw[Gh q];exact z
theorem zu.made(I:zu X zq σ H s):zu X zq σ (zj (zj H s.heap.objs.size (.own (s.heap.objs.size+1))) (s.heap.objs.size+1) (.ins C s.heap.objs.size []))
  {s with heap:=(s.heap.push Dk).push (DU C s.heap.objs.size)}:=by
 have a:(s.heap.push Dk).get? s.heap.objs.size=Ga Dk:=Heap.get?_push_size s.heap rfl;have f:((s.heap.push Dk).push (DU C s.heap.objs.size)).get? (s.heap.objs.size+1)=Ga (DU C s.heap.objs.size):=by have:=Heap.get?_push_size (s.heap.push Dk) (o:=DU C s.heap.objs.size) rfl;rwa[Heap.size_push]at this
 have g:(s.heap.push Dk).Ns s.heap.objs.size (λ_=>Ge):={Dk,#[],_,a,Xb,(λe h=>absurd h (by simp)),λ_=>rfl};have d:=I.laid (a:=s.heap.objs.size) (o:=.own (s.heap.objs.size+1)) (h':=s.heap.push Dk) (t':=s.toks) (λb u q=>Heap.get?_push_of_some _ q) (Gm _) {_,a};refine d.laid (a:=s.heap.objs.size+1) (o:=.ins C s.heap.objs.size []) (t':=s.toks) (λb u q=>Heap.get?_push_of_some _ q) (Sf (Heap.size_push _ _)) ?_;have c:s.heap.objs.size≠s.heap.objs.size+1:=Tg (DF _);refine{by rw[Qg c,Qb],Gw _,c,f,λ_=>Ge,(Heap.Ns1.of_empty g).at λo q=>Heap.get?_push_of_some _ q,λ_=>Tu,λy i=>absurd rfl i}
theorem Aj{b:Gi}{a:L9}{f:GY}{s:Gk}(d:attributeBase e f a (eval e a)=eval e a)
  (h:wpAny (Tb b w) A (eval e a) (λo c=>wpAny (Tb b w) A (getAttr o f Gg) Q E c) E s):wpAny (Tb b w) A (eval (.Attribute e f pos) a) Q E s:=
 Attribute_any_ h (by rw[arm_eval_Attribute,d])
end
inductive uz(K:Gd)(f:GY)(Q:VK)(x:V)(H1:Hp):Prop
 |mk (a:_) (C:_) (dx:_) (fs:_) (v:_) (h0:x=.ref a) (h1:H1 a=Ga (.ins C dx fs)) (h2:gC K C) (h3:Yp K C f) (h4:fs.lookup f=Ga v) (h5:Q v H1):uz K f Q x H1
def kU(K:Gd)(ta:TE)(f:GY):TE:=λσ H Q=>ta σ H λx H1=>uz K f Q x H1
inductive ro(K:Gd)(f:GY)(D:Ends)(σ:St)(y:V)(x:V)(H2:Hp):Prop
 |mk (a:_) (C:_) (dx:_) (fs:_) (h0:x=.ref a) (h1:H2 a=Ga (.ins C dx fs)) (h2:gC K C) (h3:Yp K C f) (h4:fs.length<1000) (h5:D.nx σ (zj H2 a (.ins C dx (Yj f y fs)))):ro K f D σ y x H2
def Cu(K:Gd)(ta tv:TE)(f:GY):TS:=λD σ H=>tv σ H λy H1=>ta σ H1 λx H2=>ro K f D σ y x H2
section
variable{X:Cx}{o e value:TY}{f:GY}{pos pos' tpos:SX}{ta tv:TE}
theorem Qm(o:PE X e ta)(m:attributeBase e f X.env (eval e X.env)=eval e X.env):PE X (.Attribute e f pos) (kU X.K ta f):=by intro b s t H Q I h;refine Aj m (Yi (o b s t H _ I h) λu z⟨x,d,g,r,a,C,w,y,v,k,j,c,n,l,q⟩=>?_);subst k;obtain rfl:u=Value.ref a:=r;exact CT g j c n l λB A i p=>⟨v,d,i,p,q⟩
theorem Yw(p:PE X o ta)(t:PE X value tv)(r:swapsWith value (Ga (.Attribute o f pos')) pos.line X.env=pure Gq):PS X (.Assign [.Attribute o f pos'] value pos) (Cu X.K ta tv f):=by intro b s d H D I h;refine plainObj_wpAny_Assign_Attribute (Yi (t b s d H _ I h) λu A⟨y,e,g,z,q⟩=>Yi (p b A d e _ g q) λov G⟨x,B,i,w,a,C,E,F,m,k,c,n,l,v⟩=>?_) r;subst m;obtain rfl:ov=Value.ref a:=w;exact Kg i k c n l z λJ j=>{d,_,j,v}
theorem UK{m:GY}{b:SX}{args:List TY}(r:PE X e te)(I:zu X zq σ H s)
  (h:te σ H λx H1=>∃a C n i g,x=.ref a/\H1 a=Ga (.ins C n i)/\gC X.K C/\Yc X.K C m g/\i.lookup m=Ge/\
   ∀d,zu X zq σ H1 d->wpAny (Tb X.prog X.w) X.A (callWith pos (.ref g) [.ref a] (DX pos (Ti args X.env)) (backToKw pos (keywordEach [] X.env))) Q X.xe d)
  (t:eval (.Call (.Attribute e m b) args [] pos) X.env=(do
   let ov<-eval e X.env
   standAt b.atName
   let(f,first)<-holding [ov] (getMethod ov m pl)
   callWith pos f first (DX pos (Ti args X.env)) (backToKw pos (keywordEach [] X.env)))):
  wpAny (Tb X.prog X.w) X.A (eval (.Call (.Attribute e m b) args [] pos) X.env) Q X.xe s:=by
 refine EO (pl:=pl) (Yi (r zq s σ H _ I h) λu d⟨x,H1,j,v,a,C,n,i,g,p,o,c,k,l,q⟩=>?_) t;subst p;obtain rfl:u=Value.ref a:=v;exact R0 j o c k l (q d j)
end
section
variable{X:Cx}{zq:List (Gc×Ek)}{σ:St}{H:Hp}{s:Gk}{A:TL}{E:Value->Gk->Prop}{Q:Value->Gk->Prop}{c:Value}{b:Bool}
inductive Ro(K:Gd)(H:Hp):V->Value->Prop where
 |non:Ro K H .non (.type "NoneType")
 |bl (x:Bool):Ro K H (.bl x) (.type "bool")
 |int (i:Int):Ro K H (.int i) (.type "int")
 |str (x:GY):Ro K H (.str x) (.type "str")
 |flt (x:UInt64):Ro K H (.flt x) (.type "float")
 |lst {a:Gc} {xs:List V} (e:H a=Ga (.lst xs)):Ro K H (.ref a) (.type "list")
 |frz {a:Gc} {o:Ek} {xs:List V} (e:H a=Ga (.frz o (.lst xs))):Ro K H (.ref a) (.type "list")
 |tup {a:Gc} {xs:List V} (e:H a=Ga (.tup xs)):Ro K H (.ref a) (.type "tuple")
 |dK {a:Gc} {zw:List (Xm×V)} (e:H a=Ga (.dK zw)):Ro K H (.ref a) (.type "dict")
 |dT {a:Gc} {zw:List (List Xm×V)} (e:H a=Ga (.dT zw)):Ro K H (.ref a) (.type "dict")
 |ins {a C dx:Gc} {fs:List (GY×V)} (e:H a=Ga (.ins C dx fs)) (cl:gC K C) (ha:GV K (.ref C) "__class__"=Ga (Ga (.builtin "object.__class__")))
   (hn:RP K (.builtin "object.__class__") "__get__"=Ga (Ga (.builtin "getset_descriptor.__get__"))) (htk:Bm K (.builtin "object.__class__")=Ga Gg)
   (hm:Bt K C (.type "object")=Ga Gg):Ro K H (.ref a) (.ref C)
theorem OT{x:V}{t:Value}(I:zu X zq σ H s)(f:zm x u)(ty:Ro X.K H x t)(e:Tf X.K t c=Ga b)(h:∀m,Q (.bool b) {s with toks:=m}):
  wpAny (Tb X.prog X.w) A (call (.builtin "isinstance") [u,c]) Q E s:=by
 cases ty with
 |non=>cases(show u=Value.none from f);exact Dh Fc I.Il Tu e nofun h
 |bl y=>cases(show u=Value.bool y from f);exact Dh Fd I.Il Tu e nofun h
 |int i=>obtain⟨t,q⟩:=(show∃t,u=Value.int i t from f);cases q;exact Dh Fw I.Il Tu e nofun h
 |str y=>obtain⟨t,q⟩:=(show∃t,u=Value.str y t from f);cases q;exact Dh Fy I.Il Tu e nofun h
 |flt y=>obtain⟨t,q⟩:=(show∃t,u=Value.float y t from f);cases q;exact Dh LW I.Il Tu e nofun h
 |@lst a k d=>cases(show u=Value.ref a from f);obtain⟨_,_,n,_,g⟩:=(show Z1 X.prog X.w H s.heap a (.lst k)from I.Zv a _ d);exact Dh EK I.Il {_,g,Xb} e nofun h
 |@frz a m k d=>cases(show u=Value.ref a from f);obtain⟨_,_,_,n,_,g⟩:=(show Z1 X.prog X.w H s.heap a (.frz m (.lst k))from I.Zv a _ d);exact Dh EK I.Il {_,g,Xb} e nofun h
 |@tup a k d=>cases(show u=Value.ref a from f);obtain⟨_,_,_,p⟩:=(show Z1 X.prog X.w H s.heap a (.tup k)from I.Zv a _ d);obtain⟨o,g,l,_⟩:=p;exact Dh LX I.Il ⟨o,g,l⟩ e nofun h
 |@dK a j d=>cases(show u=Value.ref a from f);obtain⟨_,_,m,_,p⟩:=(show Z1 X.prog X.w H s.heap a (.dK j)from I.Zv a _ d);obtain⟨o,w,v,g,l,_⟩:=p;exact Dh EL I.Il {o,g,l.1} e nofun h
 |@dT a j d=>cases(show u=Value.ref a from f);obtain⟨_,_,k,_,o,w,v,g,l,_⟩:=(show Z1 X.prog X.w H s.heap a (.dT j)from I.Zv a _ d);exact Dh EL I.Il {o,g,l.1} e nofun h
 |@ins a C F G d r z D m B=>cases(show u=Value.ref a from f);obtain⟨K,O,_⟩:=la I.Zv d;obtain⟨L,J,_⟩:=O.look;exact Dh (Bd (r.get _) r.hd z D m B) I.Il J e nofun h
end
structure Yd(k:Nat)(A:TL):Prop where
 hd:A.handled=Ge
 dp:A.depth+3*k+5<recursionLimit
 un:A.units+16*k+200<DM
variable{Q:VK}
theorem Yd.mono{j:Nat}(r:Yd k A)(h:j<=k):Yd j A:={r.hd,by have:=r.dp;lia,by have:=r.un;lia}
theorem Yd.deeper{k:Nat}{A:TL}(r:Yd (k+1) A)(a:L9):Yd k (A.deeper a):=
 {r.hd,by have:=r.dp;show A.depth+1+3*k+5<_;lia,by have:=r.un;show A.units+3+16*k+200<_;lia}
theorem Hg:(A.under (.builtin "type.__call__" {.ref C::us,kw})).depth=A.depth+1:=by first|rfl|simp[Fe,Code.weight,Code.isCreation,Code.isGuard,Code.isCaller,NK,Ff,guardIds]
theorem Hy:(A.under (.builtin "type.__call__" {.ref C::us,kw})).units=A.units+1:=by first|rfl|simp[Fe,Code.cUnits,NK,Ff]
theorem Yd.make(r:Yd (k+1) A)(C:Gc)(b:List Value)(a:List (GY×Value)):Yd k (A.under (.builtin "type.__call__" {.ref C::b,a})):=
 {r.hd,by have:=r.dp;rw[Hg];ext,by have:=r.un;rw[Hy];ext}
theorem Yd.depth{k:Nat}{A:TL}(r:Yd k A):A.depth<recursionLimit:=by have:=r.dp;ext
theorem Yd.units{k:Nat}{A:TL}(r:Yd k A):A.units+64<DM:=by have:=r.un;lia
def jc:TA:=λ_ H Q=>Q [] H
def jo(ta:TE)(a:TA):TA:=λσ H Q=>ta σ H λx H1=>a σ H1 λxs H2=>Q (x::xs) H2
section
variable{X:Cx}{e:TY}{es:List TY}{te:TE}{t:TA}{pos:SX}
theorem Qe:PA X [] jc:=λ_ _ _ _ H Q I h=>Ey {[],H,I,.nil,h}
theorem Qa(j:PE X e te)(k:PA X es t)(l:Ti (e::es) X.env=(Gq,eval e X.env)::Ti es X.env:=by rfl):PA X (e::es) (jo te t):=by intro b a s c H Q I h;rw[l];show wpAny _ _ (spliced ((Gq,eval e X.env)::DX b (Ti es X.env))) _ _ s;refine Em (Yi (j a s c H _ I h) λu q⟨x,d,g,o,m⟩=>?_);exact Yi (k b a q c d _ g m) λw v⟨r,f,i,p,n⟩=>{x::r,f,i,.cons o p,n}
def HF(t:TA):TE:=λσ H Q=>t σ H λxs H1=>xs.length<=Gj/\∀p,H1 p=Ge->Q (.ref p) (zj H1 p (.tup xs))
def Kl(t:TA):TE:=λσ H Q=>t σ H λxs H1=>xs.length<=Gj/\∀p,H1 p=Ge->Q (.ref p) (zj H1 p (.lst xs))
theorem Za{k}(h:PA X es t):PE X (.Tuple es k pos) (HF t):=by intro a s m H Q I i;refine wpAny_Tuple_spliced (Yi (h pos a s m H _ I i) λj c⟨l,d,f,r,z,q⟩=>{by rw[<-r.length];exact z,?_});have g:d c.heap.objs.size=Ge:=f.Zv.fresh (Gm _);refine{.ref c.heap.objs.size,zj d c.heap.objs.size (.tup l),f.laid (t':=c.toks) (λb u e=>Heap.get?_push_of_some _ e) (Gm _) ?_,Xb,q _ g};exact{z,j,r,{_,Heap.get?_push_size _ Xb,Xb,_,Xb}}
theorem Zl(h:PA X es t):PE X (.List es pos) (Kl t):=by intro a s l H Q I i;refine wpAny_List_spliced (Yi (h pos a s l H _ I i) λj c⟨k,d,f,r,z,q⟩=>{by rw[<-r.length];exact z,?_});have g:d c.heap.objs.size=Ge:=f.Zv.fresh (Gm _);refine{.ref c.heap.objs.size,zj d c.heap.objs.size (.lst k),f.laid (t':=c.toks) (λb u e=>Heap.get?_push_of_some _ e) (Gm _) ?_,Xb,q _ g};exact{z,j,0,r,Heap.get?_push_size _ Xb}
end
abbrev Sp:=List V->Hp->VK->XK->Prop
abbrev hO:=List L9->Hp->Gk->XK->Value->Gk->Prop
structure iR(P:Gi)(w:Gu)(K:Gd)(mg:GY->Option Value)(base:Heap)(A:TL)(outer:List L9)(s:Gk)(H:Hp):Prop where
 frames:A.frames=Ga outer
 mod:Mod K mg base
 bs:∀b o,base.get? b=Ga o->s.heap.get? b=Ga o/\H b=Ge
 bsz:base.objs.size<=s.heap.objs.size
 gO:s.heap.FunFrames base outer
 frf:∀b∈frs outer,H b=Ge
 Zv:Ru P w H s.heap
 bare:SA s.gens
def CE(outer:List L9)(P:Gi)(w:Gu)(H:Hp)(s:Gk)(Q:VK)(u:Value)(s':Gk):Prop:=
 ∃v H',s'.os=s.os/\SA s'.gens/\Un (frs outer) [] H H' s.heap s'.heap/\Ru P w H' s'.heap/\zm v u/\Q v H'
def CR(CX:hO)(outer:List L9)(P:Gi)(w:Gu)(H:Hp)(s:Gk)(Q:VK)(E:XK)(r:Nj)(s':Gk):Prop:=
 match r with
 |.ok (.ret u)=>CE outer P w H s Q u s'
 |.ok _=>False
 |.error e=>CX outer H s E e s'
structure Qu(P:Gi)(w:Gu)(K:Gd)(mg:GY->Option Value)(base:Heap)(CX:hO)(k:Nat)(f:Gc)(fd:Tp)(ps:List GY)(sp:Sp):Prop where
 len:∀vs H Q E,sp vs H Q E->vs.length=ps.length
 run:∀(A:TL)(outer:List L9)(s:Gk)(H:Hp)(args:Args)(us:List Value)(vs:List V)(Q:VK)(E:XK),Yd k A->iR P w K mg base A outer s H->Fg s fd args (ps.zip us)->Zt vs us->sp vs H Q E->
  codeAny (Tb P w) A (.call (.ref f) args) (CR CX outer P w H s Q E) s
theorem iR.make{b:Heap}{a:List L9}(e:iR P w K mg b A a s H)(C:Gc)(d:List Value)(c:List (GY×Value)):
  iR P w K mg b (A.under (.builtin "type.__call__" {.ref C::d,c})) a s H:={by first|exact e.frames|(simpa[Fe,Code.envs,Ff,pushEnvs]using e.frames),e.mod,e.bs,e.bsz,e.gO,e.frf,e.Zv,e.bare}
section
variable{X:Cx}{zq:List (Gc×Ek)}{σ:St}{H:Hp}{s s':Gk}
theorem zu.sY(I:zu X zq σ H s):iR X.prog X.w X.K X.mg X.base X.A X.stack s H:=
 {I.ok.frames,I.ok.mod,I.bs,Tw I.ok.bsz I.sz,I.stack,I.sQ,I.Zv,I.bare}
theorem zu.after(I:zu X zq σ H s)(h:CE X.stack X.prog X.w H s Q u s'):EP X zq σ Q u s':=by obtain⟨v,e,os,a,un,f,r,q⟩:=h;obtain⟨i,g,d,t,c⟩:=s';obtain rfl:c=s.os:=os;exact{v,e,I.call (h':=i) (g':=g) (d':=d) (t':=t) (ch:=[]) un f a (λb z=>absurd z (by simp)),r,q}
end
def Ae(sp:Sp)(dvs:List V)(E:XK)(t:TA):TE:=λσ H Q=>t σ H λa H1=>sp (a++dvs) H1 Q E
inductive tY(C:Gc)(m:GY)(sp:Sp)(dvs:List V)(E:XK)(t:TA)(σ:St)(Q:VK)(x:V)(H1:Hp):Prop
 |mk (a:_) (dx:_) (fs:_) (h0:x=.ref a) (h1:H1 a=Ga (.ins C dx fs)) (h2:fs.lookup m=Ge) (h3:t σ H1 λvs H2=>sp (x::(vs++dvs)) H2 Q E):tY C m sp dvs E t σ Q x H1
def kq(C:Gc)(m:GY)(sp:Sp)(dvs:List V)(E:XK)(ta:TE)(t:TA):TE:=λσ H Q=>ta σ H λx H1=>tY C m sp dvs E t σ Q x H1
def wW(C:Gc)(sp:Sp)(dvs:List V)(E:XK)(t:TA):TE:=λσ H Q=>t σ H λa H1=>∀x dx,H1 x=Ge->H1 dx=Ge->dx≠x->
 sp (.ref x::(a++dvs)) (zj (zj H1 dx (.own x)) x (.ins C dx [])) (λv H2=>v=.non/\Q (.ref x) H2) E
def zk(K:Gd)(fd:Tp)(ps:List GY)(ds:List Value):Prop:=
 ∀(s:Gk)(a:List Value),K.In s.heap->(a++ds).length=ps.length->Fg s fd {a,[]} (ps.zip (a++ds))
theorem zk.all{b:Tp}(h:∀a:List Value,a.length=ps.length->bindArgs b {a,[]}=pure (ps.zip a)):zk K b ps []:=λs a _ c=>by rw[List.append_nil]at c⊢;exact .of_eq (h a c)
def I8(CX:hO)(X:Cx)(E:XK):Prop:=∀(zq:List (Gc×Ek))(σ:St)(H:Hp)(s:Gk)(e:Value)(s':Gk),zu X zq σ H s->CX X.stack H s E e s'->X.xe e s'
section
variable{X:Cx}{CX:hO}{k:Nat}{f C:Gc}{fd:Tp}{ps:List GY}{sp:Sp}{dvs:List V}{ds:List Value}{E:XK}{x m:GY}{p pos apos:SX}{e o:TY}{es:List TY}{ta:TE}{t:TA}
theorem ql(F:Qu X.prog X.w X.K X.mg X.base CX k f fd ps sp)(j:Yd k X.A)(d:zk X.K fd ps ds)(g:Zt dvs ds)(l:I8 CX X E)
  (I:zu X zq σ H s)(r:Zt vs us)(h:sp (vs++dvs) H Q E):wpAny (Tb X.prog X.w) X.A (call (.ref f) us) (EP X zq σ Q) X.xe s:=by
 have b:Zt (vs++dvs) (us++ds):=r.append g;have i:(us++ds).length=ps.length:=by rw[<-b.length];exact F.len _ _ _ _ h
 refine RC (La (F.run X.A X.stack s H {us,[]} (us++ds) (vs++dvs) Q E j I.sY (d s us I.Il i) b h) λr m a=>?_);cases r with
 |error e=>exact l zq σ H s e m I a
 |ok c=>
  cases c with
  |ret u=>exact I.after a
  |next=>exact False.elim a
  |brk=>exact False.elim a
  |cont=>exact False.elim a
theorem Zs(F:Qu X.prog X.w X.K X.mg X.base CX k f fd ps sp)(u:Yd k X.A)(m:Gl X x)(o:X.mg x=Ga (.ref f))(n:T1 X.K (.ref f)=Gg)(i:zk X.K fd ps ds)(j:Zt dvs ds)(v:I8 CX X E)
  (g:PA X (e::es) t)(b:(x==("__debug__":GY))=Gq:=by decide)(l:Ti (e::es) X.env=(Gq,eval e X.env)::Ti es X.env:=by rfl)(c:(DX pos (Ti es X.env)).any (·.1)=Gq:=by rfl):
  PE X (.Call (.Name x p) (e::es) [] pos) (Ae sp dvs E t):=by
 intro a s w H Q I h;refine Df (lG I m o ?_ b);refine Sq (h₀:=X.base) I.ok.mod.kin n (Yi (g pos a s w H _ I h) λA z⟨B,y,d,r,q⟩=>{d.Il,?_}) l c;exact ql F u i j v d r q
theorem Zf(D:PE X o ta)(c:gC X.K C)(n:Yc X.K C m f)(F:Qu X.prog X.w X.K X.mg X.base CX k f fd ps sp)(G:Yd k X.A)(A:zk X.K fd ps ds)(B:Zt dvs ds)(K:I8 CX X E)(z:PA X (e::es) t)
  (g:Ti (e::es) X.env=(Gq,eval e X.env)::Ti es X.env:=by rfl)(d:(DX pos (Ti es X.env)).any (·.1)=Gq:=by rfl)
  (J:eval (.Call (.Attribute o m apos) (e::es) [] pos) X.env=(do
   let ov<-eval o X.env
   standAt apos.atName
   let(f,first)<-holding [ov] (getMethod ov m pl)
   callWith pos f first (DX pos (Ti (e::es) X.env)) (backToKw pos (keywordEach [] X.env))):=by rfl):
  PE X (.Call (.Attribute o m apos) (e::es) [] pos) (kq C m sp dvs E ta t):=by
 intro b s p H Q I h;refine EO (pl:=pl) (Yi (D b s p H _ I h) λu N⟨x,v,i,M,a,P,R,y,w,l,q⟩=>?_) J;subst y;obtain rfl:u=Value.ref a:=M;refine R0 i w c n l ?_;refine Sq (first:=[.ref a]) (h₀:=X.base) I.ok.mod.kin n.kp (Yi (z pos b N p v _ i q) λus S⟨vs,O,j,r,L⟩=>{j.Il,?_}) g d;exact ql (us:=.ref a::us) (vs:=.ref a::vs) F G A B K j (.cons rfl r) L
theorem wI(p:PE X o ta)(c:gC X.K C)(e:Yc X.K C m f)(F:Qu X.prog X.w X.K X.mg X.base CX k f fd ps sp)(r:Yd k X.A)(j:zk X.K fd ps ds)(n:Zt dvs ds)(v:I8 CX X E)
  (t:eval (.Call (.Attribute o m apos) [] [] pos) X.env=(do
   let ov<-eval o X.env
   standAt apos.atName
   let(f,first)<-holding [ov] (getMethod ov m pl)
   callWith pos f first (DX pos (Ti [] X.env)) (backToKw pos (keywordEach [] X.env))):=by rfl):
  PE X (.Call (.Attribute o m apos) [] [] pos) (kq C m sp dvs E ta jc):=by
 intro b s y H Q I h;refine EO (pl:=pl) (Yi (p b s y H _ I h) λu D⟨x,z,d,w,a,A,B,i,g,l,q⟩=>?_) t;subst i;obtain rfl:u=Value.ref a:=w;refine R0 d g c e l ?_;exact LD (first:=[.ref a]) d.Il e.kp (ql (us:=[.ref a]) (vs:=[.ref a]) F r j n v d (.cons rfl .nil) q)
structure Mk(K:Gd)(C f:Gc):Prop where
 makes:D4 K C=Gg
 init:GV K (.ref C) "__init__"=Ga (Ga (.ref f))
 fn:Tk K (.ref f)=Gg
 kp:T1 K (.ref C)=Gg
theorem tm(M:Mk X.K C f)(F:Qu X.prog X.w X.K X.mg X.base CX k f fd ps sp)(p:Yd (k+1) X.A)(m:zk X.K fd ps ds)(n:Zt dvs ds)
  (q:I8 CX X E)(I:zu X zq σ H s)(r:Zt vs us)
  (h:∀x c,H x=Ge->H c=Ge->c≠x->sp (.ref x::(vs++dvs)) (zj (zj H c (.own x)) x (.ins C c [])) (λv H2=>v=.non/\Q (.ref x) H2) E):
  wpAny (Tb X.prog X.w) X.A (call (.ref C) us) (EP X zq σ Q) X.xe s:=by
 have d:=h (s.heap.objs.size+1) s.heap.objs.size (I.Zv.fresh (EI _)) (I.Zv.fresh (Gm _)) (Tg (DF _));have b:=zu.made (C:=C) I;have g:Zt (V.ref (s.heap.objs.size+1)::(vs++dvs)) (Value.ref (s.heap.objs.size+1)::(us++ds)):=.cons rfl (r.append n);have o:(Value.ref (s.heap.objs.size+1)::us++ds).length=ps.length:=by have e:=g.length;rw[F.len _ _ _ _ d]at e;exact e.symm
 refine RC (OM (f:=f) I.Il M.makes M.init (So.mp M.fn) (La (F.run _ X.stack _ _ {Value.ref (s.heap.objs.size+1)::us,[]} (Value.ref (s.heap.objs.size+1)::(us++ds)) _ _ E (p.make C us [])
  (b.sY.make C us []) (m _ (Value.ref (s.heap.objs.size+1)::us) b.Il o) g d) λr y a=>?_))
 cases r with
 |error e=>exact q zq σ _ _ e y b a
 |ok l=>
  cases l with
  |ret u=>obtain⟨v,i,j,w,ev,t⟩:=b.after a;subst ev;exact{w,{V.ref (s.heap.objs.size+1),i,j,Xb,t}}
  |next=>exact False.elim a
  |brk=>exact False.elim a
  |cont=>exact False.elim a
theorem mQ(M:Mk X.K C f)(F:Qu X.prog X.w X.K X.mg X.base CX k f fd ps sp)(o:Yd (k+1) X.A)(m:Gl X x)(n:X.mg x=Ga (.ref C))(i:zk X.K fd ps ds)(j:Zt dvs ds)(u:I8 CX X E)
  (g:PA X (e::es) t)(b:(x==("__debug__":GY))=Gq:=by decide)(l:Ti (e::es) X.env=(Gq,eval e X.env)::Ti es X.env:=by rfl)(c:(DX pos (Ti es X.env)).any (·.1)=Gq:=by rfl):
  PE X (.Call (.Name x p) (e::es) [] pos) (wW C sp dvs E t):=by
 intro a s v H Q I h;refine Df (lG I m n ?_ b);refine Sq (h₀:=X.base) I.ok.mod.kin M.kp (Yi (g pos a s v H _ I h) λz y⟨A,w,d,r,q⟩=>{d.Il,?_}) l c;exact tm M F o i j u d r q
theorem wc(M:Mk X.K C f)(F:Qu X.prog X.w X.K X.mg X.base CX k f fd ps sp)(i:Yd (k+1) X.A)(e:Gl X x)(g:X.mg x=Ga (.ref C))(c:zk X.K fd ps ds)(d:Zt dvs ds)(j:I8 CX X E)
  (a:(x==("__debug__":GY))=Gq:=by decide):PE X (.Call (.Name x p) [] [] pos) (wW C sp dvs E jc):=by
 intro b s l H Q I h;refine Df (lG I e g ?_ a);exact LD I.Il M.kp (tm (us:=[]) M F i c d j I .nil h)
end
structure Qw(N P:List GY)(sc:SQ):Prop where
 kind:sc.kind=.function
 co:sc.isCoroutine=Gq
 gen:sc.isGenerator=Gq
 nd:N.Nodup
 pre:N.take P.length=P
 par:∀x∈P,sc.names.lookup x=Ga .local\/sc.names.lookup x=Ga .cell
 Q1l:∀y∈sc.names,y.2≠.free
theorem wM{kindOf:GY->Option E1}{x:GY}:∀{a:List (GY×Value)}{m:GY->Option Value},(∀v,(x,v)∉a)->bindL kindOf a m x=m x
 |[],_,_=>rfl
 |(n,v)::r,m,h=>by
  unfold bindL;rw[wM λw hw=>h w (List.mem_cons_of_mem _ hw)];split
  .have:x≠n:=by rintro rfl;exact h v List.mem_cons_self
   simp[this]
  .rfl
theorem qT{kindOf:GY->Option E1}{x:GY}:∀{a:List (GY×Value)}{m:GY->Option Value},(∀v,(x,v)∉a)->bindC kindOf a m x=m x
 |[],_,_=>rfl
 |(n,v)::r,m,h=>by
  unfold bindC;rw[qT λw hw=>h w (List.mem_cons_of_mem _ hw)];split
  .rfl
  .have:x≠n:=by rintro rfl;exact h v List.mem_cons_self
   simp[this]
theorem y8{kindOf:GY->Option E1}{x:GY}{v:Value}:∀{P:List GY}{a:List Value}{i:Nat}{m:GY->Option Value},P.Nodup->P[i]?=Ga x->a[i]?=Ga v->kindOf x=Ga .local->
  bindL kindOf (P.zip a) m x=Ga v
 |[],_,_,_,_,h,_,_=>by simp at h
 |_::_,[],_,_,_,_,h,_=>by simp at h
 |p::P,w::a,0,m,e,b,c,d=>by simp at b c;subst b;subst c;show bindL kindOf ((p,w)::P.zip a) m p=_;unfold bindL;rw[wM λv f=>(List.nodup_cons.mp e).1 (List.of_mem_zip f).1,Gn d];simp
 |p::P,w::a,i+1,m,e,b,c,d=>by show bindL kindOf ((p,w)::P.zip a) m x=_;unfold bindL;exact y8 (i:=i) (List.nodup_cons.mp e).2 (by simpa using b) (by simpa using c) d
theorem yF{kindOf:GY->Option E1}{x:GY}{v:Value}:∀{P:List GY}{a:List Value}{i:Nat}{m:GY->Option Value},P.Nodup->P[i]?=Ga x->a[i]?=Ga v->kindOf x≠Ga .local->
  bindC kindOf (P.zip a) m x=Ga v
 |[],_,_,_,_,h,_,_=>by simp at h
 |_::_,[],_,_,_,_,h,_=>by simp at h
 |p::P,w::a,0,m,e,b,c,d=>by simp at b c;subst b;subst c;show bindC kindOf ((p,w)::P.zip a) m p=_;unfold bindC;rw[qT λv f=>(List.nodup_cons.mp e).1 (List.of_mem_zip f).1,Gh d];simp
 |p::P,w::a,i+1,m,e,b,c,d=>by show bindC kindOf ((p,w)::P.zip a) m x=_;unfold bindC;exact yF (i:=i) (List.nodup_cons.mp e).2 (by simpa using b) (by simpa using c) d
def start(N:List GY)(a:List V):St:=a.map Ga++List.replicate (N.length - a.length) Ge
def iG(CX:hO)(P:Gi)(w:Gu)(K:Gd)(mg:GY->Option Value)(base:Heap)(N:List GY)(qual:GY)(scope:SQ)(f:Gc)(b:Value)(A:TL)(outer:List L9)(s:Gk)(H:Hp)(E:XK):Cx where
 prog:=P
 w:=w
 K:=K
 mg:=mg
 base:=base
 A:=A.deeper (envOfC qual scope s.heap.objs.size f b)
 N:=N
 s₀:=s
 H₀:=H
 env:=envOfC qual scope s.heap.objs.size f b
 outer:=outer
 stack:=envOfC qual scope s.heap.objs.size f b::outer
 ex:=[]
 calm:=Gg
 fn:=λ_=>Gg
 pn:=[]
 xe:=λe s'=>wpAny (Tb P w) (A.deeper (envOfC qual scope s.heap.objs.size f b)) (leaving (envOfC qual scope s.heap.objs.size f b) e) (λ_ a=>CX outer H s E e a) (λc a=>CX outer H s E c a) s'
theorem uV{a:SQ}(h:a.names.lookup x=Ga .cell):∃c,(cellsFrom n a.names []).lookup x=Ga c:=by have q:=Lb a.names n [] (.inl h);exact SJ.mp q
theorem CV{G:hO}{l:Heap}{g:GY}{scope:SQ}{f:Gc}{C:Value}{d:List L9}{L:Gk}{E:XK}
  (S:Qw N ps scope)(O:A.handled=Ge)(m:iR P w K mg l A d s H)(e:vs.length=ps.length)(r:Zt vs us)
  (x:InCallC s s.heap.objs.size (bindL (envOfC g scope s.heap.objs.size f C).kindOf (ps.zip us) λ_=>Ge) (cellsFrom (s.heap.objs.size+1) scope.names []) (bindC (envOfC g scope s.heap.objs.size f C).kindOf (ps.zip us) λ_=>Ge) L):
  zu (iG G P w K mg l N g scope f C A d s H E) [] (start N vs) H L:=by
 have e:ps.length<=N.length:=by have:=congrArg List.length S.pre;rw[List.length_take]at this;lia
 obtain⟨D,T,rfl,I⟩:=x.done;have o:∀b:Gc,b∉(iG G P w K mg l N g scope f C A d s H E).ex:=λb z=>absurd (show b∈([]:List Gc)from z) (by simp);exists {m.mod,S.kind,Xb,Xb,Gm _,λy z c D j=>?_,λy n=>?_,λy c _ h=>?_,λ_=>O,Around.frames_deeper m.frames,.inr ⟨Xb,Xb⟩,λb z=>absurd z (o b),m.bs,m.bsz,λb _ _=>o b,λb z=>absurd z (o b),m.gO,m.frf},
  Xb,m.bare,Un.kept I,{_,x.toInCall.ns,λi y v D j R=>?_},λy c h=>{_,x.cell y c h},m.Zv.fresh (Gm _),λy c h=>?_,λp t=>absurd (show p∈([]:List (Gc×Ek))from t) (by simp),m.Zv.kept I
 .exact name_of_addr x.apart (Dj D) (Dj j)
 .have n:scope.names.lookup y=Ga .cell\/scope.names.lookup y=Ga .free:=n;rcases n with n|n
  .exact uV n
  .exact absurd rfl (S.Q1l _ (Dj n))
 .exact Se (x.above y c (Dj h))
 .have F:i<vs.length:=by
   unfold start at j;by_cases F:i<vs.length
   .exact F
   .rw[List.getElem?_append_right (by simpa using F)]at j;rw[List.getElem?_replicate]at j;split at j<;>cases j
  have M:vs[i]?=Ga v:=by
   unfold start at j;rw[List.getElem?_append_left (by simpa using F),List.getElem?_map]at j;cases e:vs[i]? with
   |none=>rw[e]at j;cases j
   |some a=>rw[e]at j;cases j;rfl
  obtain⟨u,J,Q⟩:=r.get M;have t:ps[i]?=Ga y:=by rw[<-S.pre,List.getElem?_take_of_lt (by lia)];exact D
  have B:ps.Nodup:=by rw[<-S.pre];exact S.nd.sublist (List.take_sublist _ _)
  exists u,Q;rcases S.par y (List.mem_of_getElem? t)with k|k
  .exact .inl {k,y8 B t J k}
  .obtain⟨c,e⟩:=uV (n:=s.heap.objs.size+1) k;refine .inr {.inl k,c,e,?_};have q:=x.cell y c e;rw[yF B t J (by show scope.names.lookup y≠_;rw[k];decide)]at q;exact q
 .exact m.Zv.fresh (Se (x.above y c (Dj h)))
 .unfold start;show _=N.length;rw[List.length_append,List.length_map,List.length_replicate];lia
theorem QW{o:hO}{p:Heap}{i:Gc}{O g:GY}{Q:Arguments}{scope:SQ}{H kV I R f ct oc:Value}{G od:Option Gc}
  {ac:Array (Option Value)}{F:Sp}(lk:K.lookup i=Ga {oc,od,.func (Du O g Q body scope H kV I R G f ct),ac})(Z:Sj K f g=Gg)(S:Qw N ps scope)
  (M:∀c a b d,F c a b d->c.length=ps.length)
  (Y:∀(h:TL)(l:List L9)(s:Gk)(a:Hp)(c:List V)(b:VK)(d:XK),Yd k (h.deeper (envOfC g scope s.heap.objs.size i f))->F c a b d->
   ∃t,Ik (iG o P w K mg p N g scope i f h l s a d) body t/\t {nx:=λ_ H'=>b .non H',rt:=b} (start N c) a):
  Qu P w K mg p o (k+1) i (Du O g Q body scope H kV I R G f ct) ps F:=by
 refine{M,λh l s a ae us c b d B m X ad L=>?_};have hl:=M _ _ _ _ L;have KX:K.In s.heap:=m.mod.kin.keeps λA C r=>(m.bs A C r).1;have ab:s.heap.NoLimit:=m.mod.nolimit.keeps λA C r=>(m.bs A C r).1;have aa:∀y∈ps.zip us,scope.names.lookup y.1=Ga .local\/(scope.names.lookup y.1=Ga .cell/\((cellsFrom (s.heap.objs.size+1) scope.names []).lookup y.1).isSome=Gg):=λ⟨n,v⟩hy=>by
  rcases S.par n (List.of_mem_zip hy).1 with q|q
  .exact .inl q
  .exact .inr {q,Lb _ _ _ (.inl q)}
 refine codeAny_call_function B.depth (KX _ _ lk) rfl S.co S.gen rfl (RD KX Z) (X _ _ _ _ ?_);refine wpAny_newFunctionEnv_cells S.kind aa λaf he T x=>?_;subst he;refine{ab.keeps x.toInCall.keep,codeAny_func ?_};obtain⟨t,ht,hq⟩:=Y h l s a c b d (B.deeper _) L;have U:zu (iG o P w K mg p N g scope i f h l s a d) [] (start N c) a T:=CV S B.hd m hl ad x;refine DI (ht [] T (start N c) a _ U hq) (λW E j=>?_) λr E j=>j;have J:∀{z:St}{H':Hp}{v:V}{u:Value},zu (iG o P w K mg p N g scope i f h l s a d) [] z H' E->zm v u->b v H'->CE l P w a s b u E:=
  λ{z H' v u}e D q=>{v,H',e.os,e.bare,e.base,e.Zv,D,q}
 cases W with
 |ret u=>obtain⟨v,z,H',e,D,q⟩:=j;exact J e D q
 |next=>obtain⟨z,H',e,q⟩:=j;exact J (v:=V.non) (u:=Value.none) e rfl q
 |brk=>obtain⟨_,_,_,q⟩:=j;exact False.elim q
 |cont=>obtain⟨_,_,_,q⟩:=j;exact False.elim q
section
variable{X:Cx}{x:GY}{p pos:SX}{e:TY}{es:List TY}{t:TA}{id T:String}{r:List V->Hp->VK->Prop}
def tCB(r:List V->Hp->VK->Prop)(t:TA):TE:=λσ H Q=>t σ H λa H1=>r a H1 Q
theorem Qo(j:V9 X (.builtin id) r)(l:Gl X x)(m:X.mg x=Ge)(o:bootBuiltins x=Ga (.builtin id))(i:PA X (e::es) t)(n:x≠"__name__":=by decide)(b:(x==("__debug__":GY))=Gq:=by decide)
  (k:Ti (e::es) X.env=(Gq,eval e X.env)::Ti es X.env:=by rfl)(c:(DX pos (Ti es X.env)).any (·.1)=Gq:=by rfl):PE X (.Call (.Name x p) (e::es) [] pos) (tCB r t):=by
 intro a s d H Q I h;refine Df (V6 I l m o ?_ n b);exact Fz (Yi (i pos a s d H _ I h) λw v⟨y,f,g,u,q⟩=>j a v d f y w Q g u q) k c
theorem Xx(j:V9 X (.type T) r)(l:Gl X x)(m:X.mg x=Ge)(o:bootBuiltins x=Ga (.type T))(i:PA X (e::es) t)(n:x≠"__name__":=by decide)(b:(x==("__debug__":GY))=Gq:=by decide)
  (k:Ti (e::es) X.env=(Gq,eval e X.env)::Ti es X.env:=by rfl)(c:(DX pos (Ti es X.env)).any (·.1)=Gq:=by rfl):PE X (.Call (.Name x p) (e::es) [] pos) (tCB r t):=by
 intro a s d H Q I h;refine Df (V6 I l m o ?_ n b);exact Dq (Yi (i pos a s d H _ I h) λw v⟨y,f,g,u,q⟩=>j a v d f y w Q g u q) k c
end
end L2
namespace HT
open PySem PyProof.Rows
section
variable{prog:Gi}{w:Gu}{A:TL}{E:Value->Gk->Prop}{s:Gk}
def Wr(n d:Nat):Option Int->Nat
 |none=>d
 |some v=>if v<0 then(v+(n:Int)).toNat else min v.toNat n
theorem Iz(n d:Nat):Wr n d Ge=d:=rfl
theorem Jo(n d k:Nat):Wr n d (Ga (k:Int))=min k n:=by show(if(k:Int)<0 then((k:Int)+(n:Int)).toNat else min (k:Int).toNat n)=min k n;rw[Gh (by lia),Dy]
theorem QD(n d:Nat)(b:d<=n)(o:Option Int):Wr n d o<=n:=by
 cases o with
 |none=>exact b
 |some v=>
  show(if v<0 then(v+(n:Int)).toNat else min v.toNat n)<=n;by_cases a:v<0
  .rw[Gn a];lia
  .rw[Gh a];exact FA _ _
theorem vx(v:Int)(n d:Nat):(if v<0 then max (v+(n:Int)) 0 else min v (n:Int))=((Wr n d (Ga v):Nat):Int):=by
 show(if v<0 then max (v+(n:Int)) 0 else min v (n:Int))=(((if v<0 then(v+(n:Int)).toNat else min v.toNat n):Nat):Int);by_cases a:v<0
 .simp only[Gn a];lia
 .simp only[Gh a];lia
theorem KH(b a:Option Int)(n:Nat):Builtin.Slice.sliceAdjust b a 1 (n:Int)=(((Wr n 0 b:Nat):Int),((Wr n n a:Nat):Int)):=by
 have c:¬((1:Int)<0):=by ext
 unfold Builtin.Slice.sliceAdjust;simp only[c,Dm];refine Fh ?_ ?_
 .cases b with
  |none=>rfl
  |some v=>exact vx v n 0
 .cases a with
  |none=>rfl
  |some v=>exact vx v n n
theorem BP(i j:Nat):Builtin.Slice.slicePlaces (i:Int) (j:Int) 1=j - i:=by
 unfold Builtin.Slice.slicePlaces;have a:(1:Int)>0:=by lia
 simp only[a,SD,Nk];split<;>lia
theorem zo{v:Value}{o:Option Int}{Q:Option Int->Gk->Prop}(p:LY v o)(h:Q o s):wpAny (Tb prog w) A (Builtin.Slice.slicePartIndex v) Q E s:=by
 cases p with
 |none=>exact FT h
 |int i t=>exact slicePart_int h
theorem P3{g:Gc}{e f:Value}{a c:Option Int}{n:Nat}{Q:Int×Int×Nat->Gk->Prop}(j:s.heap.IsSliceOf g e f .none)(k:LY e a)(l:LY f c)
  (h:Q (((Wr n 0 a:Nat):Int),1,Wr n n c - Wr n 0 a) s):wpAny (Tb prog w) A (Builtin.Slice.sliceApplied (.ref g) (pure (n:Int))) Q E s:=by
 obtain⟨os,d,i,b⟩:=id j;unfold Builtin.Slice.sliceApplied Builtin.Slice.sliceFields;refine Gb (Gb (TH d b (x:=e) rfl (Gb (TH d b (x:=f) rfl (Gb (TH d b (x:=.none) rfl (Gf ?_)))))));refine Gb (FT ?_);show wpAny _ _ (if((1:Int)==0)=Gg then _ else _) _ _ s;rw[Gh (by decide)];refine Gb (zo k (Gb (zo l (Gb (Gf ?_)))));show wpAny _ _ (match Builtin.Slice.sliceAdjust a c 1 (n:Int)with|(a,c)=>pure (a,(1:Int),Builtin.Slice.slicePlaces a c 1)) _ _ s;rw[KH a c n];show wpAny _ _ (pure (((Wr n 0 a:Nat):Int),(1:Int),Builtin.Slice.slicePlaces ((Wr n 0 a:Nat):Int) ((Wr n n c:Nat):Int) 1)) _ _ s;rw[BP];exact Gf h
theorem Cf(a:Array Value)(i k:Nat):((List.range k).filterMap λ(m:Nat)=>a[((i:Int)+(m:Int)*1).toNat]?).toArray=((a.toList.drop i).take k).toArray:=by
 have e:(λ(m:Nat)=>a[((i:Int)+(m:Int)*1).toNat]?)=λm=>a[i+m]?:=by
  funext m
  have:((i:Int)+(m:Int)*1).toNat=i+m:=by lia
  rw[this]
 rw[e];have:=pick_run a i k;rw[List.filterMap_map]at this;have b:((λx=>a[x]?)∘λx=>i+x)=λm=>a[i+m]?:=rfl;rw[b]at this;rw[this]
theorem AH{t k:Gc}{a:Array Value}{m n:Value}{c d:Option Int}{Q:Value->Gk->Prop}(e:IsTup s.heap t a)(l:s.heap.IsSliceOf k m n .none)(r:LY m c)(u:LY n d)
  (hw:¬(Wr a.size 0 c=0/\Wr a.size a.size d=a.size))
  (h:Q (.ref s.heap.objs.size) {s with heap:=s.heap.push {cls:=.type "tuple",data:=.seq ((a.toList.drop (Wr a.size 0 c)).take (Wr a.size a.size d - Wr a.size 0 c)).toArray}})
  (p:a.size<=Gj):wpAny (Tb prog w) A (getItem (.ref t) (.ref k)) Q E s:=by
 have b:sizeOk (.seq ((a.toList.drop (Wr a.size 0 c)).take (Wr a.size a.size d - Wr a.size 0 c)).toArray):=by show((a.toList.drop (Wr a.size 0 c)).take (Wr a.size a.size d - Wr a.size 0 c)).toArray.size<=Gj;rw[List.size_toArray,List.length_take,List.length_drop,TF];ext
 have v:Wr a.size a.size d<=a.size:=QD _ _ (Gm _) d;obtain⟨os,j,g,o⟩:=id l;have f:s.TypeIs (.ref k) "slice":=⟨os,j,g⟩;unfold getItem;try with_reducible refine T5 ?_
 first|refine Gb (Gf ?_)|skip
 refine Gb (wpAny_sequenceKey e.typeIs (by decide) ?_);refine Gb (TQ (name:=Dz "__getitem__") e.typeIs Eh
  (Tz Eh e.typeIs entry_tuple_getitem ?_ (args_tuple_getitem _ _)))
 show wpAny _ _ (Builtin.Tuple.tupleItemsOf (.ref t)>>=_) _ _ s;refine Gb (tupleItemsOf_ e ?_);refine Gb (Nl f ?_);rw[Gn (by decide)];refine Gb (P3 l r u ?_);have i:¬((((Wr a.size 0 c:Nat):Int)==0&&(1:Int)==1&&(Wr a.size a.size d - Wr a.size 0 c)==a.size)=Gg):=by intro q;rw[Td,Td]at q;have p:((Wr a.size 0 c:Nat):Int)=0:=eq_of_beq q.1.1;have x:Wr a.size a.size d - Wr a.size 0 c=a.size:=eq_of_beq q.2;exact hw {by ext,by ext}
 show wpAny _ _ (if(((Wr a.size 0 c:Nat):Int)==0&&(1:Int)==1&&(Wr a.size a.size d - Wr a.size 0 c)==a.size)=Gg then _ else _) _ _ s;rw[Gh i,Cf];first
  |exact Gb (m:=Builtin.Tuple.tupleExact _) (TB (Gf ⟨_,Xb,Gf h⟩) b)
  |exact Gb (m:=Builtin.Tuple.tupleExact _) (TB (Gb (Gf (Gf ⟨_,Xb,Gf h⟩))) b)
  |exact Gb (Gb (m:=Builtin.Tuple.tupleExact _) (TB (Gf (Gf ⟨_,Xb,Gf h⟩)) b))
  |exact Gb (Gb (m:=Builtin.Tuple.tupleExact _) (TB (Gf ⟨_,Xb,Gf h⟩) b))
end
end HT
namespace L2
open PySem PySem.Spec PyProof.Rows
variable{n t':Nat}{α:Type}{zq:List (Gc×Ek)}{σ:St}{H H':Hp}{s:Gk}{u:Value}{y:V}{P:Gi}{w:Gu}{zw:List (List Xm×V)}{xs:List (List Xm×Gc×Value)}{b a:Gc}{Q:Value->Gk->Prop}{pos:SX}{X:Cx}
abbrev TO:=St->Hp->(Option Int->Hp->Prop)->Prop
def PO(X:Cx)(e:Option TY)(t:TO):Prop:=
 ∀(zq:List (Gc×Ek))(s:Gk)(σ:St)(H:Hp)(Q:Option Int->Hp->Prop),zu X zq σ H s->t σ H Q->
  wpAny (Tb X.prog X.w) X.A (evalPart e X.env) (λu s'=>∃o H',zu X zq σ H' s'/\LY u o/\Q o H') X.xe s
def IP:TO:=λ_ H Q=>Q Ge H
inductive vA(Q:Option Int->Hp->Prop)(x:V)(H1:Hp):Prop
 |mk (i:_) (h0:x=.int i) (h1:Q (Ga i) H1):vA Q x H1
def CC(t:TE):TO:=λσ H Q=>t σ H λx H1=>vA Q x H1
section
variable{X:Cx}{e:TY}{te:TE}{lo hi:Option TY}{tl th:TO}{pos p2:SX}
theorem Xt:PO X Ge IP:=by intro a s b H Q I h;rw[MJ];exact Gf {Ge,H,I,.none,h}
theorem Yu(h:PE X e te):PO X (Ga e) (CC te):=by intro a s g H Q I hw;rw[evalPart_some];refine Yi (h a s g H _ I hw) λu j⟨x,b,c,f,d⟩=>?_;obtain⟨i,rfl,q⟩:=d;obtain⟨t,rfl⟩:=f;exact{Ga i,b,c,.int i t,q}
def qo(X:Cx)(r:V->Option Int->Option Int->Hp->VK->Prop):Prop:=
 ∀(zq:List (Gc×Ek))(s:Gk)(σ:St)(H:Hp)(x:V)(v b c:Value)(lo hi:Option Int)(a:Gc)(Q:VK),zu X zq σ H s->zm x v->s.heap.IsSliceOf a b c .none->LY b lo->LY c hi->r x lo hi H Q->
  ∃T id,typeLookup (.type T) "__getitem__"=pure (Ga (.builtin id))/\s.TypeIs v T/\wpAny (Tb X.prog X.w) X.A (getItem v (.ref a)) (EP X zq σ Q) X.xe s
def tSl(r:V->Option Int->Option Int->Hp->VK->Prop)(te:TE)(tl th:TO):TE:=λσ H Q=>te σ H λx H1=>tl σ H1 λl H2=>th σ H2 λu a=>r x l u a Q
theorem Yo{r:V->Option Int->Option Int->Hp->VK->Prop}(A:qo X r)(w:PE X e te)(z:PO X lo tl)(C:PO X hi th):PE X (.Subscript e (.Slice lo hi Ge p2) pos) (tSl r te tl th):=by intro a s d H Q I h;refine FU (Yi (w a s d H _ I h) λv L⟨x,j,m,K,F⟩=>?_);refine wpAny_Slice (Yi (z a L d j _ m F) λf M⟨l,k,n,D,G⟩=>Yi (C a M d k _ n G) λg c⟨u,i,o,E,J⟩=>?_);rw[MJ];refine Gf ?_;have p:zu X a d i {c with heap:=c.heap.push {cls:=.type "slice",data:=.fields #[f,g,.none]}}:=o.kept (t':=c.toks) λb N q=>Heap.get?_push_of_some _ q;obtain⟨T,id,t,B,y⟩:=A a {c with heap:=c.heap.push {cls:=.type "slice",data:=.fields #[f,g,.none]}} d i x v f g l u c.heap.objs.size Q p K (Heap.IsSliceOf.new ..) D E J;show wpAny (Tb X.prog X.w) X.A (subscriptTail e (.Slice lo hi Ge p2) v (.ref c.heap.objs.size)) (EP X a d Q) X.xe {c with heap:=c.heap.push {cls:=.type "slice",data:=.fields #[f,g,.none]}};exact tail_any (ops:=[.ref c.heap.objs.size,v]) B t y (by with_unfolding_all rfl)
def Ul(xs:List V)(lo hi:Option Int):List V:=(xs.drop (HT.Wr xs.length 0 lo)).take (HT.Wr xs.length xs.length hi - HT.Wr xs.length 0 lo)
theorem yj(a:List V)(c b:Option Int):(Ul a c b).length<=a.length:=by unfold Ul;rw[List.length_take,List.length_drop];ext
inductive ue(K:Gd)(x:V)(lo:Option Int)(hi:Option Int)(H:Hp)(Q:VK):Prop
 |mk (a:_) (xs:_) (h0:x=.ref a) (h1:Zz K H a xs) (h2:¬(HT.Wr xs.length 0 lo=0/\HT.Wr xs.length xs.length hi=xs.length)) (h3:∀p,H p=Ge->Q (.ref p) (zj H p (.tup (Ul xs lo hi)))):ue K x lo hi H Q
def ye(K:Gd):V->Option Int->Option Int->Hp->VK->Prop:=λx lo hi H Q=>ue K x lo hi H Q
theorem U1:qo X (ye X.K):=by
 intro k s z H x v w y e f u Q I p l n o h;obtain⟨a,d,rfl,m,hw,q⟩:=h;cases p;obtain⟨g,r,i,j⟩:=I.tuple m;have c:g.toArray.size=d.length:=by rw[List.size_toArray];exact r.length.symm
 exists "tuple",_,Eh.lookup,i.typeIs;refine HT.AH i l n o (by rw[c];exact hw) ?_ (by rw[c];exact j);rw[c];refine{.ref s.heap.objs.size,_,I.laid (t':=s.toks) (o:=.tup (Ul d e f)) (λb t q=>Heap.get?_push_of_some _ q) (Gm _) ?_,Xb,q _ (I.Zv.fresh (Gm _))};exact{Tw (yj d e f) j,_,(r.drop (HT.Wr d.length 0 e)).take (HT.Wr d.length d.length f - HT.Wr d.length 0 e),Be _ _}
end
def ixN(n:Nat)(i:Int):Option Nat:=if 0<=i then(if i<n then Ga i.toNat else Ge)else if -(n:Int)<=i then Ga (i+n).toNat else Ge
def atI{α:Type}(xs:List α)(i:Int):Option α:=(ixN xs.length i).bind λj=>xs[j]?
theorem BN{i:Int}{j:Nat}(h:ixN n i=Ga j):seqIndex? i n=Ga j/\j<n/\ -(n:Int)<=i/\i<n:=by
 unfold ixN at h;by_cases b:0<=i
 .rw[Gn b]at h;by_cases a:i<n
  .rw[Gn a]at h;have e:i.toNat=j:=To h;exact{by rw[NL b a,e],by lia,by lia,a}
  .rw[Gh a]at h;cases h
 .rw[Gh b]at h;by_cases a: -(n:Int)<=i
  .rw[Gn a]at h;have e:(i+n).toNat=j:=To h;exact{by rw[Nm (by lia) a,e],by lia,a,by lia}
  .rw[Gh a]at h;cases h
theorem px{a:List α}{i:Int}{v:α}(h:atI a i=Ga v):∃j,seqIndex? i a.length=Ga j/\a[j]?=Ga v/\j<a.length/\ -(a.length:Int)<=i/\i<a.length:=by
 unfold atI at h;cases e:ixN a.length i with
 |none=>rw[e]at h;cases h
 |some j=>rw[e]at h;obtain⟨b,c,d,f⟩:=BN e;exact⟨j,b,h,c,d,f⟩
theorem Qz{xs:List α}{j:Nat}{v:α}(h:xs[j]?=Ga v):atI xs (j:Int)=Ga v:=by
 have a:j<xs.length:=(List.getElem?_eq_some_iff.mp h).1;have e:ixN xs.length (j:Int)=Ga j:=by unfold ixN;rw[Gn (by lia),Gn (by lia)];simp
 unfold atI;rw[e];exact h
theorem AJ(a:List α)(v:α):atI (a++[v]) (-1)=Ga v:=by
 have b:(a++[v]).length=a.length+1:=by simp
 have e:ixN (a++[v]).length (-1)=Ga a.length:=by unfold ixN;rw[b,Gh (by decide),Gn (by ext)];congr 1;ext
 unfold atI;rw[e];show(a++[v])[a.length]?=Ga v;simp
def Cz(b:TY):Prop:=∀o i,subscripted b Gq o i=operate [o,i] (getItem o i)
def hH(X:Cx)(r:R2):Prop:=
 ∀(value a:TY)(zq:List (Gc×Ek))(s:Gk)(σ:St)(H:Hp)(x y:V)(v u:Value)(Q:VK),zu X zq σ H s->zm x v->zm y u->r x y H Q->
  subscripted a Gq v u=operate [v,u] (getItem v u)->wpAny (Tb X.prog X.w) X.A (subscriptTail value a v u) (EP X zq σ Q) X.xe s
def ig(X:Cx)(id:String)(r:V->List V->Hp->VK->Prop):Prop:=
 ∀(zq:List (Gc×Ek))(s:Gk)(σ:St)(H:Hp)(x:V)(xs:List V)(v:Value)(a:List Value)(Q:VK),zu X zq σ H s->zm x v->Zt xs a->r x xs H Q->
  wpAny (Tb X.prog X.w) X.A (call (.builtin id) (v::a)) (EP X zq σ Q) X.xe s
section
variable{X:Cx}{a b:TY}{ta tb:TE}{pos:SX}
theorem hH.or{r e:R2}(h:hH X r)(j:hH X e):hH X (λx y H Q=>r x y H Q\/e x y H Q):=by
 intro b a c s i H x y v u Q I f g q d;rcases q with q|q
 .exact h b a c s i H x y v u Q I f g q d
 .exact j b a c s i H x y v u Q I f g q d
theorem Qn{r:R2}(i:hH X r)(f:PE X a ta)(g:PE X b tb)(j:Cz b:=by exactλ_ _=>rfl):PE X (.Subscript a b pos) (tOp r ta tb):=by intro c s n H Q I h;exact FU (oo f g I h λv u m x y d e k l q=>i a b c m n d x y v u Q e k l q (j _ _))
inductive xT(K:Gd)(x:V)(y:V)(H:Hp)(Q:VK):Prop
 |mk (p:_) (xs:_) (i:_) (v:_) (h0:x=.ref p) (h1:y=.int i) (h2:Zb K H p xs) (h3:atI xs i=Ga v) (h4:Q v H):xT K x y H Q
def r9(K:Gd):R2:=λx y H Q=>xT K x y H Q
inductive wz(K:Gd)(x:V)(y:V)(H:Hp)(Q:VK):Prop
 |mk (p:_) (xs:_) (i:_) (v:_) (h0:x=.ref p) (h1:y=.int i) (h2:Zz K H p xs) (h3:atI xs i=Ga v) (h4:Q v H):wz K x y H Q
def l8(K:Gd):R2:=λx y H Q=>wz K x y H Q
inductive ur(x:V)(y:V)(H:Hp)(Q:VK):Prop
 |mk (z:_) (i:_) (c:_) (h0:x=.str z) (h1:y=.int i) (h2:z.length<=Gj) (h3:atI z.cps.toList i=Ga c) (h4:Q (.str ⟨#[c]⟩) H):ur x y H Q
def sI:R2:=λx y H Q=>ur x y H Q
theorem Ze:hH X (r9 X.K):=by
 intro l k a s A H x y v u Q I J K h o;obtain⟨p,P,i,z,rfl,rfl,G,E,q⟩:=h;cases J;obtain⟨t,rfl⟩:=K;obtain⟨e,r,f,O⟩:=I.list G;obtain⟨j,c,B,M,C,D⟩:=px E;obtain⟨w,m,g⟩:=r.get B;have F:=r.length;have N:=Om;have b:EP X a A Q w s:=⟨z,H,I,g,q⟩;by_cases n:0<=i
 .have d:i.toNat=j:=by rw[NL n D]at c;exact To c
  exact item_listR f.isList n (by lia) (by rw[d];simpa using m) b o
 .have d:(i+(e.toArray.size:Int)).toNat=j:=by rw[Nm (by lia) C]at c;rw[List.size_toArray,<-F];exact To c
  exact EM (x:=w) f.isList.typeIs slot_list_getitem.lookup
   (wpAny_getItem_list_neg (Q:=λr L=>r=w/\EP X a A Q r L) f.isList (by lia) (by rw[List.size_toArray]<;>lia) (by lia) (by rw[d];simpa using m) ⟨Xb,b⟩) o
theorem Q3:hH X (l8 X.K):=by
 intro e d a s g H x y v u Q I D E h B;obtain⟨p,N,i,z,rfl,rfl,A,n,q⟩:=h;cases D;obtain⟨t,rfl⟩:=E;obtain⟨C,r,f,M⟩:=I.tuple A;obtain⟨j,l,m,G,J,K⟩:=px n;obtain⟨w,k,c⟩:=r.get m;have o:=r.length;have L:=Om;have b:EP X a g Q w s:=⟨z,H,I,c,q⟩;exact EM (x:=w) f.typeIs slot_tuple_getitem.lookup
  (getItem_tuple (j:=j) (Q:=λr F=>r=w/\EP X a g Q r F) f (by ext) (by ext) (by rw[List.size_toArray,<-o];exact l) (by simpa using k) ⟨Xb,b⟩) B
theorem yh:hH X sI:=by
 intro b a e s E H x y v u Q I r w h p;obtain⟨z,i,c,rfl,rfl,C,n,q⟩:=h;obtain⟨t,rfl⟩:=r;obtain⟨D,rfl⟩:=w;obtain⟨j,d,k,A,l,m⟩:=px n;have o:z.cps.toList.length=z.length:=by simp[Str.length]
 rw[o]at d l m;have B:=Om;exact tail_any (RE s z t) slot_str_getitem.lookup (getItem_str (c:=c) (by have f:decide (i< -(2^63:Int))=Gq:=GQ (by lia);have g:decide (i>=2^63)=Gq:=GQ (by lia);rw[f,g,MK]) (by rw[d];simpa using k) {.str ⟨#[c]⟩,H,I.tok _,{_,Xb},q}) p
def rIx(K:Gd):R2:=λx y H Q=>r9 K x y H Q\/l8 K x y H Q\/sI x y H Q
theorem wB:hH X (rIx X.K):=Ze.or (Q3.or yh)
theorem AZ(b a:Option Int)(n:Nat):(sliceBounds b a Ge n).1=((HT.Wr n 0 b:Nat):Int)/\(sliceBounds b a Ge n).2.1=((HT.Wr n n a:Nat):Int)/\(sliceBounds b a Ge n).2.2=1:=by
 refine{?_,?_,Xb}
 .cases b with
  |none=>simp[sliceBounds,HT.Wr]
  |some i=>
   simp only[sliceBounds,HT.Wr,FC,show(1:Int)>0 by decide,SD];by_cases h:i<0
   .simp only[h,SD]<;>lia
   .simp only[h,Dm]<;>lia
 .cases a with
  |none=>simp[sliceBounds,HT.Wr]
  |some i=>
   simp only[sliceBounds,HT.Wr,FC,show(1:Int)>0 by decide,SD];by_cases h:i<0
   .simp only[h,SD]<;>lia
   .simp only[h,Dm]<;>lia
theorem PB(a:List Value)(b c:Option Int):slicePick a.toArray b c Ge=((a.drop (HT.Wr a.length 0 b)).take (HT.Wr a.length a.length c - HT.Wr a.length 0 b)).toArray:=by obtain⟨d,e,f⟩:=AZ b c a.toArray.size;unfold slicePick;rw[d,e,f];simp only[sliceRange_one,pick_run,List.size_toArray]<;>rfl
inductive y6(K:Gd)(x:V)(lo:Option Int)(hi:Option Int)(H:Hp)(Q:VK):Prop
 |mk (a:_) (xs:_) (h0:x=.ref a) (h1:Zb K H a xs) (h2:∀p,H p=Ge->Q (.ref p) (zj H p (.lst (Ul xs lo hi)))):y6 K x lo hi H Q
def A3(K:Gd):V->Option Int->Option Int->Hp->VK->Prop:=λx lo hi H Q=>y6 K x lo hi H Q
theorem Jv:qo X (A3 X.K):=by intro i s z H x v w y e f u Q I p j n o h;obtain⟨a,c,rfl,k,q⟩:=h;cases p;obtain⟨m,r,g,l⟩:=I.list k;have d:=r.length;exists "list",_,slot_list_getitem.lookup,g.isList.typeIs;refine wpAny_getItem_list_slice g.isList j n o .none (by simp) ?_ (by rw[List.size_toArray]<;>lia);rw[PB,<-d];refine{.ref s.heap.objs.size,_,I.laid (t':=s.toks) (o:=.lst (Ul c e f)) (λb t q=>Heap.get?_push_of_some _ q) (Gm _) ?_,Xb,q _ (I.Zv.fresh (Gm _))};exact{Tw (yj c e f) l,_,0,(r.drop (HT.Wr c.length 0 e)).take (HT.Wr c.length c.length f - HT.Wr c.length 0 e),Heap.get?_push_size _ Xb}
theorem Zg:V9 X (.builtin "len") (λxs H Q=>∃p b,xs=[.ref p]/\(Zb X.K H p b\/Zz X.K H p b)/\Q (.int b.length) H):=by
 intro g s m H xs l Q I r h;obtain⟨p,b,rfl,c,q⟩:=h;obtain⟨u,rfl,j⟩:=vals1 r;cases j;have k:=Om;rcases c with c|c
 .obtain⟨d,f,e,i⟩:=I.list c;have a:=f.length;exact LC e.isList (by simp only[List.size_toArray]<;>lia) {.int b.length,H,I.tok _,{s.toks+1,by rw[List.size_toArray,a]},q}
 .obtain⟨d,f,e,i⟩:=I.tuple c;have a:=f.length;exact len_tuple e (by simp only[List.size_toArray]<;>lia) {.int b.length,H,I.tok _,{s.toks+1,by rw[List.size_toArray,a]},q}
theorem Ju:V9 X (.type "list") (λxs H Q=>∃p g,xs=[.ref p]/\(Zb X.K H p g\/Zz X.K H p g)/\∀l,H l=Ge->Q (.ref l) (zj H l (.lst g))):=by
 intro t s B H xs C Q I r h;obtain⟨p,g,rfl,k,q⟩:=h;obtain⟨u,rfl,A⟩:=vals1 r;cases A;have i:∀(a:List Value),Zt g a->g.length<=Gj->∀(c:Heap)(d:Nat),(∀b z,s.heap.get? b=Ga z->c.get? b=Ga z)->
   c.get? s.heap.objs.size=Ga {cls:=.type "list",dict:=Ge,data:=.seq a.toArray d,slots:=#[]}->EP X t B Q (.ref s.heap.objs.size) {s with heap:=c}:=λa f l c d m e=>
  {.ref s.heap.objs.size,_,I.laid (t':=s.toks) m (Gm _) (show Z1 X.prog X.w _ c _ (.lst g)from⟨l,a,d,f,e⟩),Xb,q _ (I.Zv.fresh (Gm _))}
 rcases k with k|k
 .obtain⟨a,f,y,l⟩:=I.list k;have j:=f.length;obtain⟨o,x,v,n,w⟩:=y.isList;exact ML p (.inl Xb) x v w (λc d m e=>i a f l c d m e) (by simp only[List.size_toArray]<;>ext)
 .obtain⟨a,f,y,l⟩:=I.tuple k;have j:=f.length;obtain⟨o,x,v,n,w⟩:=y;exact ML p (.inr Xb) x v w (λc d m e=>i a f l c d m e) (by simp only[List.size_toArray]<;>ext)
theorem Wh:V9 X (.type "tuple") (λxs H Q=>∃p d,xs=[.ref p]/\((Zb X.K H p d/\∀l,H l=Ge->Q (.ref l) (zj H l (.tup d)))\/(Zz X.K H p d/\Q (.ref p) H))):=by
 intro a s n H xs x Q I r h;obtain⟨p,d,rfl,h⟩:=h;obtain⟨u,rfl,w⟩:=vals1 r;cases w;rcases h with⟨g,q⟩|⟨g,q⟩
 .obtain⟨c,j,i,m⟩:=I.list g;have l:=j.length;refine call_tuple_list i.isList (λf v=>?_) (by simp only[List.size_toArray]<;>ext);have k:zu X a n H {s with heap:=f}:=I.kept (t':=s.toks) v;have t:zu X a n (zj H f.objs.size (.tup d)) {s with heap:=f.push {cls:=.type "tuple",data:=.seq c.toArray}}:=
   k.laid (t':=s.toks) (λb o e=>Heap.get?_push_of_some _ e) (Gm _) (show Z1 X.prog X.w _ _ _ (.tup d)from{m,c,j,Be _ _})
  exact{.ref f.objs.size,_,t,Xb,q _ (k.Zv.fresh (Gm _))}
 .obtain⟨c,j,i,m⟩:=I.tuple g;exact call_tuple_same i {.ref p,H,I,Xb,q}
def tyV(K:Gd)(T:String)(x:V)(H:Hp):Prop:=match x with
 |.str _=>T="str"
 |.int _=>T="int"
 |.ref p=>(T="list"/\∃xs,Zb K H p xs)\/(T="tuple"/\∃o,K.lookup p=Ga o/\o.cls=.type "tuple"/\o.dict=Ge)\/
   (T="dict"/\((∃zw,H p=Ga (.dK zw))\/∃zw,H p=Ga (.dT zw)))\/(T="set"/\∃S n,H p=Ga (.set S n))
 |_=>False
theorem xA{T:String}{x:V}{v:Value}(I:zu X zq σ H s)(r:zm x v)(ty:tyV X.K T x H):
  s.TypeIs v T/\∀a,v=.ref a->∃j,s.heap.get? a=Ga j/\j.dict=Ge:=by
 cases x with
 |str z=>obtain⟨t,rfl⟩:=r;cases(show T="str"from ty);exact{RE s z t,λ_ e=>nomatch e}
 |int i=>obtain⟨t,rfl⟩:=r;cases(show T="int"from ty);exact{typeIs_int s i t,λ_ e=>nomatch e}
 |ref p=>
  cases r;rcases ty with⟨rfl,q,l⟩|⟨rfl,o,b,k,g⟩|⟨rfl,b⟩|⟨rfl,S,n,b⟩
  .obtain⟨m,_,h,_⟩:=I.list l;refine{h.isList.typeIs,λa e=>?_};cases e;obtain⟨o,n,e,c,g,_⟩:=h;exact⟨o,e,g⟩
  .refine{{o,I.Il p o b,k},λa e=>?_};cases e;exact{o,I.Il _ o b,g}
  .have z:∃o,s.heap.get? p=Ga o/\o.ExactDict:=by
    rcases b with⟨h,b⟩|⟨h,b⟩
    .obtain⟨_,_,_,_,o,_,_,e,d,_⟩:=I.Zv p _ b;exact⟨o,e,d⟩
    .obtain⟨_,_,_,_,o,_,_,e,d,_⟩:=I.Zv p _ b;exact⟨o,e,d⟩
   obtain⟨o,e,d⟩:=z;refine{{o,e,d.1},λa f=>?_};cases f;exact{o,e,d.2.1}
  .obtain⟨o,_,_,_,e,d,_⟩:=I.Zv p _ b;refine{{o,e,d.1},λa f=>?_};cases f;exact{o,e,d.2.1}
 |_=>exact False.elim ty
def AE(K:Gd)(T:String)(r:V->List V->Hp->VK->Prop)(to:TE):TE:=λσ H Q=>to σ H λx H1=>tyV K T x H1/\r x [] H1 Q
def tBM(K:Gd)(T:String)(r:V->List V->Hp->VK->Prop)(to:TE)(t:TA):TE:=λσ H Q=>to σ H λx H1=>tyV K T x H1/\t σ H1 λxs H2=>r x xs H2 Q
variable{o e:TY}{es:List TY}{to:TE}{t:TA}{name:GY}{apos cpos:SX}{T id:String}{r:V->List V->Hp->VK->Prop}
theorem jr(n:RF T)(slot:Slot T name id)(d:typeOf (.builtin id)=pure (.type "method_descriptor"))(l:ig X id r)(m:PE X o to)
  (b:attributeBase o name X.env (eval o X.env)=eval o X.env:=by rfl)(c:(apos.endLine==cpos.line)=Gg:=by rfl):PE X (.Call (.Attribute o name apos) [] [] cpos) (AE X.K T r to):=by
 intro a s g H Q I h;refine SR b c (Yi (m a s g H _ I h) λv q⟨x,i,e,f,ty,p⟩=>?_);obtain⟨j,k⟩:=xA e f ty;exact{T,id,n,slot,d,j,k,DY rfl (LF (l a q g i x [] v [] Q e f .nil p))}
theorem Xk(B:RF T)(slot:Slot T name id)(g:typeOf (.builtin id)=pure (.type "method_descriptor"))(y:ig X id r)(z:PE X o to)(w:PA X (e::es) t)
  (c:attributeBase o name X.env (eval o X.env)=eval o X.env:=by rfl)
  (f:((DX cpos (Ti (e::es) X.env)).all (λx=>!x.1)&&(backToKw cpos (keywordEach [] X.env)).all (λx=>x.1.isSome)
   &&decide ((e::es).length+([]:List Fi).length+(if([]:List Fi).isEmpty then 0 else 1)<30))=Gg:=by rfl)
  (d:(apos.endLine==cpos.line)=Gg:=by rfl)(A:Ti (e::es) X.env=(Gq,eval e X.env)::Ti es X.env:=by rfl)(b:(DX cpos (Ti es X.env)).any (·.1)=Gq:=by rfl):
  PE X (.Call (.Attribute o name apos) (e::es) [] cpos) (tBM X.K T r to t):=by
 intro a s i H Q I h;refine Lc c f d rfl (Yi (z a s i H _ I h) λv F⟨x,m,j,l,ty,C⟩=>?_);obtain⟨q,u⟩:=xA j l ty;exists T,id,B,slot,g,q,u;have k:=w cpos a F i m _ j C;rw[A]at k⊢;refine DY (by show(Gq||(DX cpos (Ti es X.env)).any (·.1))=Gq;rw[b]<;>rfl) (E2 ?_);exact Yi k λJ G⟨K,n,p,E,D⟩=>y a G i n x K v J Q p l E D
end
def lX(X:Cx)(id:String)(r:V->List V->Hp->VK->Prop):Prop:=
 ∀(zq:List (Gc×Ek))(s:Gk)(σ:St)(H:Hp)(x:V)(xs:List V)(v:Value)(a:List Value)(Q:VK),zu X zq σ H s->zm x v->Zt xs a->r x xs H Q->
  wpAny (Tb X.prog X.w) X.A (call (.builtin id) (v::a)) (EP X zq σ Q) X.xe s
theorem Zt.one:∀{x:V}{a:List Value},Zt [x] a->∃u,a=[u]/\zm x u:=by intro x a h;cases h with|cons r h=>cases h;exact⟨_,Xb,r⟩
theorem Zt.zero:∀{a:List Value},Zt [] a->a=[]
 |_,.nil=>rfl
theorem Zt.dropLast{b:List V}{a:List Value}(h:Zt b a):Zt b.dropLast a.dropLast:=by
 induction h with
 |nil=>exact .nil
 |cons r t c=>
  cases t with
  |nil=>exact .nil
  |cons q d=>exact .cons r c
theorem IB(l:List α):l.eraseIdx (l.length - 1)=l.dropLast:=by
 induction l with
 |nil=>rfl
 |cons a r c=>
  cases r with
  |nil=>rfl
  |cons b r=>
   have e:(a::b::r).length - 1=((b::r).length - 1)+1:=by have d:(a::b::r).length=r.length+2:=rfl;have f:(b::r).length=r.length+1:=rfl;lia
   rw[e,List.eraseIdx_cons_succ,c];all_goals rfl
section
variable{X:Cx}{zq:List (Gc×Ek)}{σ:St}{H:Hp}{s:Gk}{l b:Gc}{xs ys zs:List V}
theorem zu.jV{a its':List Value}{f:Array Value->Array Value}(I:zu X zq σ H s)(b:H l=Ga (.lst xs))
  (e:s.heap.get? l=Ga {cls:=.type "list",data:=.seq a.toArray n})(d:f a.toArray=its'.toArray)(h:Zt ys its')(i:ys.length<=Gj):
  zu X zq σ (zj H l (.lst ys)) {s with heap:=s.heap.update l (Ez f),toks:=t'}:=by
 have q:=Bf e f;rw[d]at q;refine I.write (x:=l) (e:=l) (by rw[b];exact trivial) (.inl Xb) (λj u c g=>(Heap.get?_update_other s.heap (Ez f) (Gp c)).trans g) {_,q} ?_;exact{i,its',_,h,q}
theorem zu.sk{its:List Value}(I:zu X zq σ H s)(a:Zt ys its)(b:ys.length<=Gj):
  zu X zq σ (zj H s.heap.objs.size (.lst ys)) {s with heap:=s.heap.push {cls:=.type "list",data:=.seq its.toArray},toks:=t'}:=
 I.laid (λ_ _ q=>Heap.get?_push_of_some _ q) (Gm _) {b,its,0,a,Heap.get?_push_size _ Xb}
theorem zu.fresh(I:zu X zq σ H s):H s.heap.objs.size=Ge:=I.Zv.fresh (Gm _)
theorem zu.iC(I:zu X zq σ H s)(b:H l=Ga (.lst xs)):xs.length<=Gj/\∃(a:List Value)(n:Nat),Zt xs a/\xs.length=a.length/\s.heap.get? l=Ga {cls:=.type "list",data:=.seq a.toArray n}:=by obtain⟨z,a,n,r,e⟩:=I.Zv l _ b;exact{z,a,n,r,r.length,e}
theorem CM(h:n<=Gj):Builtin.List.listTooLong n=Gq:=by unfold Builtin.List.listTooLong;exact GQ (by lia)
end
section
variable{X:Cx}
inductive va(x:V)(vs:List V)(H:Hp)(Q:VK):Prop
 |mk (l:_) (xs:_) (y:_) (h0:x=.ref l) (h1:vs=[y]) (h2:H l=Ga (.lst xs)) (h3:xs.length<Gj) (h4:Q .non (zj H l (.lst (xs++[y])))):va x vs H Q
def BD:V->List V->Hp->VK->Prop:=λx a H Q=>va x a H Q
theorem Zr:lX X "list.append" BD:=by intro c s p H x m v k Q I g f h;obtain⟨l,o,y,rfl,rfl,b,j,q⟩:=h;cases g;obtain⟨u,rfl,d⟩:=f.one;obtain⟨z,a,n,r,i,e⟩:=I.iC b;refine Le F.slot_list_append {_,e,Xb} F.entry_list_append (F.args_list_append_2 _ _) (Fj l a.toArray n u (by rw[List.size_toArray];ext)) {e,?_};refine{.non,_,I.jV (its':=a++[u]) b e (by simp) (r.append (.cons d .nil)) ?_,Xb,q};rw[List.length_append,List.length_singleton];ext
inductive tQ(x:V)(vs:List V)(H:Hp)(Q:VK):Prop
 |mk (l:_) (b:_) (xs:_) (zs:_) (h0:x=.ref l) (h1:vs=[.ref b]) (h2:H l=Ga (.lst xs)) (h3:H b=Ga (.lst zs)) (h4:xs.length+zs.length<=Gj) (h5:Q .non (zj H l (.lst (xs++zs)))):tQ x vs H Q
def Hm:V->List V->Hp->VK->Prop:=λx a H Q=>tQ x a H Q
theorem mx:lX X "list.extend" Hm:=by
 intro i s J H x C v B Q I w t h;obtain⟨l,b,D,G,rfl,rfl,g,k,A,q⟩:=h;cases w;obtain⟨u,rfl,p⟩:=t.one;cases p;obtain⟨z,c,n,r,y,e⟩:=I.iC g;obtain⟨E,a,n2,o,m,j⟩:=I.iC k;have f:c.toArray.size+a.toArray.size<=Gj:=by rw[List.size_toArray,List.size_toArray];lia
 have d:¬(!c.toArray.isEmpty&&Builtin.List.listTooLong (c.toArray.size+a.toArray.size))=Gg:=by rw[CM f,Bool.and_false];exact GO
 refine Le F.slot_list_extend {_,e,Xb} F.entry_list_extend (F.args_list_extend_2 _ _)
  (Fk l c.toArray n b a.toArray n2 d (by rw[List.size_toArray];lia) (by lia)) {e,j,?_}
 refine{.non,_,I.jV (its':=c++a) g e (by simp) (r.append o) ?_,Xb,q};rw[List.length_append];lia
inductive wX(x:V)(vs:List V)(H:Hp)(Q:VK):Prop
 |mk (l:_) (xs:_) (y:_) (h0:x=.ref l) (h1:vs=[]) (h2:H l=Ga (.lst xs)) (h3:xs[xs.length - 1]?=Ga y) (h4:Q y (zj H l (.lst xs.dropLast))):wX x vs H Q
def Ph:V->List V->Hp->VK->Prop:=λx a H Q=>wX x a H Q
theorem iX:lX X "list.pop" Ph:=by
 intro f s A H x t v p Q I o m h;obtain⟨l,w,y,rfl,rfl,d,j,q⟩:=h;cases o;have b:=m.zero;subst b;obtain⟨z,a,n,r,g,e⟩:=I.iC d;obtain⟨u,i,k⟩:=r.get j;have c:a.toArray[a.toArray.size - 1]?=Ga u:=by show a.toArray[a.length - 1]?=Ga u;rw[<-T9,<-g];exact i
 refine Le F.slot_list_pop {_,e,Xb} F.entry_list_pop (F.args_list_pop_1 _) (No l a.toArray n u c (by rw[List.size_toArray];ext)) {e,?_};refine{y,_,I.jV (its':=a.dropLast) d e ?_ r.dropLast ?_,k,q}
 .show a.toArray.eraseIdxIfInBounds (a.toArray.size - 1)=a.dropLast.toArray;rw[List.size_toArray,List.eraseIdxIfInBounds_toArray,IB]
 .rw[List.length_dropLast];ext
inductive vP(x:V)(y:V)(H:Hp)(Q:VK):Prop
 |mk (l:_) (b:_) (xs:_) (zs:_) (h0:x=.ref l) (h1:y=.ref b) (h2:H l=Ga (.lst xs)) (h3:H b=Ga (.lst zs)) (h4:xs.length+zs.length<=Gj) (h5:∀p,H p=Ge->Q (.ref p) (zj H p (.lst (xs++zs)))):vP x y H Q
def AD:R2:=λx y H Q=>vP x y H Q
theorem Ue:gi X (binaryOp .Add) AD:=by
 intro d s D H x y v u Q I o p h;obtain⟨l,b,A,C,rfl,rfl,j,i,w,q⟩:=h;cases o;cases p;obtain⟨z,c,n,r,t,e⟩:=I.iC j;obtain⟨B,a,n2,m,k,f⟩:=I.iC i;refine Bg e f ?_ (by rw[List.size_toArray,List.size_toArray];ext);have g:c.toArray++a.toArray=(c++a).toArray:=by simp
 rw[g];exact{.ref _,_,I.sk (t':=s.toks) (r.append m) (by rw[List.length_append];ext),Xb,q _ I.fresh}
end
section
variable{κ:Type}[DecidableEq κ]
def Yt(zw:List (κ×V))(k:κ):Option V:=(zw.find? λa=>decide (a.1=k)).map (·.2)
def Wm(zw:List (κ×V))(k:κ)(v:V):List (κ×V):=
 if(zw.any λa=>decide (a.1=k))=Gg then zw.map (λa=>if a.1=k then(a.1,v)else a)else zw++[(k,v)]
theorem pJ{k:κ}:Yt ([]:List (κ×V)) k=Ge:=rfl
theorem Xw{p:κ×V}{r:List (κ×V)}{k:κ}(e:p.1=k):Yt (p::r) k=Ga p.2:=by simp[Yt,List.find?_cons,e]
theorem Xr{p:κ×V}{r:List (κ×V)}{k:κ}(e:¬p.1=k):Yt (p::r) k=Yt r k:=by simp[Yt,List.find?_cons,e]
theorem Jb(k:κ):∀a:List (κ×V),(a.any λb=>decide (b.1=k))=(Yt a k).isSome
 |[]=>rfl
 |p::r=>by
  rw[List.any_cons];by_cases e:p.1=k
  .simp only[Xw e,Tc e,Bool.true_or,LZ]
  .rw[Xr e,GQ e,Bool.false_or];exact Jb k r
theorem xm(k j:κ)(y:V):∀a:List (κ×V),Yt (a.map λb=>if b.1=k then(b.1,y)else b) j=(Yt a j).map λx=>if j=k then y else x
 |[]=>rfl
 |p::r=>by
  have b:=xm k j y r;rw[List.map_cons];by_cases h:p.1=k
  .rw[Gn h];by_cases e:p.1=j
   .rw[Xw (p:=(p.1,y)) e,Xw e,T3,Gn (e.symm.trans h)]
   .rw[Xr (p:=(p.1,y)) e,Xr e,b]
  .rw[Gh h];by_cases e:p.1=j
   .rw[Xw (p:=p) e,Xw e,T3,Gh (λz=>h (e.trans z))]
   .rw[Xr (p:=p) e,Xr e,b]
theorem nr(k j:κ)(y:V):∀a:List (κ×V),Yt a k=Ge->Yt (a++[(k,y)]) j=if j=k then Ga y else Yt a j
 |[],_=>by
  by_cases e:k=j
  .rw[Gn e.symm];exact Xw (p:=(k,y)) e
  .rw[Gh (λz=>e z.symm)];exact Xr (p:=(k,y)) e
 |p::r,b=>by
  rw[List.cons_append];have c:¬p.1=k:=λz=>by rw[Xw z]at b;cases b
  rw[Xr c]at b;have d:=nr k j y r b;by_cases e:p.1=j
  .rw[Xw e,Xw e,Gh (λz=>c (e.trans z))]
  .rw[Xr e,Xr e,d]
theorem oX(b:List (κ×V))(k j:κ)(y:V):Yt (Wm b k y) j=if j=k then Ga y else Yt b j:=by
 unfold Wm;by_cases a:(b.any λc=>decide (c.1=k))=Gg
 .rw[Gn a,xm];rw[Jb]at a;by_cases e:j=k
  .obtain⟨x,c⟩:=SJ.mp a;rw[Gn e,e,c,T3,Gn rfl]
  .rw[Gh e];cases Yt b j with
   |none=>rfl
   |some x=>rw[T3,Gh e]
 .rw[Gh a];refine nr k j y b ?_;rw[Jb]at a;cases q:Yt b k with
  |none=>rfl
  |some x=>rw[q]at a;exact(a Xb).elim
theorem X8(a:List (κ×V))(k:κ)(v:V):(Wm a k v).length<=a.length+1:=by
 unfold Wm;split
 .rw[List.length_map];ext
 .rw[List.length_append,List.length_cons,List.length_nil];ext
theorem A2{a:List (κ×V)}{k:κ}(v:V)(h:Yt a k=Ge):Wm a k v=a++[(k,v)]:=by unfold Wm;rw[Jb,h];exact Gh (by decide)
theorem J2.Wo{o:Option V}{u:Option Value}(r:J2 o u):o.isSome=u.isSome:=by
 cases o with
 |none=>cases u with
  |none=>rfl
  |some _=>exact(show False from r).elim
 |some _=>cases u with
  |none=>exact(show False from r).elim
  |some _=>rfl
theorem J2.getD{o:Option V}{u:Option Value}{d:V}{a:Value}(r:J2 o u)(b:zm d a):zm (o.getD d) (u.getD a):=by
 cases o with
 |none=>cases u with
  |none=>exact b
  |some _=>exact(show False from r).elim
 |some _=>cases u with
  |none=>exact(show False from r).elim
  |some _=>exact r
theorem KV.val{a:List (κ×V)}{g:List (κ×Value)}(r:KV a g)(k:κ):J2 (Yt a k) (valueAt g k):=by
 unfold KV at r;induction r with
 |nil=>exact Tu
 |@cons p q l d h t j=>
  obtain⟨f,i⟩:=h;by_cases e:p.1=k
  .have c:q.1=k:=f.symm.trans e;have b:valueAt (q::d) k=Ga q.2:=by simp[valueAt,List.find?_cons,c]
   rw[Xw e,b];exact i
  .have c:¬q.1=k:=λz=>e (f.trans z);have b:valueAt (q::d) k=valueAt d k:=by simp[valueAt,List.find?_cons,c]
   rw[Xr e,b];exact j
theorem KV.any{a:List (κ×V)}{c:List (κ×Value)}(r:KV a c)(k:κ):(a.any λb=>decide (b.1=k))=c.any λb=>decide (b.1=k):=by
 unfold KV at r;induction r with
 |nil=>rfl
 |cons h t d=>rw[List.any_cons,List.any_cons,d,h.1]
theorem KV.oy{b:List (κ×V)}{d:List (κ×Value)}(r:KV b d)(k:κ)(i:zm y u):
  KV (b.map λa=>if a.1=k then(a.1,y)else a) (d.map λa=>if a.1=k then(a.1,u)else a):=by
 unfold KV at r⊢;induction r with
 |nil=>exact .nil
 |@cons p q j l h t g=>
  rw[List.map_cons,List.map_cons];refine .cons ?_ g;obtain⟨c,f⟩:=h;by_cases e:p.1=k
  .rw[Gn e,Gn (c.symm.trans e)];exact⟨c,i⟩
  .rw[Gh e,Gh (λz=>e (c.trans z))];exact⟨c,f⟩
theorem KV.put{a:List (κ×V)}{b:List (κ×Value)}(r:KV a b)(k:κ)(c:zm y u):KV (Wm a k y) (stored b k u):=by
 unfold Wm stored;rw[r.any k];by_cases e:(b.any λd=>decide (d.1=k))=Gg
 .rw[Gn e,Gn e];exact r.oy k c
 .rw[Gh e,Gh e];exact DN r ⟨Xb,c⟩
theorem KV.length{a:List (κ×V)}{b:List (κ×Value)}(r:KV a b):a.length=b.length:=Gr r
end
theorem iJ{k:Xm}(r:zm (kV k) u):(Ya P w).is k u=Gg:=by
 cases k with
 |inl i=>obtain⟨t,e⟩:=(show∃t,u=Value.int i t from r);subst e;exact PK P w i t
 |inr x=>obtain⟨t,e⟩:=(show∃t,u=Value.str x t from r);subst e;exact CZ P w x t
theorem uD{P:Gi}{w:Gu}:∀{a:List Xm}{b:List Value},Zt (a.map kV) b->ItemsAre (Ya P w) a b
 |[],_,r=>by rw[List.map_nil]at r;cases r;exact .nil
 |k::a,_,r=>by
  rw[List.map_cons]at r;cases r with
  |cons h t=>exact .cons (iJ h) (uD t)
abbrev KT(H:Hp):List (List Xm×V)->List (List Xm×Gc×Value)->Prop:=Paired λp q=>p.1=q.1/\H q.2.1=Ga (.tup (p.1.map kV))/\zm p.2 q.2.2
theorem KT.val(r:KT H zw xs)(k:List Xm):J2 (Yt zw k) ((atKey xs k).map (·.2)):=by
 induction r with
 |nil=>exact Tu
 |@cons p q i c h t g=>
  obtain⟨d,_,f⟩:=h;by_cases e:p.1=k
  .have a:q.1=k:=d.symm.trans e;have b:atKey (q::c) k=Ga q.2:=by simp[atKey,List.find?_cons,a]
   rw[Xw e,b];exact f
  .have a:¬q.1=k:=λz=>e (d.trans z);have b:atKey (q::c) k=atKey c k:=by simp[atKey,List.find?_cons,a]
   rw[Xr e,b];exact g
theorem KT.oy(r:KT H zw xs)(k:List Xm)(f:zm y u):
  KT H (zw.map λa=>if a.1=k then(a.1,y)else a) (xs.map (putAt k u)):=by
 induction r with
 |nil=>exact .nil
 |@cons p q g i h t d=>
  rw[List.map_cons,List.map_cons];refine .cons ?_ d;obtain⟨a,b,c⟩:=h;unfold putAt;by_cases e:p.1=k
  .rw[Gn e,Gn (a.symm.trans e)];exact⟨a,b,f⟩
  .rw[Gh e,Gh (λz=>e (a.trans z))];exact⟨a,b,c⟩
theorem KT.put(r:KT H zw xs)(k:List Xm)(c:H b=Ga (.tup (k.map kV)))(a:zm y u):
  KT H (Wm zw k y) (storedH xs k b u):=by
 have e:(zw.any λd=>decide (d.1=k))=(atKey xs k).isSome:=by rw[Jb,(r.val k).Wo,Ea]
 unfold Wm storedH;rw[e];by_cases q:(atKey xs k).isSome=Gg
 .rw[Gn q,Gn q];exact r.oy k a
 .rw[Gh q,Gh q];exact DN r ⟨Xb,c,a⟩
theorem KT.keeps(r:KT H zw xs)(c:∀b a,H b=Ga (.tup a)->H' b=Ga (.tup a)):KT H' zw xs:=
 Paired.Yb r λ_ _ z=>{z.1,c _ _ z.2.1,z.2.2}
section
variable{P:Gi}{w:Gu}{H:Hp}{h:Heap}{a:Gc}
theorem yf{u:HO}(ok:Ru P w H h)(e:Rd H a u):Z1 P w H h a u:=e.ok ok
theorem iE{b:List (Xm×V)}(ok:Ru P w H h)(e:Rd H a (.dK b)):b.length<=Gj/\(a==T8)=Gq/\∃c,KV b c/\h.DictOf (Ya P w) a c:=
 show Z1 P w H h a (.dK b)from yf ok e
theorem jE{b:List (Xm×V)}(ok:Ru P w H h)(e:H a=Ga (.dK b)):b.length<=Gj/\(a==T8)=Gq/\∃c,KV b c/\h.DictOf (Ya P w) a c:=iE ok (.inl e)
theorem Of{c:List Xm}(ok:Ru P w H h)(e:H a=Ga (.tup (c.map kV))):(tupleKind (Ya P w)).is h c a:=by obtain⟨_,b,r,o,d,f,n,g⟩:=(show Z1 P w H h a (.tup (c.map kV))from ok a _ e);exact{o,b.toArray,n,d,f,g,by simpa using uD r}
theorem iQ(ok:Ru P w H h)(e:Rd H a (.dT zw)):zw.length<=Gj/\(a==T8)=Gq/\
  ∃c,KT H zw c/\h.DictOfH (tupleKind (Ya P w)) a c:=by
 obtain⟨z,y,c,r,o,g,f,i,j,k,n,s⟩:=(show Z1 P w H h a (.dT zw)from yf ok e);refine{z,y,c,r,o,g,f,i,j,k,n,λx b=>?_,s};have all:∀{l:List (List Xm×V)}{m:List (List Xm×Gc×Value)},KT H l m->∀x∈m,(tupleKind (Ya P w)).is h x.1 x.2.1:=by
  intro l m q;induction q with
  |nil=>intro x b;exact nomatch b
  |@cons p q v A d t u=>
   intro x b;rcases List.mem_cons.mp b with e|b
   .subst e;exact Of ok (by rw[<-d.1];exact d.2.1)
   .exact u x b
 exact all r x b
theorem wx(ok:Ru P w H h)(e:H a=Ga (.dT zw)):zw.length<=Gj/\(a==T8)=Gq/\
  ∃b,KT H zw b/\h.DictOfH (tupleKind (Ya P w)) a b:=iQ ok (.inl e)
end
def Wn(H:Hp)(a:Gc)(y:V)(r:Option V):Prop:=
 (∃zw k,Rd H a (.dK zw)/\y=kV k/\r=Yt zw k)\/∃zw k b,Rd H a (.dT zw)/\y=.ref b/\H b=Ga (.tup (k.map kV))/\r=Yt zw k
def Rp(H:Hp)(a:Gc)(y v:V)(H':Hp):Prop:=
 (∃zw k,H a=Ga (.dK zw)/\y=kV k/\zw.length<Gj/\H'=zj H a (.dK (Wm zw k v)))\/
 ∃zw k b,H a=Ga (.dT zw)/\y=.ref b/\H b=Ga (.tup (k.map kV))/\zw.length<Gj/\H'=zj H a (.dT (Wm zw k v))
theorem Wn.k{H:Hp}{a:Gc}{b:List (Xm×V)}{k:Xm}(e:H a=Ga (.dK b)):Wn H a (kV k) (Yt b k):=.inl {b,k,.inl e,Xb,Xb}
theorem Wn.t{k:List Xm}(e:H a=Ga (.dT zw))(c:H b=Ga (.tup (k.map kV))):Wn H a (.ref b) (Yt zw k):=.inr {zw,k,b,.inl e,Xb,c,Xb}
theorem Rp.k{H:Hp}{a:Gc}{b:List (Xm×V)}{k:Xm}{v:V}(e:H a=Ga (.dK b))(c:b.length<Gj):Rp H a (kV k) v (zj H a (.dK (Wm b k v))):=.inl ⟨b,k,e,Xb,c,Xb⟩
theorem Rp.t{k:List Xm}{v:V}(e:H a=Ga (.dT zw))(c:H b=Ga (.tup (k.map kV)))(d:zw.length<Gj):
  Rp H a (.ref b) v (zj H a (.dT (Wm zw k v))):=.inr ⟨zw,k,b,e,Xb,c,d,Xb⟩
section
variable{X:Cx}{zq:List (Gc×Ek)}{σ:St}{H:Hp}{s:Gk}{a:Gc}{y v:V}{u r:Value}{o:Option V}{A:TL}{E:Value->Gk->Prop}
theorem zu.big(I:zu X zq σ H s):T8<s.heap.objs.size:=by have h:T6<s.heap.objs.size:=(I.mod.glob.keeps I.bk).lt;exact Np (by decide) h
theorem B8(t:A.units+1<DM)(I:zu X zq σ H s)(g:Wn H a y (Ga v))(n:zm y u)(h:∀f m,zu X zq σ H m->zm v f->Q f m):
  wpAny (Tb X.prog X.w) A (getItem (.ref a) u) Q E s:=by
 rcases g with⟨m,k,e,j,l⟩|⟨m,k,b,e,j,o,l⟩
 .subst j;obtain⟨z,q,m,c,i⟩:=iE I.Zv e;obtain⟨f,hw,d⟩:=J2.some_of (v:=v) (o:=valueAt m k) (by rw[l];exact c.val k);exact wpAny_getItem_of (iJ n) i.mapOf hw (h f _ (I.tok _) d)
 .subst j;cases(show u=Value.ref b from n);obtain⟨z,q,w,c,i⟩:=iQ I.Zv e;obtain⟨f,hw,d⟩:=J2.some_of (v:=v) (o:=(atKey w k).map (·.2)) (by rw[l];exact c.val k);obtain⟨p,r,m⟩:=EN.mp hw;refine L1 (DZ t) (Of I.Zv o) i r ?_;rw[m];exact h f _ (I.tok _) d
theorem Ka(p:A.units+1<DM)(I:zu X zq σ H s)(g:Wn H a y o)(m:zm y u)(h:∀j,zu X zq σ H j->Q (.bool o.isSome) j):
  wpAny (Tb X.prog X.w) A (Dl .In u (.ref a)) Q E s:=by
 rcases g with⟨j,k,e,f,l⟩|⟨j,k,b,e,f,n,l⟩
 .subst f;obtain⟨z,i,j,c,d⟩:=iE I.Zv e;refine wpAny_in_of (iJ m) i d.mapOf ?_;rw[<-(c.val k).Wo,<-l];exact h _ (I.tok _)
 .subst f;cases(show u=Value.ref b from m);obtain⟨z,i,j,c,d⟩:=iQ I.Zv e;refine MM (DZ p) (Of I.Zv n) i d ?_;have q:=(c.val k).Wo;rw[Ea]at q;rw[<-q,<-l];exact h _ (I.tok _)
theorem UD(p:A.units+1<DM)(I:zu X zq σ H s)(g:Wn H a y o)(m:zm y u)(h:∀j,zu X zq σ H j->Q (.bool (!o.isSome)) j):
  wpAny (Tb X.prog X.w) A (Dl .NotIn u (.ref a)) Q E s:=by
 rcases g with⟨j,k,e,f,l⟩|⟨j,k,b,e,f,n,l⟩
 .subst f;obtain⟨z,i,j,c,d⟩:=iE I.Zv e;refine wpAny_notIn_of (iJ m) i d.mapOf ?_;rw[<-(c.val k).Wo,<-l];exact h _ (I.tok _)
 .subst f;cases(show u=Value.ref b from m);obtain⟨z,i,j,c,d⟩:=iQ I.Zv e;refine FD (DZ p) (Of I.Zv n) i d ?_;have q:=(c.val k).Wo;rw[Ea]at q;rw[<-q,<-l];exact h _ (I.tok _)
theorem Jr{c:Heap}{ob:HO}(I:zu X zq σ H s)(h:jA (H a))(g:Heap.SameBut a s.heap c)(f:∃q,c.get? a=Ga q)(d:Z1 X.prog X.w (zj H a ob) c a ob):
  zu X zq σ (zj H a ob) {s with heap:=c,toks:=t'}:=
 I.write (x:=a) (e:=a) h (.inl Xb) (λb q e z=>(g.2 b e).trans z) f d
theorem pX{e:Heap}{b:List (Xm×V)}{d:List (Xm×Value)}(z:b.length<=Gj)(g:(a==T8)=Gq)(c:KV b d)(f:e.DictOf (Ya P w) a d):
  Z1 P w H' e a (.dK b):=⟨z,g,d,c,f⟩
theorem JE{Q:Unit->Gk->Prop}(O:A.units+1<DM)(I:zu X zq σ H s)(g:Rp H a y v H')(F:zm y u)(D:zm v r)(h:∀l,zu X zq σ H' l->Q () l):
  wpAny (Tb X.prog X.w) A (setItem (.ref a) u r) Q E s:=by
 rcases g with⟨d,k,e,o,l,n⟩|⟨d,k,b,e,o,B,l,n⟩
 .subst o n;obtain⟨z,p,G,f,m⟩:=jE I.Zv e;have x:G.length<=Gj:=by rw[<-f.length];exact z
  have t:(Wm d k v).length<=Gj:=by have:=X8 d k v;ext
  refine wpAny_setItem_pairs (hsz:=x) (iJ F) m λC i w=>h _ ?_;have l:∃q,C.get? a=Ga q:=let⟨q,_,_,j,_⟩:=i;⟨q,j⟩;exact Jr I (by rw[e];exact Tu) w l (pX t p (f.put k D) i)
 .subst o n;cases(show u=Value.ref b from F);obtain⟨z,p,P,f,m⟩:=wx I.Zv e;have x:P.length<=Gj:=by rw[<-Gr f];exact z
  have t:(Wm d k v).length<=Gj:=by have:=X8 d k v;ext
  refine L3 (hsz:=x) (DZ O) (Of I.Zv B) m λC i w=>h _ ?_;obtain⟨q,J,G,j,K,L,M,_,N⟩:=i;refine Jr I (by rw[e];exact Tu) w ⟨q,j⟩ {t,p,_,(f.put k B D).keeps λc R l=>?_,q,J,G,j,K,L,M,N};rw[Qg (Zi l e nofun)];exact l
end
section
variable{X:Cx}{zq:List (Gc×Ek)}{σ:St}{H:Hp}{s:Gk}{a:Gc}{zw:List (Xm×V)}{k:Xm}{u:Value}{A:TL}{E:Value->Gk->Prop}
theorem JA(I:zu X zq σ H s)(e:Rd H a (.dK zw))(h:∀t b,zu X zq σ H b->Q (.int zw.length t) b):wpAny (Tb X.prog X.w) A (call (.builtin "len") [.ref a]) Q E s:=by obtain⟨z,d,f,b,c⟩:=iE I.Zv e;refine call_len_dict d c (by rw[<-b.length];rw[Gz]at z;lia) ?_;rw[<-b.length];exact h _ _ (I.tok _)
end
def sF(i:TY):Prop:=∀ov a,subscripted i Gq ov a=operate [ov,a] (getItem ov a)
theorem JH{a:Gi}{A:TL}{E:Value->Gk->Prop}{j:L9}{c b:TY}{T id:String}
  (n:typeLookup (.type T) "__getitem__"=pure (Ga (.builtin id)))(p:sF b)
  (h:wpAny (Tb a w) A (eval c j) (λo f=>wpAny (Tb a w) A (eval b j) (λi d=>d.TypeIs o T/\wpAny (Tb a w) A (getItem o i) Q E d) E f) E s):
  wpAny (Tb a w) A (eval (.Subscript c b pos) j) Q E s:=by
 refine FU (DI h (λo f l=>DI l (λi d e=>?_) λ_ _ x=>x) λ_ _ x=>x);obtain⟨m,e⟩:=e;unfold subscriptTail;refine Gb ?_;rw[getitemInPython_of_ne m.not_modules];refine Gb (DV m n ?_);have k:wpAny (Tb a w) A (subscripted b Gq o i) (λr g=>wpAny (Tb a w) A (letTemporaryGo c o r>>=λ_=>pure r) Q E g) E d:=by rw[p o i];exact wpAny_operating (DI e (λr g l=>Gb (wpAny_letTemporaryGo (Gf l))) λ_ _ x=>x)
 first
  |exact Gf (Gb k)
  |exact Gb (Gf (Gb k))
  |exact Gb k
theorem BX{o:Option V}(I:zu X zq σ H s)(g:Wn H a y o):s.TypeIs (.ref a) "dict":=by
 rcases g with⟨d,k,e,_,_⟩|⟨d,k,b,e,_,_,_⟩
 .obtain⟨_,_,f,_,c⟩:=iE I.Zv e;exact c.typeIs
 .obtain⟨_,_,f,_,c⟩:=iQ I.Zv e;exact c.typeIs
inductive wo(Q:VK)(x:V)(y:V)(H2:Hp):Prop
 |mk (a:_) (v:_) (h0:x=.ref a) (h1:Wn H2 a y (Ga v)) (h2:Q v H2):wo Q x y H2
def jQ(td ty:TE):TE:=λσ H Q=>td σ H λx H1=>ty σ H1 λy H2=>wo Q x y H2
inductive zA(Q:VK)(y:V)(x:V)(H2:Hp):Prop
 |mk (a:_) (o:_) (h0:x=.ref a) (h1:Wn H2 a y o) (h2:Q (.bl o.isSome) H2):zA Q y x H2
def BR(ty td:TE):TE:=λσ H Q=>ty σ H λy H1=>td σ H1 λx H2=>zA Q y x H2
inductive xO(Q:VK)(y:V)(x:V)(H2:Hp):Prop
 |mk (a:_) (o:_) (h0:x=.ref a) (h1:Wn H2 a y o) (h2:Q (.bl (!o.isSome)) H2):xO Q y x H2
def HI(ty td:TE):TE:=λσ H Q=>ty σ H λy H1=>td σ H1 λx H2=>xO Q y x H2
inductive qV(D:Ends)(σ:St)(v:V)(x:V)(y:V)(H3:Hp):Prop
 |mk (a:_) (H4:_) (h0:x=.ref a) (h1:Rp H3 a y v H4) (h2:D.nx σ H4):qV D σ v x y H3
def xK(td ty tv:TE):TS:=λD σ H=>tv σ H λv H1=>td σ H1 λx H2=>ty σ H2 λy a=>qV D σ v x y a
section
variable{X:Cx}{o i e value:TY}{pos pos' tpos:SX}{td ty tv:TE}
theorem Zw(r:X.A.units+1<DM)(p:PE X o td)(n:PE X i ty)(q:sF i):PE X (.Subscript o i pos) (jQ td ty):=by intro b s e H Q I h;refine JH Sw.lookup q (Yi (p b s e H _ I h) λu B⟨x,f,k,z,t⟩=>Yi (n b B e f _ k t) λC D⟨y,j,d,A,a,v,m,g,w⟩=>?_);subst m;obtain rfl:u=Value.ref a:=z;exact{BX d g,B8 r d g A λF E l c=>⟨v,j,l,c,w⟩}
theorem oi(p:X.A.units+1<DM)(m:PE X i ty)(n:PE X o td):PC X .In i o (BR ty td):=by intro b s c H Q I h;refine Yi (m b s c H _ I h) λz w⟨y,d,f,v,q⟩=>Yi (n b w c d _ f q) λu A⟨x,e,j,t,a,ov,l,g,r⟩=>?_;subst l;obtain rfl:u=Value.ref a:=t;exact Ka p j g v λB k=>{.bl ov.isSome,e,k,Xb,r}
theorem Ct(p:X.A.units+1<DM)(m:PE X i ty)(n:PE X o td):PC X .NotIn i o (HI ty td):=by intro b s c H Q I h;refine Yi (m b s c H _ I h) λz w⟨y,d,f,v,q⟩=>Yi (n b w c d _ f q) λu A⟨x,e,j,t,a,ov,l,g,r⟩=>?_;subst l;obtain rfl:u=Value.ref a:=t;exact UD p j g v λB k=>{.bl (!ov.isSome),e,k,Xb,r}
theorem Wt(w:X.A.units+1<DM)(q:PE X o td)(p:PE X i ty)(z:PE X value tv)(t:swapsWith value (Ga (.Subscript o i pos')) pos.line X.env=pure Gq):
  PS X (.Assign [.Subscript o i pos'] value pos) (xK td ty tv):=by
 intro b s c H D I h;refine wpAny_Assign_Subscript (Yi (z b s c H _ I h) λr J⟨v,d,j,E,A⟩=>Yi (q b J c d _ j A) λu K⟨x,e,k,F,B⟩=>Yi (p b K c e _ k B) λM N⟨y,L,l,G,a,f,n,g,C⟩=>?_) t;subst n;obtain rfl:u=Value.ref a:=F;exact JE w l g G E λs4 m=>⟨c,f,m,C⟩
end
theorem zC(h:Heap)(a:T8<h.objs.size):Z1 P w H (h.push {cls:=.type "dict",data:=.dict #[]}) h.objs.size (.dK []):=
 {Gw _,DB.mpr (Gp (Tg a)),[],.nil,Heap.DictOf.new h}
theorem UE(h:Heap)(a:T8<h.objs.size):Z1 P w H (h.push {cls:=.type "dict",data:=.dict #[]}) h.objs.size (.dT []):=
 {Gw _,DB.mpr (Gp (Tg a)),[],.nil,_,#[],0,Heap.get?_push_size _ Xb,⟨Xb,Xb,Xb⟩,Xb,Xb,List.nodup_nil}
def Ck:TE:=λ_ H Q=>∀p,H p=Ge->Q (.ref p) (zj H p (.dK []))
def Kn:TE:=λ_ H Q=>∀p,H p=Ge->Q (.ref p) (zj H p (.dT []))
section
variable{X:Cx}{pos:SX}
theorem U6:PE X (.Dict [] [] pos) Ck:=λa s b H Q I h=>SS {.ref s.heap.objs.size,_,I.laid (a:=s.heap.objs.size) (o:=.dK []) (t':=s.toks) (λ_ _ q=>Heap.get?_push_of_some _ q) (Gm _) (zC s.heap I.big),Xb,h _ (I.Zv.fresh (Gm _))}
theorem ma:PE X (.Dict [] [] pos) Kn:=λa s b H Q I h=>SS {.ref s.heap.objs.size,_,I.laid (a:=s.heap.objs.size) (o:=.dT []) (t':=s.toks) (λ_ _ q=>Heap.get?_push_of_some _ q) (Gm _) (UE s.heap I.big),Xb,h _ (I.Zv.fresh (Gm _))}
end
def qc:List (TE×TE)->St->Hp->(List (V×V)->Hp->Prop)->Prop
 |[],_,H,Q=>Q [] H
 |(b,tv)::r,σ,H,Q=>b σ H λx H1=>tv σ H1 λy H2=>qc r σ H2 λps a=>Q ((x,y)::ps) a
abbrev VV:List (V×V)->List (Value×Value)->Prop:=Paired λp q=>zm p.1 q.1/\zm p.2 q.2
def kO(X:Cx)(pos:SX)(b:List (Option TY))(a:List TY)(c:List (TE×TE)):Prop:=
 ∀(zq:List (Gc×Ek))(s:Gk)(σ:St)(H:Hp)(Q:List (V×V)->Hp->Prop),zu X zq σ H s->qc c σ H Q->
  wpAny (Tb X.prog X.w) X.A (evalPairs (pairTrees b a X.env pos)) (λd s'=>∃ps H',zu X zq σ H' s'/\VV ps d/\Q ps H') X.xe s
theorem OC:kO X pos [] [] []:=λa s b H Q I h=>pairTrees_nil_walk {[],H,I,.nil,h}
theorem Ji{k v:TY}{e:List (Option TY)}{i:List TY}{f g:TE}{b:List (TE×TE)}(q:PE X k f)(t:PE X v g)(r:kO X pos e i b):
  kO X pos (Ga k::e) (v::i) ((f,g)::b):=λa s d H Q I h=>
 pairTrees_cons_walk (Yi (q a s d H _ I h) λu E⟨x,j,n,C,z⟩=>Yi (t a E d j _ n z) λJ F⟨y,l,o,D,A⟩=>Yi (r a F d l _ o A) λK G⟨w,m,p,c,B⟩=>{(x,y)::w,m,p,.cons ⟨C,D⟩ c,B})
def jq(zw a:List (Xm×V)):List (Xm×V):=a.foldl (λb c=>Wm b c.1 c.2) zw
theorem KV.merge:∀{b:List (Xm×V)}{d:List (Xm×Value)}{a:List (Xm×V)}{c:List (Xm×Value)},KV b d->KV a c->KV (jq a b) (merged c d):=by
 intro b d a c r;unfold KV at r;induction r generalizing a c with
 |nil=>intro q;exact q
 |@cons p q i j h t f=>
  intro g;have e:KV (Wm a p.1 p.2) (stored c q.1 q.2):=by have:=g.put p.1 h.2;rw[<-h.1];exact this
  exact f e
theorem Ry:∀(b a:List (Xm×V)),(jq a b).length<=a.length+b.length
 |[],a=>by show a.length<=a.length+0;ext
 |p::r,a=>by have c:=Ry r (Wm a p.1 p.2);have d:=X8 a p.1 p.2;show(jq (Wm a p.1 p.2) r).length<=_;rw[List.length_cons];ext
theorem qK{P:Gi}{w:Gu}:∀{d:List (Xm×V)}{f:List (Value×Value)},VV (d.map λb=>(kV b.1,b.2)) f->∃e,Carries (Ya P w) f e/\KV d e
 |[],_,r=>by rw[List.map_nil]at r;cases r;exact{[],Tu,.nil}
 |p::d,_,r=>by
  rw[List.map_cons]at r;cases r with
  |@cons a b i k h t=>obtain⟨e,c,q⟩:=qK (P:=P) (w:=w) t;obtain⟨j,g⟩:=b;exact{(p.1,g)::e,{iJ h.1,Xb,c},.cons {Xb,h.2} q}
def SZ(a:List (TE×TE)):TE:=λσ H Q=>∀p,H p=Ge->qc a σ (zj H p (.dK [])) λps H2=>H2 p=Ga (.dK [])/\∃zw:List (Xm×V),ps=zw.map (λb=>(kV b.1,b.2))/\zw.length<=15/\Q (.ref p) (zj H2 p (.dK (jq [] zw)))
theorem II{a:List (Option TY)}{b:List TY}{trs:List (TE×TE)}(h:kO X pos a b trs)(f:a.all (·.isSome)=Gg)(v:a.length=b.length)(p:a≠[])
  (j:a.length<=15):PE X (.Dict a b pos) (SZ trs):=by
 intro i s F H Q I q;have w:=I.Zv.fresh (Gm s.heap.objs.size);have m:=I.laid (a:=s.heap.objs.size) (o:=.dK []) (h':=s.heap.push {cls:=.type "dict",data:=.dict #[]}) (t':=s.toks) (λ_ _ q=>Heap.get?_push_of_some _ q) (Gm _) (zC s.heap I.big);refine wpAny_Dict_walk (knd:=Ya X.prog X.w) f v p j (Yi (h i _ F _ _ m (q _ w)) λM L⟨K,G,l,k,e,g,o,J,A⟩=>?_);subst o;obtain⟨D,c,C⟩:=qK (P:=X.prog) (w:=X.w) k;obtain⟨z,t,E,B,n⟩:=jE l.Zv e;cases B;refine{D,c,n,λh' d x=>{.ref s.heap.objs.size,_,?_,Xb,A}};have y:(jq [] g).length<=Gj:=by have r:=Ry g [];rw[List.length_nil]at r;rw[Gz];ext
 have u:∃q,h'.get? s.heap.objs.size=Ga q:=let⟨q,_,_,hq,_⟩:=d;⟨q,hq⟩;exact Jr l (by rw[e];exact Tu) x u (pX y t (C.merge .nil) d)
structure M2(X:Cx)(o:TY)(m:GY)(apos:SX)(e f:TY)(cpos:SX):Prop where
 base:attributeBase o m X.env (eval o X.env)=eval o X.env
 few:((DX cpos (Ti [e,f] X.env)).all (λx=>!x.1)&&(backToKw cpos (keywordEach [] X.env)).all (λx=>x.1.isSome)
  &&decide (([e,f]:List TY).length+([]:List Fi).length+(if([]:List Fi).isEmpty then 0 else 1)<30))=Gg
 line:(apos.endLine==cpos.line)=Gg
 trees:DX cpos (Ti [e,f] X.env)=[(Gq,eval e X.env),(Gq,eval f X.env)]
def xC(H:Hp)(a:Gc):Prop:=(∃zw,Rd H a (.dK zw))\/∃zw,Rd H a (.dT zw)
theorem KR(I:zu X zq σ H s)(d:xC H a):
  s.TypeIs (.ref a) "dict"/\(∀b,Value.ref a=.ref b->∃c,s.heap.get? b=Ga c/\c.dict=Ge)/\(a==T8)=Gq:=by
 rcases d with⟨j,e⟩|⟨j,e⟩
 .obtain⟨_,i,j,_,f⟩:=iE I.Zv e;refine{f.typeIs,λb q=>?_,i};cases q;obtain⟨c,_,_,g,h,_⟩:=f;exact{c,g,h.2.1}
 .obtain⟨_,i,j,_,f⟩:=iQ I.Zv e;refine{f.typeIs,λb q=>?_,i};cases q;obtain⟨c,_,_,g,h,_⟩:=f;exact{c,g,h.2.1}
section
variable{X:Cx}{zq:List (Gc×Ek)}{σ:St}{H:Hp}{s:Gk}{a:Gc}{y d:V}{u r:Value}{o:Option V}{A:TL}{E:Value->Gk->Prop}
theorem K5(v:A.units+1<DM)(I:zu X zq σ H s)(g:Wn H a y o)(p:zm y u)(n:zm d r)(h:∀q m,zu X zq σ H m->zm (o.getD d) q->Q q m):
  wpAny (Tb X.prog X.w) A (call (.builtin "dict.get") [.ref a,u,r]) Q E s:=by
 rcases g with⟨m,k,e,i,l⟩|⟨m,k,b,e,i,t,l⟩
 .subst i;obtain⟨z,j,m,c,f⟩:=iE I.Zv e;refine Si ER f.typeIs Lf (SU _ _ _) (meets_dict_get_default (Ya X.prog X.w) a (iJ p) j r) {_,f.mapOf,h _ _ (I.tok _) ?_};rw[l];exact(c.val k).getD n
 .subst i;cases(show u=Value.ref b from p);obtain⟨z,j,m,c,f⟩:=iQ I.Zv e;refine Si ER f.typeIs Lf (SU _ _ _) (meetsH_dict_get_default (tupleKind (Ya X.prog X.w)) a b j r) {DZ v,k,m,Of I.Zv t,f,h _ _ (I.tok _) ?_};rw[l];exact(c.val k).getD n
end
inductive xZ(ty:TE)(tx:TE)(σ:St)(Q:VK)(x:V)(H1:Hp):Prop
 |mk (a:_) (h0:x=.ref a) (h1:xC H1 a) (h2:ty σ H1 λy H2=>tx σ H2 λz H3=>∃o,Wn H3 a y o/\Q (o.getD z) H3):xZ ty tx σ Q x H1
def Hk(td ty tx:TE):TE:=λσ H Q=>td σ H λx H1=>xZ ty tx σ Q x H1
section
variable{X:Cx}{o e f:TY}{apos cpos:SX}{td ty tx:TE}
theorem IS(B:X.A.units+1<DM)(A:PE X o td)(v:PE X e ty)(w:PE X f tx)(m:M2 X o "get" apos e f cpos):PE X (.Call (.Attribute o "get" apos) [e,f] [] cpos) (Hk td ty tx):=by
 intro b s i H Q I h;refine wpAny_Call_method m.base m.few m.line DS ER Nw (Yi (A b s i H _ I h) λu K⟨x,k,j,F,a,t,d,C⟩=>?_);subst t;obtain rfl:u=Value.ref a:=F;obtain⟨M,N,_⟩:=KR j d;exists M,N;rw[m.trees];refine DY rfl (E2 (Em (Yi (v b K i k _ j C) λP L⟨y,l,p,G,D⟩=>Em (Yi (w b L i l _ p D) λO R⟨z,n,q,J,ov,g,E⟩=>Ey ?_))))
 exact K5 B q g G J λS s4 r c=>{_,n,r,c,E}
end
end L2
namespace Att
open PySem PySem.W PySem.Calls PyProof.Rows
theorem A0{P:Ng}{h:Heap}:∀(c:List Int)(d:List Value),WellAll P h d (c.map Bh)->Lg d c:=by
 intro c;induction c with
 |nil=>intro d w;rw[List.map_nil]at w;cases w;exact .nil
 |cons n c e=>
  intro d w;rw[List.map_cons]at w;cases w with
  |cons a b=>cases a;exact .cons _ _ (e _ b)
theorem HU{l:Nc}{n:Nat}(u:l.most=Ga n){P:Ng}{h:Heap}{args:List WData}{e:List Value}
  (c:l.row.toRowW.claim.pre args=Gg)(k:WellAll P h e args):
  ∃a o b,e=[Value.ref a]/\args=[WData.list (b.map Bh)]/\h.get? a=Ga {cls:=.type "list",data:=.seq o.toArray}/\Lg o b/\b.length<=n:=by
 have j:WShape.hasAll [] args [.list .int]=Gg:=(RG c).1;have m:l.pre.holds [] {args:=args}=Gg:=(RG c).2;obtain⟨d,r,rfl,p,s⟩:=hasAllW_cons j;obtain rfl:=hasAllW_nil s;obtain⟨x,rfl,t⟩:=hasW_list p;obtain⟨b,rfl⟩:=items_int t;have g:b.length<=n:=by
  unfold Bx at m;have f:(WTm.not (.lt (.lit (.int (n:Int))) (.len (.arg 0)))).holds [] {args:=[.list (b.map .int)]}=Gg:=by have f:=(holds_andW m).1;rw[u]at f;exact f
  have i:=condW_of f (w_not (w_lt w_lit (w_len_list (w_arg Xb))));rw[List.length_map]at i;refine FE λq=>?_;have v:(n:Int)<((b.length:Nat):Int):=by ext
  first
   |(rw[Tc v]at i;exact absurd i (by decide))
   |(simp at i;ext)
 cases k with
 |cons v w=>
  cases w;cases v with
  |list i f=>exact{_,_,b,Xb,Xb,i,A0 b _ f,g}
theorem K9(l:Nc)(args:List WData):l.row.toRowW.claim.post args (.bool Gg) args=Gg:=
 postW_of (r:=l.row.toRowW) (X:=(Gg==Gg))
  (show RH [] (.bool Gg) .bool=Gg by first|rfl|decide|simp[RH,WShape.arms,WShape.armsAll])
  (show(WTm.eq .res (.lit (.bool Gg))).value [] {args:=args,res:=Ga (.bool Gg),after:=args}=Ga (.bool (Gg==Gg))from w_eq_bool (w_res Xb) w_lit) rfl
theorem Hv{l:Nc}{n:Nat}{q:Gi}{c:List GY}{B:(GY->Option Value)->Heap->Prop}{C:Gu->Heap->Prop}{d:Nf}
  (Q:l.most=Ga n)(v:d.params.defaults=[])
  (call:∀(w:Gu)(s₀ b:Gk)(s z:GY->Option Value)(i:Gc)(o:Ek)(A p e:Value)(a:Gc)(h:List Value)(t:List Int),
   Ground q c [] B w s₀ s z b.heap->C w b.heap->
   b.heap.get? i=Ga o->o.data=.func (docDef d.name d.params d.body d.scope A p e)->b.heap.CodeRec p d.name->s d.name=Ga (.ref i)->
   b.heap.get? a=Ga {cls:=.type "list",data:=.seq h.toArray}->Lg h t->t.length<=n->b.gens=#[]->
   codeAny (Tb l.prog w) callerA (.call (.ref i) {[.ref a],[]}) (λr s'=>r=.ok (.ret (.bool Gg))/\OldK b.heap s'.heap/\s'.os=b.os/\SA s'.gens) b):
  WalkO q c B C l.row.toRowW d [] (λf h=>SY f h):=by
 intro w s₀ b s z G Y i o A p e I kV R M u E x N D H U m F T y O;obtain rfl:I=.none:=Dflts.none E v;obtain rfl:kV=.none:=Dflts.noKw E;obtain⟨a,h,t,rfl,rfl,k,g,j⟩:=HU Q m y;refine enter_call (La (call w s₀ b s z i o A p e a h t G Y R (fd_plain M) u x k g j N) λr s' S=>?_);obtain⟨rfl,J,K,L⟩:=S;exact{.inl {.bool Gg,.bool Gg,[],Xb,λ_=>rfl,.bool Gg,K9 l _,λ_=>{List.Pairwise.nil,λ_ P=>(nomatch P)}},J,K,L}
end Att
namespace L2
open PySem PySem.Spec PyProof.Rows
variable{k:Nat}{fd:Tp}{x qual:GY}{st:Db}{f:Gc}{A B:Prop}{H:Hp}
theorem ze:∀{b:List Value}{a:List Int},Lg b a->Zt (a.map V.int) b
 |_,_,.nil=>.nil
 |_,_,.cons n t h=>.cons ⟨t,Xb⟩ (ze h)
def oZ(H:Hp):Prop:=∀b,H b=Ge\/∃o xs,H b=Ga (.frz o (.lst xs))
theorem Ca{P:Gi}{w:Gu}{K:Gd}{p I:GY->Option Value}{J:hO}{E a:Gc}{Y:Sp}{e:Gk}{j:List Value}{t:List Int}
  (KX:K.In e.heap)(W:e.heap.Ns T6 p)(h:e.heap.Ns builtinsNs I)(ab:∀x:GY,x≠"__name__"->I x=bootBuiltins x)(ad:e.heap.NoLimit)(hg:e.gens=#[])
  (A:e.heap.get? a=Ga {cls:=.type "list",data:=.seq j.toArray})(T:Lg j t)(U:t.length<=Gj)(hr:Yd k callerA)
  (F:∀C:Heap,K.In C->C.Ns T6 p->Qu P w K p C J k E fd [x] Y)(ac:∀(s:Gk)(u:Value),Fg s fd {[u],[]} [(x,u)])
  (af:∀c:Hp,oZ c->Zb K c a (t.map V.int)->Y [.ref a] c (λv _=>v=.bl Gg) λ_ _ _=>False)
  (aa:∀c f i,J [] c e (λ_ _ _=>False) f i->False):
  codeAny (Tb P w) callerA (.call (.ref E) {[.ref a],[]}) (λr i=>r=.ok (.ret (.bool Gg))/\OldK e.heap i.heap/\i.os=e.os/\SA i.gens) e:=by
 have X:=ze T;have ag:=T.length;have N:∀c:Hp,oZ c->Zb K c a (t.map V.int)->Ru P w c e.heap->(∀b,c b≠Ge->b=a)->(c a≠Ge->K.lookup a=Ge)->
   codeAny (Tb P w) callerA (.call (.ref E) {[.ref a],[]}) (λr i=>r=.ok (.ret (.bool Gg))/\OldK e.heap i.heap/\i.os=e.os/\SA i.gens) e:=by
  intro c S hS L Q hK;have M:∀{b:Gc}{g:Ek},e.heap.get? b=Ga g->c b=Ge->(ih e.heap c).get? b=Ga g:=λf n=>Hn f n;have ah:∀{b:Gc}{g:Ek}{m:Array Eu}{l:Nat},e.heap.get? b=Ga g->g.data=.dict m l->c b=Ge:=λ{b g m l}f d=>by
   cases q:c b with
   |none=>rfl
   |some u=>have D:b=a:=Q b (by rw[q];simp);subst D;rw[A]at f;cases f;have d':Bs j.toArray _=Data.dict m l:=d;cases d'
  have B:∀{b:Gc}{H:GY->Option Value},e.heap.Ns b H->(ih e.heap c).Ns b H:=λ{b H}⟨g,m,l,f,d,r⟩=>{g,m,l,M f (ah f d),d,r};have R:K.In (ih e.heap c):=λb g f=>M (KX b g f) (by
   cases q:c b with
   |none=>rfl
   |some u=>have D:b=a:=Q b (by rw[q];simp);subst D;rw[hK (by rw[q];simp)]at f;cases f)
  have hM:Mod K p (ih e.heap c):={R,B W,{I,B h,ab},let⟨mc,h1,h2⟩:=ad;{mc,B h1,h2}};have e0:iR P w K p (ih e.heap c) callerA [] e c:={Xb,hM,λb g f=>Q1 f,Sf (Ax _ _),trivial,λb h=>absurd (show b∈([]:List Gc)from h) (by simp),L,.of_eq hg};refine La ((F _ R (B W)).run callerA [] e c {[.ref a],[]} [.ref a] [.ref a] _ _ hr e0 (ac e (.ref a)) (.cons rfl .nil) (af c S hS)) λr i o=>?_;cases r with
  |error f=>exact(aa c f i o).elim
  |ok fl=>
   cases fl with
   |next=>exact False.elim o
   |brk=>exact False.elim o
   |cont=>exact False.elim o
   |ret u=>
    obtain⟨v,H',os,Z,un,ae,r',q⟩:=o;have q':v=.bl Gg:=q;subst q';obtain rfl:u=Value.bool Gg:=r';refine{Xb,OldK.of_keep λb g f=>?_,os,Z};cases q:c b with
    |none=>exact un.keep b g f q (by intro z;exact absurd (show b∈([]:List Gc)from z) (by simp)) (by simp)
    |some u=>
     rcases S b with z|⟨ob,xs,z⟩
     .rw[q]at z;cases z
     .have z2:=un.Qan b ob _ z;obtain⟨O,_⟩:=L b _ z;obtain⟨e2,_⟩:=ae b _ z2;rw[f]at O;cases O;exact e2
 cases G:K.lookup a with
 |some g=>have f:=KX a g G;rw[A]at f;cases f;refine N (λ_=>Ge) (λ_=>.inl Xb) (.inr {_,j.toArray,_,G,Xb,Xb,Xb,by rw[List.size_toArray,ag];exact U,by simpa using X}) (λb u z=>by have y:(Ge:Option HO)=Ga u:=z;cases y) (λb z=>absurd rfl z) λz=>absurd rfl z
 |none=>
  refine N (λb=>if b=a then Ga (.frz {cls:=.type "list",data:=.seq j.toArray} (.lst (t.map V.int)))else Ge) (λb=>?_) (.inl (.inr {{cls:=.type "list",data:=.seq j.toArray},Gn Xb})) (λb u z=>?_) (λb z=>?_) λ_=>G
  .by_cases h:b=a
   .exact .inr {_,_,Gn h}
   .exact .inl (Gh h)
  .by_cases h:b=a
   .have y:=(Gn h).symm.trans z;cases y;subst h;exact{A,by rw[List.length_map];exact U,j,_,X,A}
   .have y:=(Gh h).symm.trans z;cases y
  .by_cases h:b=a
   .exact h
   .exact absurd (Gh h) z
theorem KO{l:Lj}{n:Nat}{q:Gi}{i:List GY}{L:(GY->Option Value)->Heap->Prop}{I:Gu->Heap->Prop}{d:Nf}{K:Ng->Gd}{CX:Gu->hO}{sp:Gu->Sp}
  (S:l.most=Ga n)(C:n<=Gj)(A:d.params.defaults=[])(T:Yd k callerA)
  (O:∀(w:Gu)(h:Heap),I w h->(K w.params).In h)
  (F:∀(w:Gu)(j:GY->Option Value)(r:Gc)(h:Heap),(K w.params).In h->h.Ns T6 j->j d.name=Ga (.ref r)->
   ∃y:Tp,(∀(s:Gk)(u:Value),Fg s y {[u],[]} [(x,u)])/\
    ∀b:Heap,(K w.params).In b->b.Ns T6 j->Qu l.prog w (K w.params) j b (CX w) k r y [x] (sp w))
  (D:∀(w:Gu)(H:Hp)(a:Gc)(t:List Int),t.length<=n->oZ H->Zb (K w.params) H a (t.map V.int)->sp w [.ref a] H (λv _=>v=.bl Gg) λ_ _ _=>False)
  (z:∀(w:Gu)(H:Hp)(s:Gk)(e:Value)(E:Gk),CX w [] H s (λ_ _ _=>False) e E->False):
  MO q i L I l.row.toRowW d [] (λf J=>SY f J):=by
 refine Att.Hv S A λw b p j Z r o pm U M a J t G Y X W Q B m g c R=>?_;have KX:=O w _ Y;obtain⟨y,P,N⟩:=F w j r _ KX G.T.g B;exact Ca KX G.T.g G.T.b G.T.builtins G.T.nolimit R m g (Tw c C) T N P (λH b o=>D w H a t c b o) λH e E=>z w H p e E
abbrev Z5:hO:=λ_ _ _ _ _ _=>False
abbrev E0:XK:=λ_ _ _=>False
theorem Q5{X:Cx}:I8 Z5 X E0:=λ_ _ _ _ _ _ _ h=>h.elim
structure Wj(K:Gd)(x qual:GY)(st:Db)(f:Gc)(fd:Tp):Prop where
 ex:∃(oc:Value)(od:Option Gc)(kV doc pm:Value)(an:Option Gc)(cdv ct:Value)(osl:Array (Option Value)),
  fd=Du x qual (Vl st) (X5 st) (Qk st) .none kV doc pm an cdv ct/\K.lookup f=Ga {oc,od,.func fd,osl}/\Sj K cdv qual=Gg
 kp:T1 K (.ref f)=Gg
section
variable{P:Gi}{w:Gu}{K:Gd}{mg:GY->Option Value}{base:Heap}
theorem Wj.ok{N j:List GY}{l:Sp}(F:Wj K x qual st f fd)(S:Qw N j (Qk st))(i:∀d H Q E,l d H Q E->d.length=j.length)
  (c:∀(b:Value)(A:TL)(a:List L9)(s:Gk)(H:Hp)(d:List V)(Q:VK)(E:XK),Yd k (A.deeper (envOfC qual (Qk st) s.heap.objs.size f b))->l d H Q E->
   ∃t,Ik (iG Z5 P w K mg base N qual (Qk st) f b A a s H E).nox (X5 st) t/\t {nx:=λ_ H'=>Q .non H',rt:=Q} (start N d) H):Qu P w K mg base Z5 (k+1) f fd j l:=by
 obtain⟨v,y,kV,m,z,r,b,u,p,rfl,o,e⟩:=F.ex;refine QW o e S i λA a s H d Q E n g=>?_;obtain⟨t,h,q⟩:=c b A a s H d Q E n g;exact{t,h.nox,q}
theorem Wj.binds{e:List GY}(F:Wj K x qual st f fd)
  (h:∀(kV b d:Value)(c:Option Gc)(a ct:Value)(g:List Value),g.length=e.length->bindArgs (Du x qual (Vl st) (X5 st) (Qk st) .none kV b d c a ct) {g,[]}=pure (e.zip g)):zk K fd e []:=by
 obtain⟨k,l,kV,b,d,c,a,ct,i,rfl,j,g⟩:=F.ex;exact .all (h kV b d c a ct)
theorem yR{h:Value}{i e:Option Gc}{d:Array (Option Value)}{kV b g a ct:Value}(l:K.lookup f=Ga {h,i,.func (Du x qual (Vl st) (X5 st) (Qk st) .none kV b g e a ct),d})
  (c:Sj K a qual=Gg)(k:T1 K (.ref f)=Gg):Wj K x qual st f (Du x qual (Vl st) (X5 st) (Qk st) .none kV b g e a ct):={⟨h,i,kV,b,g,e,a,ct,d,Xb,l,c⟩,k}
end
theorem Jg{A:TL}(a:Yd k A):A.units+1<DM:=DG (LG (by decide:1<=64) _) a.units
section
variable{X:Cx}
theorem pv(i:Nat){b:SX}(c:X.N[i]?=Ga x:=by rfl)(e:pV X.env.scope x:=by first|exact De rfl|exact Ej (De Xb)|exact Ej (Ej Xb))(d:(x==("__debug__":GY))=Gq:=by decide)
  (a:(x==("__classdict__":GY))=Gq:=by decide):PE X (.Name x b) (Vw i):=A9 c e d a
end
theorem Zu(h:B):if Gq=Gg then A else B:=by rw[Gh GO];exact h
theorem Y0(h:A):if Gg=Gg then A else B:=by rw[Gn rfl];exact h
theorem Vu{c:Prop}[Decidable c](a:c->A)(b:¬c->B):if c then A else B:=by
 by_cases h:c
 .rw[Gn h];exact a h
 .rw[Gh h];exact b h
theorem jt{c:Prop}[Decidable c](a:c)(h:B):if(!decide c)=Gg then A else B:=by rw[Tc a];exact Zu h
def Qx(H H':Hp):Prop:=∀b o,H b=Ga o->H' b=Ga o
theorem Qx.trans{d e:Hp}(a:Qx H d)(b:Qx d e):Qx H e:=λc o h=>b c o (a c o h)
theorem Qx.free{a:Hp}(e:Qx H a){l:Gc}(h:a l=NM):H l=NM:=by
 cases q:H l with
 |none=>rfl
 |some o=>rw[e l o q]at h;cases h
theorem Qx.seq{K:Gd}{b:Hp}{a:Gc}{c:List V}(e:Qx H b)(h:Zb K H a c):Zb K b a c:=by
 rcases h with(h|⟨o,h⟩)|h
 .exact .inl (.inl (e _ _ h))
 .exact .inl (.inr {o,e _ _ h})
 .exact .inr h
section
variable{X:Cx}
theorem zV:V9 X (.builtin "len") (λxs H Q=>∃a b,xs=[V.ref a]/\H a=Ga (.dK b)/\Q (.int b.length) H):=by intro c s j H xs i Q I r h;obtain⟨a,b,rfl,e,q⟩:=h;obtain⟨u,rfl,f⟩:=vals1 r;cases f;exact JA I (.inl e) λt g d=>{.int b.length,H,d,⟨t,Xb⟩,q}
end
end L2
namespace Sb
inductive iV{a:Type}(p:a->Prop):Prop|mk a1:p a1->iV p
inductive ia{a b:Type}(p:a->b->Prop):Prop|mk a1 b1:p a1 b1->ia p
inductive ke{a b c:Type}(p:a->b->c->Prop):Prop|mk a1 b1 c1:p a1 b1 c1->ke p
inductive gV{a b c d:Type}(p:a->b->c->d->Prop):Prop|mk a1 b1 c1 d1:p a1 b1 c1 d1->gV p
inductive gZ{a b c d e:Type}(p:a->b->c->d->e->Prop):Prop|mk a1 b1 c1 d1 e1:p a1 b1 c1 d1 e1->gZ p
inductive ip{a b c d e f:Type}(p:a->b->c->d->e->f->Prop):Prop|mk a1 b1 c1 d1 e1 f1:p a1 b1 c1 d1 e1 f1->ip p
inductive yw{a b c d e f g:Type}(p:a->b->c->d->e->f->g->Prop):Prop|mk a1 b1 c1 d1 e1 f1 g1:p a1 b1 c1 d1 e1 f1 g1->yw p
inductive mV{a b c d e f g h:Type}(p:a->b->c->d->e->f->g->h->Prop):Prop|mk a1 b1 c1 d1 e1 f1 g1 h1:p a1 b1 c1 d1 e1 f1 g1 h1->mV p
inductive mJ{a b c d e f g h i:Type}(p:a->b->c->d->e->f->g->h->i->Prop):Prop|mk a1 b1 c1 d1 e1 f1 g1 h1 i1:p a1 b1 c1 d1 e1 f1 g1 h1 i1->mJ p
inductive xi{a b c d e f g h i j:Type}(p:a->b->c->d->e->f->g->h->i->j->Prop):Prop|mk a1 b1 c1 d1 e1 f1 g1 h1 i1 j1:p a1 b1 c1 d1 e1 f1 g1 h1 i1 j1->xi p
inductive oG{a b c d e f g h i j k l m:Type}(p:a->b->c->d->e->f->g->h->i->j->k->l->m->Prop):Prop|mk a1 b1 c1 d1 e1 f1 g1 h1 i1 j1 k1 l1 m1:p a1 b1 c1 d1 e1 f1 g1 h1 i1 j1 k1 l1 m1->oG p
inductive lJ(a b:Prop):Prop|mk:a->b->lJ a b
inductive i0(a b c:Prop):Prop|mk:a->b->c->i0 a b c
inductive iA(a b c d:Prop):Prop|mk:a->b->c->d->iA a b c d
inductive i8(a b c d e:Prop):Prop|mk:a->b->c->d->e->i8 a b c d e
inductive jF(a b c d e f:Prop):Prop|mk:a->b->c->d->e->f->jF a b c d e f
inductive hJ(a b c d e f g:Prop):Prop|mk:a->b->c->d->e->f->g->hJ a b c d e f g
inductive gP(a b c d e f g h:Prop):Prop|mk:a->b->c->d->e->f->g->h->gP a b c d e f g h
inductive kj(a b c d e f g h i:Prop):Prop|mk:a->b->c->d->e->f->g->h->i->kj a b c d e f g h i
inductive nI(a b c d e f g h i j k l:Prop):Prop|mk:a->b->c->d->e->f->g->h->i->j->k->l->nI a b c d e f g h i j k l
inductive kh(a b c d e f g h i j k l m n:Prop):Prop|mk:a->b->c->d->e->f->g->h->i->j->k->l->m->n->kh a b c d e f g h i j k l m n
inductive pK(a b c d e f g h i j k l m n o:Prop):Prop|mk:a->b->c->d->e->f->g->h->i->j->k->l->m->n->o->pK a b c d e f g h i j k l m n o
end Sb
namespace L2
open PySem PySem.Spec PyProof.Rows
variable{scope:SQ}{X:Cx}{zq:List (Gc×Ek)}{σ:St}{own:List GY}{fv:List (Nat×GY)}{K:Gd}
def ccx(X:Cx)(N:List GY)(scope:SQ)(a:List (GY×Gc))(C:Gc)(fp:List Gc)(s:Gk)(H:Hp):Cx where
 prog:=X.prog
 w:=X.w
 K:=X.K
 mg:=X.mg
 base:=X.base
 A:=X.A
 N:=N
 s₀:=s
 H₀:=H
 env:=compEnvC scope a C X.env
 outer:=X.stack
 stack:=X.stack
 ex:=fp
 calm:=X.calm
 fn:=λ_=>Gq
 pn:=[]
 xe:=λ_ _=>False
inductive FV(X:Cx)(scope:SQ):List (Nat×GY)->Prop
 |nil:FV X scope []
 |cons {j:Nat} {x:GY} {r:List (Nat×GY)}:X.N[j]?=Ga x->(X.env.scope.names.lookup x=Ga .cell\/X.env.scope.names.lookup x=Ga .free)->scope.names.lookup x=Ga .free->FV X scope r->FV X scope ((j,x)::r)
theorem FV.get{X:Cx}{scope:SQ}:∀{d:List (Nat×GY)}{k j:Nat}{x:GY},FV X scope d->d[k]?=Ga (j,x)->
  X.N[j]?=Ga x/\(X.env.scope.names.lookup x=Ga .cell\/X.env.scope.names.lookup x=Ga .free)/\scope.names.lookup x=Ga .free
 |_,_,_,_,.nil,e=>by simp at e
 |_,0,_,_,.cons a b c _,e=>by simp at e;obtain⟨rfl,rfl⟩:=e;exact⟨a,b,c⟩
 |_,k+1,_,_,.cons _ _ _ r,e=>FV.get (k:=k) r (by simpa using e)
theorem Vy{env:L9}:∀{names:List (GY×E1)}{x:GY},names.lookup x=Ga .free->
  (names.map λ(n,k)=>if(k==Ts&&env.scope.kind==.function&&env.kindOf n==Ga .cell)then(n,SK)else(n,k)).lookup x=Ga .cell\/
  (names.map λ(n,k)=>if(k==Ts&&env.scope.kind==.function&&env.kindOf n==Ga .cell)then(n,SK)else(n,k)).lookup x=Ga .free
 |[],_,h=>by simp at h
 |(n,k)::r,x,h=>by
  have b:=@Vy env r x;rw[List.map_cons];dsimp only;cases hx:x==n with
  |true=>
   simp only[List.lookup_cons,hx]at h;cases h;by_cases a:(Ts==Ts&&env.scope.kind==.function&&env.kindOf n==Ga .cell)=Gg
   .left;rw[Gn a];simp only[List.lookup_cons,hx]
   .right;rw[Gh a];simp only[List.lookup_cons,hx]
  |false=>
   simp only[List.lookup_cons,hx]at h;by_cases a:(k==Ts&&env.scope.kind==.function&&env.kindOf n==Ga .cell)=Gg
   .rw[Gn a];simp only[List.lookup_cons,hx];exact b h
   .rw[Gh a];simp only[List.lookup_cons,hx];exact b h
theorem Uo{env:L9}:∀{names:List (GY×E1)}{x:GY},
  ((names.map λ(n,k)=>if(k==Ts&&env.scope.kind==.function&&env.kindOf n==Ga .cell)then(n,SK)else(n,k)).lookup x=Ga .cell\/
  (names.map λ(n,k)=>if(k==Ts&&env.scope.kind==.function&&env.kindOf n==Ga .cell)then(n,SK)else(n,k)).lookup x=Ga .free)->
  names.lookup x=Ga .cell\/names.lookup x=Ga .free
 |[],_,h=>by simp at h
 |(n,k)::r,x,h=>by
  have c:=@Uo env r x;rw[List.map_cons]at h;dsimp only at h;cases hx:x==n with
  |true=>
   by_cases a:(k==Ts&&env.scope.kind==.function&&env.kindOf n==Ga .cell)=Gg
   .right;have d:(k==Ts)=Gg:=(DL.mp (DL.mp a).1).1;have b:k=.free:=by simpa using d
    simp only[List.lookup_cons,hx,b]
   .rw[Gh a]at h;simp only[List.lookup_cons,hx]at h⊢;exact h
  |false=>
   by_cases a:(k==Ts&&env.scope.kind==.function&&env.kindOf n==Ga .cell)=Gg
   .rw[Gn a]at h;simp only[List.lookup_cons,hx]at h⊢;exact c h
   .rw[Gh a]at h;simp only[List.lookup_cons,hx]at h⊢;exact c h
theorem Ol{env:L9}:∀(names:List (GY×E1))(b:List (GY×Gc)),(∀x,(x,Ts)∈names->∃c,env.cells.lookup x=Ga c)->(∀x c,b.lookup x=Ga c->env.cells.lookup x=Ga c)->
  ∃f:List (GY×Gc),(forIn names b (λ(x:GY×E1)(b:List (GY×Gc))=>if x.2==Ts then(cellOf env x.1>>=λc=>pure (DW ((x.1,c)::b)))else pure (DW b)):Bv (List (GY×Gc)))=pure f/\
   (∀x c,f.lookup x=Ga c->env.cells.lookup x=Ga c)/\(∀x,(∃c,b.lookup x=Ga c)\/(x,Ts)∈names->∃c,f.lookup x=Ga c)
 |[],b,_,g=>{b,Xb,g,λx h=>h.elim id λz=>nomatch z}
 |(n,k)::r,b,l,g=>by
  rw[List.forIn_cons];by_cases m:k=.free
  .subst m;obtain⟨c,o⟩:=l n List.mem_cons_self;have e:cellOf env n=pure c:=by unfold cellOf;rw[o]
   obtain⟨f,h,i,j⟩:=Ol r ((n,c)::b) (λx a=>l x (List.mem_cons_of_mem _ a)) (λx d a=>by
    rw[List.lookup_cons]at a;cases q:x==n with
    |true=>
     rw[q]at a;have p:x=n:=by simpa using q
     rw[p,o];exact a
    |false=>rw[q]at a;exact g x d a)
   refine{f,?_,i,λx a=>j x ?_}
   .simp only[EC,SD,e,pure_bind];exact h
   .rcases a with⟨d,p⟩|a
    .left;rw[List.lookup_cons];cases q:x==n with
     |true=>exact{_,Xb}
     |false=>exact⟨d,p⟩
    .rcases List.mem_cons.mp a with z|z
     .left;have:x=n:=congrArg Prod.fst z;subst this;exact{c,by simp[List.lookup_cons]}
     .exact .inr z
  .have e:(k==Ts)=Gq:=by simpa using m
   obtain⟨f,h,i,j⟩:=Ol r b (λx a=>l x (List.mem_cons_of_mem _ a)) g;refine{f,?_,i,λx a=>j x ?_}
   .simp only[e,TM,Dm,pure_bind];exact h
   .rcases a with z|z
    .exact .inl z
    .rcases List.mem_cons.mp z with z|z
     .exact absurd (congrArg Prod.snd z).symm m
     .exact .inr z
theorem Ha{env:L9}(i:∀x,(x,Ts)∈scope.names->∃c,env.cells.lookup x=Ga c):
  ∃a:List (GY×Gc),closureFor scope env=pure a/\(∀x c,a.lookup x=Ga c->env.cells.lookup x=Ga c)/\(∀x,(x,Ts)∈scope.names->∃c,a.lookup x=Ga c):=by
 obtain⟨a,d,f,g⟩:=Ol (env:=env) scope.names [] i (λx c h=>by simp at h);refine{a,?_,f,λx j=>g x (.inr j)};have e:closureFor scope env=((forIn scope.names ([]:List (GY×Gc)) (λ(x:GY×E1)(b:List (GY×Gc))=>if x.2==Ts then(cellOf env x.1>>=λc=>pure (DW ((x.1,c)::b)))else pure (DW b)):Bv (List (GY×Gc)))>>=λb=>pure b):=rfl;rw[e,d];rfl
def Jn(n:Nat)(a:List (Nat×GY))(σ:St):St:=List.replicate n Ge++a.map λq=>(σ[q.1]?).join
theorem QL{n:Hp}{s:Gk}{B:List (GY×Gc)}{C:List Gc}{o:Heap}{ob:Ek}{K:GY->Option Value}{t':Nat}
  (d:zu X zq σ n s)(Q:scope.kind=.function)(F:FV X scope fv)(k:∀x c,B.lookup x=Ga c->X.env.cells.lookup x=Ga c)(G:∀x,(x,Ts)∈scope.names->∃c,B.lookup x=Ga c)
  (U:∀y∈scope.names,y.2≠.cell)(t:∀b∈C,gL X zq n b)(S:∀b∈C,b<s.heap.objs.size)
  (T:o.Ns s.heap.objs.size K)(W:Heap.SameBut s.heap.objs.size (s.heap.push ob) o):
  zu (ccx X (own++fv.map (·.2)) scope B s.heap.objs.size C s n) [] (Jn own.length fv σ) n {s with heap:=o,toks:=t'}:=by
 have A:∀b u,s.heap.get? b=Ga u->o.get? b=Ga u:=λb u e=>(W.2 b (Tg (Heap.lt_size e))).trans (Heap.get?_push_of_some _ e);have O:∀x,(scope.names.lookup x=Ga .cell\/scope.names.lookup x=Ga .free)->(x,Ts)∈scope.names:=λx g=>by
  rcases g with g|g
  .exact absurd rfl (U _ (Dj g))
  .exact Dj g
 exists ⟨d.ok.mod,Q,d.ok.glob,d.ok.blt,Gm _,λx y c f a=>d.ok.inj x y c (k x c f) (k y c a),λx g=>G x (O x (Uo (env:=X.env) g)),λ_ _ g _=>(GO g).elim,
   d.ok.hd,d.ok.frames,.inl Xb,λb h=>{Tg (S b h),λx c e=>(t b h).2.2.2.2.1 x c (k x c e)},d.bs,Tw d.ok.bsz d.sz,λb m e h=>?_,λb h P=>?_,d.stack,d.sQ⟩,
  Xb,d.bare,Un.kept A,{K,T,λi x j f a e3=>?_},λx c e=>?_,d.Zv.fresh (Gm _),λx c e=>d.Ic x c (k x c e),λp V=>absurd (show p∈([]:List (Gc×Ek))from V) (by simp),d.Zv.kept A
 .rcases(t b h).2.2.2.1 with z|z
  .exact d.ok.Qvf b m e z
  .exact absurd (Te (Heap.lt_size e) (Tw d.ok.bsz z)) (Ds _)
 .rcases List.mem_cons.mp (d.md b P)with z|z
  .exact(t b h).2.1 z
  .exact(t b h).2.2.1 z
 .have f:(own++fv.map (·.2))[i]?=Ga x:=f;by_cases J:i<own.length
  .have a:(Jn own.length fv σ)[i]?=Ga (Ga j):=a;unfold Jn at a;rw[List.getElem?_append_left (by simpa using J),List.getElem?_replicate]at a;split at a<;>cases a
  .have a:(Jn own.length fv σ)[i]?=Ga (Ga j):=a;unfold Jn at a;rw[List.getElem?_append_right (by simpa using J),List.length_replicate,List.getElem?_map]at a;rw[List.getElem?_append_right (by lia),List.getElem?_map]at f;cases q:fv[i - own.length]? with
   |none=>rw[q]at f;cases f
   |some p=>
    obtain⟨v,y⟩:=p;rw[q]at f a;have f:Ga y=Ga x:=f;cases f;have a:Ga (σ[v]?).join=Ga (Ga j):=a;have a:=To a;obtain⟨N,l,H⟩:=F.get q;have M:σ[v]?=Ga (Ga j):=by
     cases r:σ[v]? with
     |none=>rw[r]at a;cases a
     |some z=>rw[r]at a;exact congrArg Ga a
    obtain⟨m0,aa,R⟩:=d.loc;obtain⟨u,ru,lk⟩:=R v x j N M (.inr l);exists u,ru;rcases lk with⟨w,_⟩|⟨w,c,Y,Z⟩
    .exfalso;have w:X.env.scope.names.lookup x=Ga .local:=w;rcases l with l|l<;>(rw[w]at l;cases l)
    .obtain⟨L,I⟩:=G x (Dj H);have:=k x L I;rw[Y]at this;cases this;refine .inr {Vy (env:=X.env) H,c,I,?_};obtain⟨m,E,D⟩:=Z;exact{m,A _ _ E,D}
 .obtain⟨j,m,E,D⟩:=d.cell x c (k x c e);exact{j,m,A _ _ E,D}
 .show(Jn own.length fv σ).length=(own++fv.map (·.2)).length;unfold Jn;simp
def iK(X:Cx)(ifs:List TY)(t:TT):Prop:=
 ∀(zq:List (Gc×Ek))(s:Gk)(σ:St)(H:Hp)(Q:Bool->Hp->Prop),zu X zq σ H s->t σ H Q->
  wpAny (Tb X.prog X.w) X.A (forIn ifs Gg λc r=>if r=Gg then do let ok<-isTrue c X.env (eval c X.env);pure (DW ok)else pure (DW r)) (TP X zq σ Q) X.xe s
def ko:TT:=λ_ H Q=>Q Gg H
theorem We:iK X [] ko:=λa s b H Q I h=>wpAny_tests_nil ⟨H,I,h⟩
theorem y9{c:TY}{t:TT}(h:PT X c t):iK X [c] t:=λa s b H Q I hw=>wpAny_tests_one (h a s b H Q I hw)
section
variable{prog:Gi}{w:Gu}{A:TL}{R:Nj->Gk->Prop}{s:Gk}
theorem AM{p a iter:TY}{q:List TY}{z:SX}{B o:Value}{d:L9}(I:Nat->Gk->Prop)
  (turn:∀n s,I n s->wpAny (Tb prog w) A (pyNext B) (λr b=>match r with
   |none=>R (.ok .next) b
   |some v=>wpAny (Tb prog w) A (letOwnedTupleGo a B v) (λ_ b=>wpAny (Tb prog w) A (assign a d v) (λ_ j=>
     wpAny (Tb prog w) A (forIn q Gg λc r=>if r=Gg then do let ok<-isTrue c d (eval c d);pure (DW ok)else pure (DW r)) (λok g=>
      if ok=Gg then wpAny (Tb prog w) A (eval p d) (λx k=>wpAny (Tb prog w) A (call (.builtin "list.append") [o,x]) (λ_ l=>∃m,m<n/\I m l) (λ_ _=>False) k) (λ_ _=>False) g
      else∃m,m<n/\I m g) (λ_ _=>False) j) (λ_ _=>False) b) (λ_ _=>False) b) (λ_ _=>False) s)
  (n:Nat)(h:I n s):
  codeAny (Tb prog w) A (.compLoop (.ListComp p [{a,iter,q,0}] scope z) 0 B o d) R s:=by
 refine codeAny_loop rfl I (λn s C=>?_) n h;show wpAny _ A ((compTurn (.ListComp p [{a,iter,q,0}] scope z) 0 B o d).onRaise (λx=>do noteFrame x d;theTreesLotGoes x)) _ _ s;refine wpAny_noted ?_;rw[compTurn_list];refine Gb (LM (Gb (DI (turn n s C) (λr b e=>?_) λ_ _ f=>f.elim)));cases r with
 |none=>exact Gf e
 |some v=>
  refine Gb (DI e (λ_ b e=>?_) λ_ _ f=>f.elim);refine Gb (DI e (λ_ j t=>Gb (DI t (λok g i=>?_) λ_ _ f=>f.elim)) λ_ _ f=>f.elim);cases ok with
  |false=>exact Gf ⟨Xb,i⟩
  |true=>exact Gb (Gb (DI i (λx k u=>Gb (DI u (λ_ l y=>Gf (Gf ⟨Xb,y⟩)) λ_ _ f=>f.elim)) λ_ _ f=>f.elim))
end
def iB(p:Gc)(J:It)(g:TG)(tt:TT)(te:TE)(Q:Hp->Prop)(e:St)(j:Hp):Prop:=
 ∃W:Nat->Nat->St->Hp->Prop,(∃m,W 0 m e j)/\∀i m σ H,W i m σ H->
  (J.stop i H/\Q H)\/(J.go i H/\∃(N:V->St->Hp->Prop)(h:St->Hp->Prop),(∀v a H',N v a H'->∃ys,H' p=Ga (.lst ys)/\ys.length<Gj/\∃d,d<m/\W (i+1) d a (zj H' p (.lst (ys++[v]))))/\
   (∀a H',h a H'->∃d,d<m/\W (i+1) d a H')/\
   ∀x H',J.yld i H x H'->g x σ H' λc H2=>tt c H2 λb f=>if b=Gg then te c f λv k=>N v c k else h c f)
def vU(n:Nat)(a:List (Nat×GY))(wi:TI)(g:TG)(tt:TT)(te:TE):TE:=λσ H Q=>wi σ H λJ H1=>∀p,H1 p=Ge->iB p J g tt te (λH'=>Q (.ref p) H') (Jn n a σ) (zj H1 p (.lst []))
section
variable{X:Cx}{elt tg iter:TY}{ifs:List TY}{scope:SQ}{pos:SX}{wi:TI}{g:TG}{tt:TT}{te:TE}
structure Wa(esc scope:SQ):Prop where
 kind:scope.kind=.function
 Qr3:∀y∈scope.names,y.2≠.cell
 loc:∀x∈scope.names,x.2=.local->scope.names.lookup x.1=Ga .local
 fre:∀y∈scope.names,y.2=.free->esc.names.lookup y.1=Ga .cell\/esc.names.lookup y.1=Ga .free
theorem xG{t:Hp}{e:Gk}{it:Gc}{f:List Gc}{H:Nat->Heap->Prop}{ah:It}{l:List (GY×Gc)}{Q:VK}{RR:Value->Gc->Nj->Gk->Prop}{ag:Value->Gk->Prop}
  (hc:X.calm=Gg)(S:Wa X.env.scope scope)(F:FV X scope fv)(c1:∀x c,l.lookup x=Ga c->X.env.cells.lookup x=Ga c)(c2:∀x,(x,Ts)∈scope.names->∃c,l.lookup x=Ga c)
  (hg:∀l h f s E,PG (ccx X (own++fv.map (·.2)) scope l h f s E) tg g)(ht:∀l h f s E,iK (ccx X (own++fv.map (·.2)) scope l h f s E) ifs tt)(he:∀l h f s E,PE (ccx X (own++fv.map (·.2)) scope l h f s E) elt te)
  (R:zu X zq σ t e)(o:iq X.prog X.w X.K tg ah f it H)(ad:H 0 e.heap)(f2:∀b∈f,gL X zq t b)
  (q:∀p,t p=Ge->iB p ah g tt te (λH'=>Q (.ref p) H') (Jn own.length fv σ) (zj t p (.lst [])))
  (aw:∀(p h:Gc)(H':Hp)(C:Gk),zu X zq σ H' C->(∃M,C.heap.Ns h M)->gL X zq H' h->Q (.ref p) H'->RR (.ref p) h (.ok .next) C):
  wpAny (Tb X.prog X.w) X.A (newList []) (λai ay=>wpAny (Tb X.prog X.w) X.A (newFunctionEnv scope X.env.globals l [] X.env.qual Ge .none (Ga X.env)) (λaj az=>codeAny (Tb X.prog X.w) X.A (.compStart (.ListComp elt [{tg,iter,ifs,0}] scope pos) 0 (.ref it) ai {aj with scope:=relabel scope X.env}) (RR ai aj.locals) az) ag ay) ag e:=by
 have q:=q e.heap.objs.size (R.Zv.fresh (Gm _));have K:=R.sk (ys:=[]) (its:=[]) (t':=e.toks) .nil (Gw _);have aB:t e.heap.objs.size=Ge:=R.Zv.fresh (Gm _);refine TB (wpAny_newFunctionEnv S.Qr3 (by intro y L;simp at L) (λam ax al=>?_) S.kind);have r:∀b∈f,gL X zq (zj t e.heap.objs.size (.lst [])) b:=λb a=>by obtain⟨B,k,_⟩:=o.obj 0 _ ad b a;exact{by rw[Qg (Tg (Heap.lt_size k))];exact(f2 b a).1,(f2 b a).2}
 have ab:∀b∈f,b<(e.heap.push {cls:=.type "list",data:=.seq ([]:List Value).toArray}).objs.size:=λb a=>by obtain⟨B,k,_⟩:=o.obj 0 _ ad b a;exact Heap.lt_size (Heap.get?_push_of_some _ k)
 have ap:H 0 am:=o.keep 0 _ _ ad λb a B k=>(al.2 b (Tg (ab b a))).trans (Heap.get?_push_of_some _ (Heap.get?_push_of_some _ k));have I4:=QL (own:=own) (fv:=fv) (t':=e.toks+([]:List (GY×Value)).length) K S.kind F c1 c2 S.Qr3 r ab ax al;obtain⟨W,⟨m0,w0⟩,turn⟩:=q;generalize hC:(e.heap.push {cls:=.type "list",data:=.seq ([]:List Value).toArray}).objs.size=h at*;have an:codeAny (Tb X.prog X.w) X.A (.compLoop (.ListComp elt [{tg,iter,ifs,0}] scope pos) 0 (.ref it) (.ref e.heap.objs.size) (compEnvC scope l h X.env)) (RR (.ref e.heap.objs.size) h)
   {e with heap:=am,toks:=e.toks+([]:List (GY×Value)).length}:=by
  generalize m:ccx X (own++fv.map (·.2)) scope l h f {e with heap:=e.heap.push {cls:=.type "list",data:=.seq ([]:List Value).toArray}} (zj t e.heap.objs.size (.lst []))=j at I4;have af:∀{H':Hp},(∀b∈f,H' b=Ge)->∀b∈f,gL j [] H' b:=λ{H'}hn b a=>by
   subst m;refine{hn b a,Tg (ab b a),λz=>?_,.inl a,λx c k=>(r b a).2.2.2.2.1 x c (c1 x c k),λp hp=>absurd (show p∈([]:List (Gc×Ek))from hp) (by simp)};rcases List.mem_cons.mp (K.md b z)with z|z
   .exact(r b a).2.1 z
   .exact(r b a).2.2.1 z
  have U:j.prog=X.prog:=by subst m;rfl
  have V:j.w=X.w:=by subst m;rfl
  have eK:j.K=X.K:=by subst m;rfl
  have T:j.A=X.A:=by subst m;rfl
  have eC:j.calm=Gg:=by subst m;exact hc
  have eE:j.env=compEnvC scope l h X.env:=by subst m;rfl
  have ex:j.xe=λ_ _=>False:=by subst m;rfl
  have Z:PG j tg g:=by subst m;exact hg _ _ _ _ _
  have aa:iK j ifs tt:=by subst m;exact ht _ _ _ _ _
  have Y:PE j elt te:=by subst m;exact he _ _ _ _ _
  unfold PG at Z;unfold iK at aa;unfold PE at Y;rw[U,V,T,eE,ex]at Z aa Y;refine AM (λn C=>∃i I H',zu j [] I H' C/\H i C.heap/\(∀b∈f,H' b=Ge)/\W i n I H') ?_ m0 {0,_,_,I4,ap,λb a=>(r b a).1,w0};rintro n s3 ⟨i,P,v,J3,ao,ak,w3⟩;rcases turn i n P v w3 with⟨stop,qn⟩|⟨go,aA,N',hN,av,step⟩
  .have d:=o.done j U V eK eC i [] s3 P v (λ_ _=>False) J3 (af ak) ao stop;rw[T]at d;refine Yi d λac s4⟨hr,w⟩=>?_;subst hr;show RR _ h (.ok .next) s4;have u:=w.base;have Zv:=w.Zv;have os:=w.os;have ar:=w.bare;obtain⟨m4,n4,_⟩:=w.loc;have fC:=w.free;subst m;have I5:zu X zq σ v s4:=K.P6 (ch:=f) os u Zv ar λb a=>{(r b a).2.2.2.1,(r b a).2.1,(r b a).2.2.2.2.1,(r b a).2.2.2.2.2};refine aw _ h v s4 I5 ⟨m4,n4⟩ ?_ qn;rw[<-hC];exact K.iD (Gm _) (by show v _=Ge;rw[hC];exact fC)
  .have d:=o.item j U V eK eC i [] s3 P v (λ_ _=>False) J3 (af ak) ao go;rw[T]at d;refine Yi d λac s4⟨u,hr,h4⟩=>?_;subst hr;refine Yi h4 λ_ s5⟨x,H5,J5,r5,y5,ae,au⟩=>?_;have aq:=J5.pinned (af au) (o.obj _ _ ae);refine Yi (Z _ s5 P H5 x u _ aq r5 (step x H5 y5)) λ_ s6⟨J,H6,J6,q6⟩=>?_;refine Yi (aa _ s6 J H6 _ J6 q6) λok s7⟨H7,J7,O⟩=>?_;have again:∀{D:Gk}{G:Hp},zu j ([]++jC f s5.heap) J G D->(∃N,N<n/\W (i+1) N J G)->∃M,M<n/\∃i I H',zu j [] I H' D/\H i D.heap/\(∀b∈f,H' b=Ge)/\W i M I H':=λ{D G}A⟨N,hm,w8⟩=>by refine{N,hm,i+1,J,G,A.O8,o.keep _ _ _ ae λb a B k=>(A.pin (b,B) (List.mem_append_right _ (List.mem_append_right _ (Jx a k)))).1,λb a=>?_,w8};obtain⟨B,k,d⟩:=o.obj _ _ ae b a;exact(A.pin (b,B) (List.mem_append_right _ (List.mem_append_right _ (Jx a k)))).2.1
   cases ok with
   |false=>rw[Gh GO]at O⊢;exact again J7 (av _ _ O)
   |true=>rw[Gn rfl]at O⊢;refine Yi (Y _ s7 J H7 _ J7 O) λxv D⟨aC,G,A,r8,q8⟩=>?_;obtain⟨ys,L,hz,q8⟩:=hN _ _ _ q8;obtain⟨z,its,n',ac,hl,k⟩:=A.iC L;refine Le Gy {_,k,Xb} Mq (FX _ _) (Fj e.heap.objs.size its.toArray n' xv (by rw[List.size_toArray];lia)) {k,?_};refine again (A.jV (its':=its++[xv]) (t':=D.toks) L k (by simp) (ac.append (.cons r8 .nil)) ?_) q8;rw[List.length_append,List.length_singleton];lia
 exact codeAny_compStart_list an (o.self X.A 0 _ _ _ ap an)
theorem yU{H:Hp}{s:Gk}(S:Wa X.env.scope scope)(I:zu X zq σ H s):
  ∃a:List (GY×Gc),closureFor scope X.env=pure a/\(∀x c,a.lookup x=Ga c->X.env.cells.lookup x=Ga c)/\(∀x,(x,Ts)∈scope.names->∃c,a.lookup x=Ga c):=
 Ha λx b=>I.ok.has x (S.fre (x,.free) b Xb)
theorem V0(E:X.calm=Gg)(S:Wa X.env.scope scope)(F:FV X scope fv)(L:PI X tg iter wi)
  (K:∀c C d s H,PG (ccx X (own++fv.map (·.2)) scope c C d s H) tg g)(O:∀c C d s H,iK (ccx X (own++fv.map (·.2)) scope c C d s H) ifs tt)(G:∀c C d s H,PE (ccx X (own++fv.map (·.2)) scope c C d s H) elt te)
  (N:∀x,foldedSetIterable iter X.env x=pure x:=by intro _;rfl):PE X (.ListComp elt [{tg,iter,ifs,0}] scope pos) (vU own.length fv wi g tt te):=by
 intro a s n H Q I h;rw[eval_ListComp];obtain⟨c,i,w,y⟩:=yU S I;refine SM (use:=Ge) rfl N i S.kind S.loc (Yi (L a s n H _ I h) λv Y A=>Yi A λP Z B=>?_);obtain⟨W,d,tn,J,U,e,u,T,l,z,q⟩:=B;subst e;refine xG (Q:=Q) (RR:=λb C=>compPost (Tb X.prog X.w) X.A X.xe Ge (EP X a n Q) b C) E S F w y K O G u T l z q λp C r R t j f M=>?_;obtain⟨m,j⟩:=j;refine{m,j,λV k=>{.ref p,r,?_,Xb,M}};exact t.turned (t':=R.toks) (λb o D e=>(k.2 b D).trans e) f.1 f.2.1 f.2.2.2.1 f.2.2.2.2.1 f.2.2.2.2.2
theorem R3{i:Nat}{y:GY}{h A:SX}(T:X.N.Nodup)(aa:X.N[i]?=Ga y)(w:X.env.scope.names.lookup y=Ga .local)(V:X.calm=Gg)(S:Wa X.env.scope scope)(F:FV X scope fv)(hi:PI X tg iter wi)
  (Z:∀e b f s c,PG (ccx X (own++fv.map (·.2)) scope e b f s c) tg g)(ht:∀e b f s c,iK (ccx X (own++fv.map (·.2)) scope e b f s c) ifs tt)(Y:∀e b f s c,PE (ccx X (own++fv.map (·.2)) scope e b f s c) elt te)
  (ac:swapsWith (.ListComp elt [{tg,iter,ifs,0}] scope pos) (Ga (.Name y h)) A.line X.env=pure Gg:=by rfl)
  (hs:∀x,foldedSetIterable iter X.env x=pure x:=by intro _;rfl):PS X (.Assign [.Name y h] (.ListComp elt [{tg,iter,ifs,0}] scope pos) A) (kY (vU own.length fv wi g tt te) (Vn i)):=by
 intro r s B c m u O;rw[exec_Assign_Name_used _ _ _ _ ac];obtain⟨e,W,L,M⟩:=yU S u;refine Gb (LM (Gb ?_));show wpAny _ X.A (do let _<-comprehension (.ListComp elt [{tg,iter,ifs,0}] scope pos) scope X.env _ (newList []) Gq (eval iter X.env) (Ga (assign (.Name y h) X.env))) _ _ s;refine Gb (DI (SM (use:=Ga (assign (.Name y h) X.env)) (Q:=λ_ l=>SP X r m .next l) rfl hs W S.kind S.loc (Yi (hi r s B c _ u O) λv s1 P=>Yi P λah s2 Q=>?_)) (λ_ l o=>Gf (Gf o)) λ_ _ j=>j);obtain⟨it,f,tn,ag,H2,j,H,I,af,N,q⟩:=Q;subst j;refine xG (Q:=λx D=>Vn i x B D m.nx) (RR:=λJ b=>compPost (Tb X.prog X.w) X.A X.xe (Ga (assign (.Name y h) X.env)) (λ_ l=>SP X r m .next l) J b) V S F L M Z ht Y H I af N q λp b C l E n d o=>?_;obtain⟨ad,n⟩:=n;show wpAny _ X.A (assign (.Name y h) X.env (.ref p)) _ _ _;refine Fa (xP E T aa (.inl w) (v:=.ref p) rfl (λae G t=>?_) (.inr w));obtain⟨a,t,k⟩:=t;have R:b≠a:=by
  rcases k with k|k
  .rw[k];exact d.2.1
  .exactλz=>d.2.2.2.2.1 y a k z.symm
 refine{ad,n.sameBut t R,λh' ab=>{_,C,?_,o}};exact G.turned (t':=ae.toks) (λK ai U j=>(ab.2 K U).trans j) d.1 d.2.1 d.2.2.2.1 d.2.2.2.2.1 d.2.2.2.2.2
end
theorem Jd{a p:Gc}{xs:List V}{g:TG}{t:TE}{Q:Hp->Prop}{j:St}{o:Hp}(h:xs.length<=Gj)(d:Nat->List V->St->Hp->Prop)(A:d 0 [] j (zj o p (.lst [])))
  (D:∀i b c H,i<=xs.length->d i b c H->Zz K H a xs)
  (E:∀i x b c H,xs[i]?=Ga x->b.length=i->d i b c H->H p=Ga (.lst b)->g x c H λk H2=>t k H2 λv r=>r p=Ga (.lst b)/\d (i+1) (b++[v]) k (zj r p (.lst (b++[v]))))
  (B:∀b c H,b.length=xs.length->d xs.length b c H->H p=Ga (.lst b)->Q H):iB p (ij K a) g ko t Q j (zj o p (.lst [])):=by
 exists λi m c H=>m=xs.length - i/\i<=xs.length/\∃b,b.length=i/\d i b c H/\H p=Ga (.lst b),{xs.length,by simp,Gw _,[],Xb,A,Qb};rintro i m c H ⟨rfl,C,b,n,pv,s⟩;have q:=D i b c H C pv;by_cases f:i<xs.length
 .refine .inr {{xs,xs[i],q,by simp[f]},λv h l=>l p=Ga (.lst b)/\d (i+1) (b++[v]) h (zj l p (.lst (b++[v]))),λ_ _=>False,λv h l⟨u,w⟩=>{b,u,by lia,xs.length - (i+1),by lia,Xb,f,b++[v],by simp[n],w,Qb},λ_ _ z=>z.elim,λx l y=>?_};obtain⟨e,y⟩:=y;subst e;exact E i x b c _ (y xs q) n pv s
 .have e:i=xs.length:=by lia
  subst e;exact .inl {{xs,q,Gm _},B b c H n pv s}
theorem oJ{a p:Gc}{xs:List V}{g:TG}{t:TE}{Q:Hp->Prop}{j:St}{o:Hp}(h:xs.length<=Gj)(d:Nat->List V->St->Hp->Prop)(A:d 0 [] j (zj o p (.lst [])))
  (D:∀i b c H,i<=xs.length->d i b c H->Zb K H a xs)
  (E:∀i x b c H,xs[i]?=Ga x->b.length=i->d i b c H->H p=Ga (.lst b)->g x c H λk H2=>t k H2 λv r=>r p=Ga (.lst b)/\d (i+1) (b++[v]) k (zj r p (.lst (b++[v]))))
  (B:∀b c H,b.length=xs.length->d xs.length b c H->H p=Ga (.lst b)->Q H):iB p (hV K a) g ko t Q j (zj o p (.lst [])):=by
 exists λi m c H=>m=xs.length - i/\i<=xs.length/\∃b,b.length=i/\d i b c H/\H p=Ga (.lst b),{xs.length,by simp,Gw _,[],Xb,A,Qb};rintro i m c H ⟨rfl,C,b,n,pv,s⟩;have q:=D i b c H C pv;by_cases f:i<xs.length
 .refine .inr {{xs,xs[i],q,by simp[f]},λv h l=>l p=Ga (.lst b)/\d (i+1) (b++[v]) h (zj l p (.lst (b++[v]))),λ_ _=>False,λv h l⟨u,w⟩=>{b,u,by ext,xs.length - (i+1),by ext,Xb,f,b++[v],by simp[n],w,Qb},λ_ _ z=>z.elim,λx l y=>?_};obtain⟨e,y⟩:=y;subst e;exact E i x b c _ (y xs q) n pv s
 .have e:i=xs.length:=by ext
  subst e;exact .inl {{xs,q,Gm _},B b c H n pv s}
mutual
inductive Dt(H:Hp):V->TW->Prop
 |non:Dt H .non .none
 |bl (b:Bool):Dt H (.bl b) (.bool b)
 |int (i:Int):Dt H (.int i) (.int i)
 |str (x:GY):Dt H (.str x) (.str x)
 |lst {a:Gc} {xs:List V} {ds:List TW}:H a=Ga (.lst xs)->O6 H xs ds->Dt H (.ref a) (.list ds)
 |tup {a:Gc} {xs:List V} {ds:List TW}:H a=Ga (.tup xs)->O6 H xs ds->Dt H (.ref a) (.tuple ds)
inductive O6(H:Hp):List V->List TW->Prop
 |nil:O6 H [] []
 |cons {x:V} {xs:List V} {d:TW} {ds:List TW}:Dt H x d->O6 H xs ds->O6 H (x::xs) (d::ds)
end
mutual
theorem Dt.same{H a:Hp}(e:Qx H a):∀{v:V}{d:TW},Dt H v d->Dt a v d
 |_,_,.non=>.non
 |_,_,.bl b=>.bl b
 |_,_,.int i=>.int i
 |_,_,.str x=>.str x
 |_,_,.lst h t=>.lst (e _ _ h) (O6.same e t)
 |_,_,.tup h t=>.tup (e _ _ h) (O6.same e t)
theorem O6.same{H a:Hp}(e:Qx H a):∀{c:List V}{b:List TW},O6 H c b->O6 a c b
 |_,_,.nil=>.nil
 |_,_,.cons h t=>.cons (Dt.same e h) (O6.same e t)
end
theorem O6.length{H:Hp}:∀{b:List V}{a:List TW},O6 H b a->b.length=a.length
 |_,_,.nil=>rfl
 |_,_,.cons _ t=>by rw[List.length_cons,List.length_cons,t.length]
theorem O6.get{H:Hp}:∀{b:List V}{a:List TW}{i:Nat}{x:V},O6 H b a->b[i]?=Ga x->∃d,a[i]?=Ga d/\Dt H x d
 |_,_,_,_,.nil,e=>by simp at e
 |_,_,0,_,.cons h _,e=>by simp at e;subst e;exact{_,Xb,h}
 |_,_,i+1,_,.cons _ t,e=>by obtain⟨d,c,f⟩:=O6.get (i:=i) t (by simpa using e);exact{d,by simpa using c,f}
mutual
theorem Dt.reads{P:Gi}{w:Gu}{H:Hp}{h:Heap}(ok:Ru P w H h):∀{v:V}{d:TW}{u:Value},Dt H v d->zm v u->∃c,LN h u d c
 |_,_,u,.non,r=>{[],by cases(show u=Value.none from r);exact .none}
 |_,_,u,.bl b,r=>{[],by cases(show u=Value.bool b from r);exact .bool b}
 |_,_,u,.int i,r=>{[],by obtain⟨t,e⟩:=(show∃t,u=Value.int i t from r);cases e;exact .int i t}
 |_,_,u,.str x,r=>{[],by obtain⟨t,e⟩:=(show∃t,u=Value.str x t from r);cases e;exact .str x t}
 |_,_,u,.lst (a:=a) (xs:=xs) e t,r=>by obtain⟨_,g,n,k,f⟩:=(show Z1 P w H h a (.lst xs)from ok a _ e);obtain⟨c,j⟩:=O6.reads ok t k;cases(show u=Value.ref a from r);exact{a::c,.list f rfl rfl (by simpa using j)}
 |_,_,u,.tup (a:=a) (xs:=xs) e t,r=>by obtain⟨_,g,k,o,f,b,n,l⟩:=(show Z1 P w H h a (.tup xs)from ok a _ e);obtain⟨c,j⟩:=O6.reads ok t k;cases(show u=Value.ref a from r);exact{c,.tuple f b l (by simpa using j)}
theorem O6.reads{P:Gi}{w:Gu}{H:Hp}{h:Heap}(ok:Ru P w H h):∀{e:List V}{b:List TW}{c:List Value},O6 H e b->Zt e c->∃a,E3 h c b a
 |_,_,_,.nil,.nil=>{[],.nil}
 |_,_,_,.cons d t,.cons r j=>by obtain⟨a,g⟩:=Dt.reads ok d r;obtain⟨f,i⟩:=O6.reads ok t j;exact{a++f,.cons g i}
end
inductive qP(f:Bool->Bool)(x:V)(y:V)(H:Hp)(Q:VK):Prop
 |mk (dx:_) (dy:_) (h0:Dt H x dx) (h1:Dt H y dy) (h2:dx.canLay0=Gg) (h3:dy.canLay0=Gg) (h4:min dx.depth dy.depth<=64) (h5:Q (.bl (f (TD dx dy))) H):qP f x y H Q
def zK(f:Bool->Bool):R2:=λx y H Q=>qP f x y H Q
section
variable{X:Cx}
theorem oE(a:X.A.units+64<DM):gi X (Dl .Eq) (zK λb=>b):=by intro a s r H x y v u Q I j k h;obtain⟨n,o,e,f,c,d,p,q⟩:=h;obtain⟨l,g⟩:=e.reads I.Zv j;obtain⟨m,i⟩:=f.reads I.Zv k;exact FP g i c d (by lia) {.bl _,H,I,Xb,q}
theorem nD(a:X.A.units+64<DM):gi X (Dl .NotEq) (zK λb=>!b):=by intro a s r H x y v u Q I j k h;obtain⟨n,o,e,f,c,d,p,q⟩:=h;obtain⟨l,g⟩:=e.reads I.Zv j;obtain⟨m,i⟩:=f.reads I.Zv k;exact FQ g i c d (by ext) {.bl _,H,I,Xb,q}
inductive vM(K:Gd)(xs:List V)(H:Hp)(Q:VK):Prop
 |mk (x:_) (n:_) (t:_) (b:_) (h0:xs=[x,.ty n]) (h1:Ro K H x t) (h2:Tf K t (.type n)=Ga b) (h3:Q (.bl b) H):vM K xs H Q
def PF(K:Gd):List V->Hp->VK->Prop:=λxs H Q=>vM K xs H Q
theorem Xi:V9 X (.builtin "isinstance") (PF X.K):=by intro a s k H j i Q I r h;obtain⟨x,n,t,b,rfl,ty,e,q⟩:=h;obtain⟨u,g,rfl,c,d⟩:=vals2 r;cases(show g=Value.type n from d);exact OT I c ty e λf=>{.bl b,H,I.tok f,Xb,q}
inductive wQ(K:Gd)(xs:List V)(H:Hp)(Q:VK):Prop
 |mk (x:_) (p:_) (n:_) (m:_) (t:_) (b:_) (h0:xs=[x,.ref p]) (h1:H p=Ga (.tup [.ty n,.ty m])) (h2:Ro K H x (.type t)) (h3:D0 K (.type t) [.type n,.type m]=Ga b) (h4:Q (.bl b) H):wQ K xs H Q
def By(K:Gd):List V->Hp->VK->Prop:=λxs H Q=>wQ K xs H Q
theorem AW:V9 X (.builtin "isinstance") (By X.K):=by
 intro z s V H v Y Q I r h;obtain⟨x,p,n,m,t,b,rfl,J,ty,e,q⟩:=h;obtain⟨u,U,rfl,f,R⟩:=vals2 r;cases(show U=Value.ref p from R);obtain⟨_,K,P,o,d,F,k,G⟩:=(show Z1 X.prog X.w H s.heap p (.tup [.ty n,.ty m])from I.Zv p _ J);obtain⟨S,T,C,N,O⟩:=vals2 P;subst C;cases(show S=Value.type n from N);cases(show T=Value.type m from O);obtain⟨M,W,A,os⟩:=o;cases(show M=Value.type "tuple"from F);cases(show A=Bs _ k from G);have c:∀B,EP X z V Q (.bool b) {s with toks:=B}:=λB=>{.bl b,H,I.tok B,Xb,q};cases ty with
 |non=>cases(show u=Value.none from f);exact Do Fc I.Il Tu d e nofun c
 |bl y=>cases(show u=Value.bool y from f);exact Do Fd I.Il Tu d e nofun c
 |int i=>obtain⟨t,q⟩:=(show∃t,u=Value.int i t from f);cases q;exact Do Fw I.Il Tu d e nofun c
 |str y=>obtain⟨t,q⟩:=(show∃t,u=Value.str y t from f);cases q;exact Do Fy I.Il Tu d e nofun c
 |flt y=>obtain⟨t,q⟩:=(show∃t,u=Value.float y t from f);cases q;exact Do LW I.Il Tu d e nofun c
 |@lst a v g=>cases(show u=Value.ref a from f);obtain⟨_,_,n,_,j⟩:=(show Z1 X.prog X.w H s.heap a (.lst v)from I.Zv a _ g);exact Do EK I.Il {_,j,Xb} d e nofun c
 |@frz a L v g=>cases(show u=Value.ref a from f);obtain⟨_,_,_,n,_,j⟩:=(show Z1 X.prog X.w H s.heap a (.frz L (.lst v))from I.Zv a _ g);exact Do EK I.Il {_,j,Xb} d e nofun c
 |@tup a v g=>cases(show u=Value.ref a from f);obtain⟨_,_,_,p⟩:=(show Z1 X.prog X.w H s.heap a (.tup v)from I.Zv a _ g);obtain⟨o,j,w,_⟩:=p;exact Do LX I.Il ⟨o,j,w⟩ d e nofun c
 |@dK a l g=>cases(show u=Value.ref a from f);obtain⟨_,_,L,_,p⟩:=(show Z1 X.prog X.w H s.heap a (.dK l)from I.Zv a _ g);obtain⟨o,E,D,j,w,_⟩:=p;exact Do EL I.Il {o,j,w.1} d e nofun c
 |@dT a l g=>cases(show u=Value.ref a from f);obtain⟨_,_,v,_,o,E,D,j,w,_⟩:=(show Z1 X.prog X.w H s.heap a (.dT l)from I.Zv a _ g);exact Do EL I.Il {o,j,w.1} d e nofun c
end
theorem vm:Tf K (.type "list") (.type "list")=Ga Gg:=by rfl
theorem rG:Tf K (.type "tuple") (.type "tuple")=Ga Gg:=by rfl
theorem UF:Tf K (.type "list") (.type "tuple")=Ga Gq:=by kernel_rfl
theorem vV:Tf K (.type "tuple") (.type "list")=Ga Gq:=by kernel_rfl
theorem zi:Tf K (.type "str") (.type "str")=Ga Gg:=by rfl
theorem C9:Tf K (.type "bool") (.type "str")=Ga Gq:=by kernel_rfl
theorem K4:Tf K (.type "int") (.type "str")=Ga Gq:=by kernel_rfl
theorem C4:Tf K (.type "NoneType") (.type "str")=Ga Gq:=by kernel_rfl
theorem uR:Tf K (.type "bool") (.type "bool")=Ga Gg:=by rfl
theorem nz:Tf K (.type "int") (.type "bool")=Ga Gq:=by kernel_rfl
theorem KQ:Tf K (.type "NoneType") (.type "bool")=Ga Gq:=by kernel_rfl
theorem qX:Tf K (.type "int") (.type "int")=Ga Gg:=by rfl
theorem Aq:D0 K (.type "list") [.type "list",.type "tuple"]=Ga Gg:=by rfl
theorem JY:D0 K (.type "tuple") [.type "list",.type "tuple"]=Ga Gg:=by unfold D0;rw[vV];rfl
theorem lj{t:String}(a:Tf K (.type t) (.type "list")=Ga Gq)(b:Tf K (.type t) (.type "tuple")=Ga Gq):D0 K (.type t) [.type "list",.type "tuple"]=Ga Gq:=by unfold D0;rw[a];unfold D0;rw[b];rfl
theorem JX:Tf K (.type "str") (.type "list")=Ga Gq:=by kernel_rfl
theorem PY:Tf K (.type "str") (.type "tuple")=Ga Gq:=by kernel_rfl
theorem IV:Tf K (.type "int") (.type "list")=Ga Gq:=by kernel_rfl
theorem Av:Tf K (.type "int") (.type "tuple")=Ga Gq:=by kernel_rfl
theorem AX:Tf K (.type "bool") (.type "list")=Ga Gq:=by kernel_rfl
theorem Cc:Tf K (.type "bool") (.type "tuple")=Ga Gq:=by kernel_rfl
theorem UC:Tf K (.type "NoneType") (.type "list")=Ga Gq:=by kernel_rfl
theorem IG:Tf K (.type "NoneType") (.type "tuple")=Ga Gq:=by kernel_rfl
end L2
namespace PySem
section
variable{prog:Gi}{w:Gu}{A:TL}{E:Value->Gk->Prop}{s:Gk}
open PyProof.Rows
def Heap.n7(h:Heap)(a l:Gc)(i:Int):Prop:=∃o,h.get? a=Ga o/\o.cls=.type "reversed"/\o.data=.fields #[.ref l,rawInt i]
theorem Heap.n7.at{h b:Heap}{a l:Gc}{i:Int}(x:h.n7 a l i)(e:∀o,h.get? a=Ga o->b.get? a=Ga o):b.n7 a l i:=let⟨o,ho,r⟩:=x;{o,e _ ho,r}
end
section
variable{prog:Gi}{w:Gu}{K:Type}[DecidableEq K]{knd:NN prog w K}{A:TL}{E:Value->Gk->Prop}{s:Gk}
theorem Uj{d a:Gc}{l:List (K×Gc×Value)}{k:K}{dflt:Value}{Q:Value->Gk->Prop}(t:knd.room A)(b:knd.is s.heap k a)(B:s.heap.DictOfH knd d l)
  (c:∀p,atKey l k=Ga p->Q p.2 {s with toks:=s.toks+knd.draws k})
  (n:atKey l k=Ge->∀e,e.DictOfH knd d (l++[(k,a,dflt)])->Heap.SameBut d s.heap e->Q dflt {s with heap:=e,toks:=s.toks+knd.draws k})
  (e:l.length<=Gj):
  wpAny (Tb prog w) A (dictSetDefault d (.ref a) dflt) Q E s:=by
 obtain⟨o,e,v,i,z,h,q,m,r⟩:=B;unfold dictSetDefault;try with_reducible refine T5 ?_
 refine Gb (knd.pyHash t b ?_);refine Gb (wpAny_dictFind_heap (s:={s with toks:=s.toks+knd.draws k}) t b i h q m r ?_ ?_)
 .intro j;have o:k∉l.map (·.1):=not_mem_keys_of_get j;have g:=atKey_none_of_get j;refine Gb (EV (Gb (wpAny_updateDictKeys (hz:=by have e:=size_of_entries q;ext) (s:={s with toks:=s.toks+knd.draws k}) i h (Gf (n g _ ⟨_,_,v+1,Heap.get?_update_self _ i (Obj.isFreed_of_dict (Lx h _)),
   z.mapDictKeys _,Lx h _,?_,?_,?_⟩ (Heap.SameBut.update ..))))))
  .simp[q,entryOfKey]
  .intro x f;rcases List.mem_append.mp f with f|f
   .exact knd.keeps (m x f) i h (Heap.SameBut.update ..)
   .simp only[List.mem_singleton]at f;subst f;exact knd.keeps b i h (Heap.SameBut.update ..)
  .rw[List.map_append,List.nodup_append];exists r,(by simp);intro x f y u;simp only[List.map_cons,List.map_nil,List.mem_singleton]at u;subst u;exactλe=>o (e▸f)
 .intro j p e;have g:=atKey_of_get r e;refine Gb (DA (s:={s with toks:=s.toks+knd.draws k}) i h ?_);rw[entry_at q j,e];exact Gb (EV (Gf (c p g)))
theorem W8(b:NN prog w K)(d a:Gc)(m:(d==T8)=Gq)(dflt:Value):
  MeetsIn prog w (Builtin.«dict.setdefault» {[.ref d,.ref a,dflt],[]}) (λA R s=>b.room A.in1/\∃k c,b.is s.heap k a/\s.heap.DictOfH b d c/\c.length<=Gj/\
   (∀p,atKey c k=Ga p->R (.ok (.ret p.2)) {s with toks:=s.toks+b.draws k})/\
   (atKey c k=Ge->∀e,e.DictOfH b d (c++[(k,a,dflt)])->Heap.SameBut d s.heap e->R (.ok (.ret dflt)) {s with heap:=e,toks:=s.toks+b.draws k})):=
 .of_wp λA R s⟨o,k,c,f,i,q,j,l⟩=>by unfold Builtin.«dict.setdefault»;refine Gb ?_;unfold Builtin.Dict.keyAndDefault;refine Gb (ES i.typeIs ?_);show wpAny _ _ (pure (d,Value.ref a,Ga dflt)) _ _ s;refine Gf ?_;show wpAny _ _ (if(d==T8)=Gg then _ else(dictSetDefault d (.ref a) dflt>>=_)) _ _ s;rw[Gh (by rw[m];exact GO)];exact Gb (Uj o f i (λp g=>Gf {p.2,Xb,j p g}) (λn e g h=>Gf {dflt,Xb,l n e g h}) q)
end
end PySem
namespace L2
open PySem PySem.Spec PyProof.Rows
section
variable{X:Cx}{tg:TY}
inductive vi(x:V)(vs:List V)(H:Hp)(Q:VK):Prop
 |mk (d:_) (b:_) (dv:_) (zw:_) (k:_) (h0:x=.ref d) (h1:vs=[.ref b,dv]) (h2:H d=Ga (.dT zw)) (h3:H b=Ga (.tup (k.map kV))) (h4:zw.length<Gj) (h5:(∀v,Yt zw k=Ga v->Q v H)) (h6:(Yt zw k=Ge->Q dv (zj H d (.dT (zw++[(k,dv)]))))):vi x vs H Q
def Cv:V->List V->Hp->VK->Prop:=λx a H Q=>vi x a H Q
theorem Bz(O:X.A.units+1<DM):ig X "dict.setdefault" Cv:=by
 intro w s aa H x vs v us Q I V U h;obtain⟨d,b,l,a,k,rfl,rfl,e,o,Z,R,S⟩:=h;cases(show v=Value.ref d from V);obtain⟨W,B,rfl,T,A⟩:=vals2 U;cases(show W=Value.ref b from T);obtain⟨z,t,m,f,n⟩:=wx I.Zv e;have P:a.length=m.length:=Gr f;refine Si F.slot_dict_setdefault n.typeIs F.entry_dict_setdefault (F.args_dict_setdefault_3 _ _ _) (W8 (tupleKind (Ya X.prog X.w)) d b t B) {DZ O,k,m,Of I.Zv o,n,by lia,λp M=>?_,λL Y j N=>?_}
 .have g:=f.val k;rw[M]at g;cases q:Yt a k with
  |none=>rw[q]at g;exact(show False from g).elim
  |some y=>rw[q]at g;exact{y,H,I.tok _,g,R y q}
 .have g:=f.val k;rw[L]at g;cases q:Yt a k with
  |some y=>rw[q]at g;exact(show False from g).elim
  |none=>obtain⟨ob,D,C,u,E,G,J,_,K⟩:=j;have i:KT H (a++[(k,l)]) (m++[(k,b,B)]):=DN f ⟨Xb,o,A⟩;refine{l,_,Jr (ob:=.dT (a++[(k,l)])) I (by rw[e];exact Tu) N ⟨ob,u⟩ {by rw[List.length_append,List.length_singleton];lia,t,_,i.keeps λc ys r=>?_,ob,D,C,u,E,G,J,K},A,S q};rw[Qg (Zi r e nofun)];exact r
end
theorem Qf{H:Hp}{p:Gc}(h:H p=Ge)(o:HO):Qx H (zj H p o):=λb u q=>by rw[Qg (Qc q h)];exact q
theorem nd1(x:GY):[x].Nodup:=by simp
theorem small{n:Nat}(h:n<=16000000):n<=Gj:=by rw[Gz];ext
end L2
namespace Sb
open PySem
inductive Th where
 |mk (w:GY) (ps:List Th)
mutual
def Th.size:Th->Nat
 |.mk _ ps=>Qs ps+1
def Qs:List Th->Nat
 |[]=>0
 |p::r=>p.size+Qs r
end
mutual
def Th.depth:Th->Nat
 |.mk _ ps=>X6 ps+1
def X6:List Th->Nat
 |[]=>0
 |p::r=>max p.depth (X6 r)
end
mutual
def Th.inside:Th->List Th
 |.mk w ps=>Zd ps++[.mk w ps]
def Zd:List Th->List Th
 |[]=>[]
 |p::r=>p.inside++Zd r
end
mutual
def Th.toD:Th->TW
 |.mk w ps=>.tuple (.str w::Wg ps)
def Wg:List Th->List TW
 |[]=>[]
 |p::r=>p.toD::Wg r
end
mutual
def Th.ok:Th->Bool
 |.mk w ps=>Dc w&&okL ps
def okL:List Th->Bool
 |[]=>Gg
 |p::r=>p.ok&&okL r
end
def Rz(w:GY):Bool:=Dc w&&decide (w.length<=200)
theorem Rz.str{w:GY}(h:Rz w=Gg):Dc w=Gg:=(DL.mp h).1
theorem Rz.len{w:GY}(h:Rz w=Gg):w.length<=200:=TU (DL.mp h).2
mutual
def Th.short:Th->Bool
 |.mk w ps=>decide (w.length<=200)&&Jp ps
def Jp:List Th->Bool
 |[]=>Gg
 |p::r=>p.short&&Jp r
end
theorem yY:∀a:List Th,Jp a=a.all Th.short
 |[]=>by simp[Jp]
 |t::r=>by simp[Jp,yY r]
def Th.word:Th->GY
 |.mk w _=>w
def Th.parts:Th->List Th
 |.mk _ ps=>ps
theorem Uv:∀a:List Th,okL a=a.all Th.ok
 |[]=>by simp[okL]
 |t::r=>by simp[okL,Uv r]
mutual
theorem OD:∀t:Th,t.inside.length=t.size
 |.mk w a=>by simp[Th.inside,Th.size,Us a]
theorem Us:∀a:List Th,(Zd a).length=Qs a
 |[]=>by simp[Zd,Qs]
 |p::r=>by simp[Zd,Qs,OD p,Us r]
end
theorem O3(t:Th):1<=t.size:=by cases t;simp[Th.size]
theorem qg(t:Th):1<=t.depth:=by cases t;simp[Th.depth]
theorem rj:∀{a:List Th}{t:Th},t∈a->t.size<=Qs a
 |p::r,t,h=>by
  rcases List.mem_cons.mp h with rfl|h
  .simp[Qs]
  .have:=rj h;simp only[Qs];ext
theorem X7:∀{a:List Th}{t:Th},t∈a->t.depth<=X6 a
 |p::r,t,h=>by
  rcases List.mem_cons.mp h with rfl|h
  .simp only[X6];lia
  .have:=X7 h;simp only[X6];lia
theorem Zj:∀a:List Th,a.length<=Qs a
 |[]=>by simp[Qs]
 |p::r=>by have:=O3 p;have:=Zj r;simp only[Qs,List.length_cons];lia
mutual
theorem K6:∀(t:Th){s:Th},s∈t.inside->s.size<=t.size
 |.mk w a,s,h=>by
  simp only[Th.inside,List.mem_append,List.mem_singleton]at h;rcases h with h|rfl
  .have:=O2 a h;simp only[Th.size];ext
  .exact Gm _
theorem O2:∀(a:List Th){s:Th},s∈Zd a->s.size<=Qs a
 |p::r,s,h=>by
  simp only[Zd,List.mem_append]at h;rcases h with h|h
  .have:=K6 p h;simp only[Qs];ext
  .have:=O2 r h;simp only[Qs];ext
 |[],s,h=>by simp[Zd]at h
end
theorem si(t:Th):t∈t.inside:=by cases t;simp[Th.inside]
theorem Xu:∀a:List Th,Zd a=a.flatMap Th.inside
 |[]=>by simp[Zd]
 |p::r=>by simp[Zd,Xu r]
theorem P1{x y:GY}:(x==y)=decide (x=y):=by
 by_cases h:x=y
 .subst h;simp
 .simp[h]
mutual
theorem Jt:∀s t:Th,TD s.toD t.toD=Gg↔s=t
 |.mk w a,.mk v b=>by simp only[Th.toD,TD,TC,Td,Th.mk.injEq];rw[vW a b,P1,decide_eq_true_iff]
theorem vW:∀a b:List Th,TC (Wg a) (Wg b)=Gg↔a=b
 |[],[]=>by simp[Wg,TC]
 |[],t::r=>by simp[Wg,TC]
 |s::r,[]=>by simp[Wg,TC]
 |s::r,t::q=>by simp only[Wg,TC,Td,List.cons.injEq];rw[Jt s t,vW r q]
end
instance:DecidableEq Th:=λs t=>if h:TD s.toD t.toD=Gg then .isTrue ((Jt s t).mp h)else .isFalse λe=>h ((Jt s t).mpr e)
theorem zh(s t:Th):TD s.toD t.toD=decide (s=t):=by
 by_cases h:s=t
 .rw[Tc h];exact(Jt s t).mpr h
 .rw[GQ h];exact SE.mpr λe=>h ((Jt s t).mp e)
mutual
theorem jf:∀t:Th,t.ok=Gg->t.toD.canLay0=Gg
 |.mk w a,h=>by simp only[Th.ok,Td]at h;simp only[Th.toD,Tt,Gx,Td];exact{h.1,lO a h.2}
theorem lO:∀a:List Th,okL a=Gg->Gx (Wg a)=Gg
 |[],_=>by simp[Wg,Gx]
 |t::r,h=>by simp only[okL,Td]at h;simp only[Wg,Gx,Td];exact{jf t h.1,lO r h.2}
end
mutual
theorem V2:∀t:Th,t.toD.depth=t.depth
 |.mk w a=>by simp only[Th.toD,DK,Tv,Th.depth,yN a];lia
theorem yN:∀a:List Th,Tv (Wg a)=X6 a
 |[]=>by simp[Wg,Tv,X6]
 |t::r=>by simp[Wg,Tv,X6,V2 t,yN r]
end
def Yq(a:List Th)(xs:List Th):List Th:=xs.foldl (λa x=>if x∈a then a else a++[x]) a
theorem Iw(a:List Th):Yq a []=a:=rfl
theorem Rk(a:List Th)(x:Th)(r:List Th):Yq a (x::r)=Yq (if x∈a then a else a++[x]) r:=rfl
theorem Ut(a b c:List Th):Yq a (b++c)=Yq (Yq a b) c:=by unfold Yq;rw[List.foldl_append]
theorem IR(a b:List Th)(y:Th):Yq a (b++[y])=if y∈Yq a b then Yq a b else Yq a b++[y]:=by rw[Ut];rfl
theorem oQ:∀(c b:List Th)(y:Th),y∈Yq b c↔y∈b\/y∈c
 |[],b,y=>by simp[Iw]
 |x::r,b,y=>by
  rw[Rk,oQ r];by_cases h:x∈b
  .rw[Gn h];constructor
   .rintro(a|a)
    .exact .inl a
    .exact .inr (List.mem_cons_of_mem _ a)
   .rintro(a|a)
    .exact .inl a
    .rcases List.mem_cons.mp a with rfl|a
     .exact .inl h
     .exact .inr a
  .rw[Gh h];simp only[List.mem_append,List.mem_cons,List.not_mem_nil,E4];constructor
   .rintro((a|a)|a)
    .exact .inl a
    .exact .inr (.inl a)
    .exact .inr (.inr a)
   .rintro(a|a|a)
    .exact .inl (.inl a)
    .exact .inl (.inr a)
    .exact .inr a
theorem rC:∀(b a:List Th),(∀x∈b,x∈a)->Yq a b=a
 |[],_,_=>rfl
 |x::r,a,h=>by rw[Rk,Gn (h x List.mem_cons_self)];exact rC r a λy c=>h y (List.mem_cons_of_mem _ c)
theorem mo:∀(b a:List Th),(Yq a b).length<=a.length+b.length
 |[],a=>by simp[Iw]
 |x::r,a=>by
  rw[Rk];have:=mo r (if x∈a then a else a++[x]);split at this
  .rename_i h
   rw[Gn h];simp only[List.length_cons];lia
  .rename_i h
   rw[Gh h];simp only[List.length_append,List.length_cons,List.length_nil]at this⊢;lia
def V5(ts:List Th):Prop:=∀t∈ts,∀s∈t.inside,s∈ts
theorem KW:V5 []:=λ_ h=>by simp at h
theorem zc{a:List Th}{t:Th}(h:V5 a)(b:t∈a):Yq a t.inside=a:=rC _ _ λx c=>h t b x c
theorem Vo:∀(b a:List Th),∃m,Yq a b=a++m
 |[],a=>{[],by simp[Iw]}
 |x::r,a=>by
  rw[Rk];split
  .exact Vo r a
  .obtain⟨m,e⟩:=Vo r (a++[x]);exact{x::m,by rw[e];simp}
def mX(t:Th):List GY:=t.word::t.parts.map Th.word
end Sb
namespace L2
open PySem PySem.Spec PyProof.Rows
theorem gY(x:V)(a:List V):Ul (x::a) (Ga 1) Ge=a:=by
 have e:HT.Wr (x::a).length 0 (Ga 1)=1:=by have q:=HT.Jo (x::a).length 0 1;rw[List.length_cons]at q⊢;refine q.trans ?_;lia
 unfold Ul;rw[e,HT.Iz];simp
theorem Wz(x:V)(a:List V):¬(HT.Wr (x::a).length 0 (Ga 1)=0/\HT.Wr (x::a).length (x::a).length Ge=(x::a).length):=by
 have e:HT.Wr (x::a).length 0 (Ga 1)=1:=by have q:=HT.Jo (x::a).length 0 1;rw[List.length_cons]at q⊢;refine q.trans ?_;ext
 rw[e];rintro⟨h,_⟩;exact absurd h (by decide)
end L2
namespace Sb
open PySem PySem.Spec PyProof.Rows L2
variable{H H':Hp}{v:V}{t:Th}
mutual
inductive Z2(H:Hp):V->Th->Prop
 |mk {a:Gc} {w:GY} {vs:List V} {ps:List Th}:H a=Ga (.tup (.str w::vs))->Zp H vs ps->Z2 H (.ref a) (.mk w ps)
inductive Zp(H:Hp):List V->List Th->Prop
 |nil:Zp H [] []
 |cons {v:V} {vs:List V} {t:Th} {ts:List Th}:Z2 H v t->Zp H vs ts->Zp H (v::vs) (t::ts)
end
def Qp(H H':Hp):Prop:=∀b xs,H b=Ga (.tup xs)->H' b=Ga (.tup xs)
theorem Qp.of(e:Qx H H'):Qp H H':=λb a h=>e b _ h
theorem Qp.trans{d e:Hp}(a:Qp H d)(b:Qp d e):Qp H e:=λc f h=>b c f (a c f h)
theorem Zk{a:Gc}{o:HO}(h:∀c,H a≠Ga (.tup c)):Qp H (zj H a o):=λb c e=>by
 by_cases d:b=a
 .subst d;exact absurd e (h c)
 .rw[Qg d];exact e
mutual
theorem Z2.Ql{H a:Hp}(e:Qp H a):∀{v:V}{t:Th},Z2 H v t->Z2 a v t
 |_,_,.mk h r=>.mk (e _ _ h) (Zp.Ql e r)
theorem Zp.Ql{H a:Hp}(e:Qp H a):∀{c:List V}{b:List Th},Zp H c b->Zp a c b
 |_,_,.nil=>.nil
 |_,_,.cons h r=>.cons (Z2.Ql e h) (Zp.Ql e r)
end
theorem Z2.same(e:Qx H H')(h:Z2 H v t):Z2 H' v t:=h.Ql (Qp.of e)
theorem Zp.same(e:Qx H H'){b:List V}{a:List Th}(h:Zp H b a):Zp H' b a:=h.Ql (Qp.of e)
mutual
theorem Z2.dt{H:Hp}:∀{v:V}{t:Th},Z2 H v t->Dt H v t.toD
 |_,_,.mk (w:=w) (ps:=ps) h r=>by
  have e:(Th.mk w ps).toD=.tuple (.str w::Wg ps):=by simp[Th.toD]
  rw[e];exact .tup h (.cons (.str w) (Zp.dts r))
theorem Zp.dts{H:Hp}:∀{b:List V}{a:List Th},Zp H b a->O6 H b (Wg a)
 |_,_,.nil=>by simp only[Wg];exact .nil
 |_,_,.cons h r=>by simp only[Wg];exact .cons (Z2.dt h) (Zp.dts r)
end
theorem Z2.inv(h:Z2 H v t):∃a w c b,v=.ref a/\t=.mk w b/\H a=Ga (.tup (.str w::c))/\Zp H c b:=by
 cases h with
 |mk h r=>exact{_,_,_,_,Xb,Xb,h,r}
theorem Zp.length{H:Hp}:∀{b:List V}{a:List Th},Zp H b a->b.length=a.length
 |_,_,.nil=>rfl
 |_,_,.cons _ t=>by rw[List.length_cons,List.length_cons,t.length]
theorem Zp.append{H:Hp}:∀{d c:List V}{b a:List Th},Zp H d b->Zp H c a->Zp H (d++c) (b++a)
 |_,_,_,_,.nil,t=>t
 |_,_,_,_,.cons h r,t=>.cons h (r.append t)
theorem Zp.one(h:Z2 H v t):Zp H [v] [t]:=.cons h .nil
theorem Zp.get{H:Hp}:∀{b:List V}{a:List Th}{i:Nat}{v:V},Zp H b a->b[i]?=Ga v->∃t,a[i]?=Ga t/\Z2 H v t
 |_,_,_,_,.nil,e=>by simp at e
 |_,_,0,_,.cons h _,e=>by simp at e;subst e;exact{_,Xb,h}
 |_,_,i+1,_,.cons _ t,e=>by obtain⟨d,c,f⟩:=Zp.get (i:=i) t (by simpa using e);exact{d,by simpa using c,f}
theorem Zp.at{H:Hp}{b:List V}{a:List Th}{i:Nat}{t:Th}(h:Zp H b a)(e:a[i]?=Ga t):∃v,b[i]?=Ga v/\Z2 H v t:=by
 have g:i<a.length:=(List.getElem?_eq_some_iff.mp e).1;have d:i<b.length:=by rw[h.length];exact g
 obtain⟨j,c,f⟩:=h.get (List.getElem?_eq_getElem d);rw[e]at c;cases c;exact{_,List.getElem?_eq_getElem d,f}
mutual
def Oq:TW->Nat
 |.none=>1|.bool _=>1|.int _=>1|.str _=>1
 |.list xs=>Z3 xs+1
 |.tuple xs=>Z3 xs+1
 |.dict _=>1
def Z3:List TW->Nat
 |[]=>0
 |x::r=>Oq x+Z3 r
end
theorem uH(d:TW):1<=Oq d:=by cases d<;>simp[Oq]
theorem Wd:∀b a:List TW,Z3 (b++a)=Z3 b+Z3 a
 |[],a=>by simp[Z3]
 |x::r,a=>by simp only[List.cons_append,Z3,Wd r a];lia
theorem U2:∀a:List TW,a.length<=Z3 a
 |[]=>by simp[Z3]
 |x::r=>by have:=uH x;have:=U2 r;simp only[Z3,List.length_cons];lia
theorem Im:∀(a:List Th)(n:Nat),(∀t∈a,t.size<=n)->Qs a<=a.length*n
 |[],n,_=>by simp[Qs]
 |t::r,n,h=>by have c:=h t List.mem_cons_self;have d:=Im r n λs b=>h s (List.mem_cons_of_mem _ b);simp only[Qs,List.length_cons];rw[El];lia
structure Drawn(ts:List Th)(m:Nat):Prop where
 len:ts.length=3+m
 ok:∀t∈ts,t.ok=Gg
 dep:∀(j:Nat)t,ts[j]?=Ga t->t.depth<=j+1
 one:∀(j:Nat)t,ts[j]?=Ga t->j<=2->t.size<=1
 two:∀(j:Nat)t,ts[j]?=Ga t->j<=3->t.size<=4
 tri:∀(j:Nat)t,ts[j]?=Ga t->j<=4->t.size<=10
 any:∀(j:Nat)t,ts[j]?=Ga t->t.size<=12*j+1
 sh:∀t∈ts,t.short=Gg
 tab:ts[1]?=Ga (.mk "tab" [])
 cl:∀t∈ts,∀p∈t.parts,p∈ts
inductive wh(K:Gd)(vs:List V)(H:Hp)(Q:VK):Prop
 |mk (a:Gc) (ns:List Int) (h0:vs=[.ref a]) (h1:Zb K H a (ns.map V.int)) (h2:ns.length<=63) (h3:∀(r:Gc)(us:List V)(ts:List Th)(H':Hp),Qx H H'->H r=Ge->H' r=Ga (.lst us)->Zp H' us ts->Drawn ts ns.length->Q (.ref r) H'):wh K vs H Q
def yc(K:Gd):Sp:=λa H Q _=>wh K a H Q
inductive rL(vs:List V)(H:Hp)(Q:VK):Prop
 |mk (n:Int) (h0:vs=[.int n]) (h1:∀(x:GY),Rz x=Gg->Q (.str x) H):rL vs H Q
def uj:Sp:=λa H Q _=>rL a H Q
inductive zB(vs:List V)(H:Hp)(Q:VK):Prop
 |mk (x:V) (y:V) (d:TW) (h0:vs=[x,y]) (h1:Dt H x d) (h2:Dt H y d) (h3:d.canLay0=Gg) (h4:Oq d<=1000000) (h5:d.depth<=60) (h6:∀(H':Hp),Qx H H'->Q (.bl Gg) H'):zB vs H Q
def nR:Sp:=λa H Q _=>zB a H Q
inductive vS(K:Gd)(vs:List V)(H:Hp)(Q:VK):Prop
 |mk (a:Gc) (ns:List Int) (h0:vs=[.ref a]) (h1:Zb K H a (ns.map V.int)) (h2:ns.length<=63) (h3:∀H',Q (.bl Gg) H'):vS K vs H Q
def lW(K:Gd):Sp:=λa H Q _=>vS K a H Q
end Sb
namespace L2
open PySem PySem.Spec PyProof.Rows
inductive KD where
 |int (i:Int)
 |str (x:GY)
 |tup (xs:List KD)
mutual
def KD.toD:KD->TW
 |.int i=>.int i
 |.str x=>.str x
 |.tup xs=>.tuple (U3 xs)
def U3:List KD->List TW
 |[]=>[]
 |x::r=>x.toD::U3 r
end
mutual
def KD.depth:KD->Nat
 |.int _=>0
 |.str _=>0
 |.tup xs=>Iv xs+1
def Iv:List KD->Nat
 |[]=>0
 |x::r=>max x.depth (Iv r)
end
mutual
def KD.hash(w:Gu):KD->Int
 |.int i=>hashInt i
 |.str x=>hashStr w x
 |.tup xs=>reduceHash (Builtin.Tuple.tupleHashOf (V8 w xs))
def V8(w:Gu):List KD->List Int
 |[]=>[]
 |x::r=>x.hash w::V8 w r
end
mutual
def KD.draws:KD->Nat
 |.int _=>1
 |.str _=>1
 |.tup xs=>Xz xs+1
def Xz:List KD->Nat
 |[]=>0
 |x::r=>x.draws+Xz r
end
theorem Kc:∀a:List KD,U3 a=a.map KD.toD
 |[]=>by simp[U3]
 |x::r=>by simp[U3,Kc r]
theorem rq(w:Gu):∀a:List KD,V8 w a=a.map (KD.hash w)
 |[]=>by simp[V8]
 |x::r=>by simp[V8,rq w r]
theorem Iu:∀b a:List KD,Xz (b++a)=Xz b+Xz a
 |[],a=>by simp[Xz]
 |x::r,a=>by simp only[List.cons_append,Xz,Iu r a];lia
theorem qi:∀{xs:List KD}{x:KD},x∈xs->x.depth<=Iv xs
 |y::r,x,h=>by
  simp only[Iv];rcases List.mem_cons.mp h with rfl|h
  .lia
  .have:=qi h;lia
mutual
theorem j9:∀a b:KD,TD a.toD b.toD=Gg↔a=b
 |.int i,.int j=>by simp[KD.toD,TD]
 |.int i,.str y=>by simp[KD.toD,TD]
 |.int i,.tup d=>by simp[KD.toD,TD]
 |.str x,.int j=>by simp[KD.toD,TD]
 |.str x,.str y=>by simp[KD.toD,TD]
 |.str x,.tup d=>by simp[KD.toD,TD]
 |.tup c,.int j=>by simp[KD.toD,TD]
 |.tup c,.str y=>by simp[KD.toD,TD]
 |.tup c,.tup d=>by simp only[KD.toD,TD,KD.tup.injEq];exact qC c d
theorem qC:∀a b:List KD,TC (U3 a) (U3 b)=Gg↔a=b
 |[],[]=>by simp[U3,TC]
 |[],_::_=>by simp[U3,TC]
 |_::_,[]=>by simp[U3,TC]
 |x::r,y::q=>by simp only[U3,TC,Td,List.cons.injEq];rw[j9 x y,qC r q]
end
instance:DecidableEq KD:=λa b=>if h:TD a.toD b.toD=Gg then .isTrue ((j9 a b).mp h)else .isFalse λe=>h ((j9 a b).mpr e)
theorem Hc(a b:KD):TD a.toD b.toD=decide (a=b):=by
 by_cases h:a=b
 .rw[Tc h];exact(j9 a b).mpr h
 .rw[GQ h];exact SE.mpr λe=>h ((j9 a b).mp e)
mutual
theorem O0:∀a:KD,a.toD.depth=a.depth
 |.int _=>by simp[KD.toD,DK,KD.depth]
 |.str _=>by simp[KD.toD,DK,KD.depth]
 |.tup b=>by simp only[KD.toD,DK,KD.depth,sV b]
theorem sV:∀a:List KD,Tv (U3 a)=Iv a
 |[]=>by simp[U3,Tv,Iv]
 |x::r=>by simp only[U3,Tv,Iv,O0 x,sV r]
end
theorem Rg{h:Heap}{v:Value}{d:List TW}{b:List Gc}(r:LN h v (.tuple d) b):∃a o c n,v=.ref a/\h.get? a=Ga o/\o.cls=.type "tuple"/\o.data=.seq c n/\E3 h c.toList d b:=by
 cases r with
 |tuple e f g i=>exact{_,_,_,_,Xb,e,f,g,i}
mutual
theorem xb{h p:Heap}{d:Gc}{o:Ek}{r:Array Eu}{q:Nat}(j:h.get? d=Ga o)(g:o.data=.dict r q)(k:Heap.SameBut d h p):∀{v:Value}{x:TW}{n:List Gc},LN h v x n->x.canLay0=Gg->LN p v x n
 |_,_,_,.none,_=>.none
 |_,_,_,.bool b,_=>.bool b
 |_,_,_,.int i t,_=>.int i t
 |_,_,_,.str x t,_=>.str x t
 |_,_,_,.list (a:=a) c l e m,f=>by simp only[Tt]at f;refine .list ((k.2 a ?_).trans c) l e (J0 j g k m f);rintro rfl;rw[j]at c;cases c;rw[g]at e;cases e
 |_,_,_,.tuple (a:=a) c l e m,f=>by simp only[Tt]at f;refine .tuple ((k.2 a ?_).trans c) l e (J0 j g k m f);rintro rfl;rw[j]at c;cases c;rw[g]at e;cases e
 |_,_,_,.dict _ _ _ _ _,f=>by simp[Tt]at f
theorem J0{h e:Heap}{d:Gc}{o:Ek}{l:Array Eu}{k:Nat}(g:h.get? d=Ga o)(f:o.data=.dict l k)(i:Heap.SameBut d h e):∀{j:List Value}{b:List TW}{c:List Gc},E3 h j b c->Gx b=Gg->E3 e j b c
 |_,_,_,.nil,_=>.nil
 |_,_,_,.cons m n,a=>by simp only[Gx,Td]at a;exact .cons (xb g f i m a.1) (J0 g f i n a.2)
end
mutual
theorem uI{h:Heap}:∀(a b:KD){v:Value}{k l:List Gc},LN h v a.toD k->LN h v b.toD l->a=b
 |.int i,.int j,_,_,_,r,q=>by simp only[KD.toD]at r q;cases r;cases q;rfl
 |.int i,.str y,_,_,_,r,q=>by simp only[KD.toD]at r q;cases r;cases q
 |.int i,.tup d,_,_,_,r,q=>by simp only[KD.toD]at r q;cases r;cases q
 |.str x,.int j,_,_,_,r,q=>by simp only[KD.toD]at r q;cases r;cases q
 |.str x,.str y,_,_,_,r,q=>by simp only[KD.toD]at r q;cases r;cases q;rfl
 |.str x,.tup d,_,_,_,r,q=>by simp only[KD.toD]at r q;cases r;cases q
 |.tup c,.int j,_,_,_,r,q=>by simp only[KD.toD]at r q;cases q;cases r
 |.tup c,.str y,_,_,_,r,q=>by simp only[KD.toD]at r q;cases q;cases r
 |.tup c,.tup d,_,_,_,r,q=>by simp only[KD.toD]at r q;obtain⟨a,o,D,n,rfl,m,z,p,s⟩:=Rg r;obtain⟨w,C,u,B,e,f,A,g,t⟩:=Rg q;cases e;rw[m]at f;cases f;rw[p]at g;cases g;rw[tW c d s t]
theorem tW{h:Heap}:∀(c d:List KD){b:List Value}{e f:List Gc},E3 h b (U3 c) e->E3 h b (U3 d) f->c=d
 |[],[],_,_,_,_,_=>rfl
 |[],y::q,_,_,_,r,t=>by simp only[U3]at r t;cases r;cases t
 |x::a,[],_,_,_,r,t=>by simp only[U3]at r t;cases t;cases r
 |x::a,y::q,_,_,_,r,t=>by
  simp only[U3]at r t;cases r with
  |cons g i=>
   cases t with
   |cons j k=>rw[uI x y g j,tW a q i k]
end
section
variable{prog:Gi}{w:Gu}
mutual
theorem xw:∀(k:KD){A:TL}{E:Value->Gk->Prop}{s:Gk}{v:Value}{j:List Gc}{Q:Int->Gk->Prop},A.units+k.depth<DM->LN s.heap v k.toD j->Q (k.hash w) {s with toks:=s.toks+k.draws}->
  wpAny (Tb prog w) A (pyHash v) Q E s
 |.int i,A,E,s,v,j,Q,_,r,h=>by simp only[KD.toD]at r;cases r;simp only[KD.hash,KD.draws]at h;exact Fs h
 |.str x,A,E,s,v,j,Q,_,r,h=>by simp only[KD.toD]at r;cases r;simp only[KD.hash,KD.draws]at h;exact Ft h
 |.tup xs,A,E,s,v,j,Q,K,r,h=>by
  simp only[KD.toD]at r;simp only[KD.depth]at K;simp only[KD.hash,KD.draws]at h;obtain⟨a,o,y,n,rfl,C,H,I,J⟩:=Rg r;have q:s.TypeIs (.ref a) "tuple":=⟨o,C,H⟩;have m:=λ(k:KD)(B:k∈xs)=>@sO xs k B;unfold pyHash;first|unfold pyHashByItsType|skip
  first|refine Gb (wpAny_cRoomFor_or (.inr (by lia)) ?_)|skip
  refine Gb (DV q F.slot_tuple_hash.lookup ?_);show wpAny _ _ (if(Ga (Value.builtin "tuple.__hash__")==Ga Value.none)=Gg then _ else _) Q E s;rw[Gh (by rw[beq_builtin_none];exact GO)];refine Gb (DV q F.slot_tuple_hash.lookup ?_);show wpAny _ _ (callSpecialIfBoundUnlessNone? (.ref a) "__hash__" _>>=_) Q E s;refine Gb (wpAny_callSpecialIfBoundUnlessNone?_slot q F.slot_tuple_hash (Tz F.slot_tuple_hash q F.entry_tuple_hash ?_ (F.args_tuple_hash_1 _)));show wpAny _ _ (Builtin.Tuple.tupleItemsOf (.ref a)>>=_) _ _ s;refine Gb (wpAny_tupleItemsOf C I ?_);refine Gb ?_;rw[<-EH];refine FF _
   (λX9(b:Array Int)z=>∃done left f,xs=done++left/\E3 s.heap X9 (U3 left) f/\b.toList=V8 w done/\z={s with toks:=s.toks+Xz done})
   _ ?_ ?_ _ _ {[],xs,j,Xb,J,Xb,Xb}
  .rintro x X9 b z ⟨done,left,f,rfl,g,t,rfl⟩;cases left with
   |nil=>simp only[U3]at g;cases g
   |cons k e=>
    simp only[U3]at g;cases g with
    |cons G u=>
     have B:=qi (xs:=done++k::e) (x:=k) (by simp);refine Gb (m k (by simp) (A:=A.in1) (s:={s with toks:=s.toks+Xz done}) (by show A.units+1+k.depth<DM;lia) G ?_);have D:s.toks+Xz done+k.draws=s.toks+Xz (done++[k]):=by rw[Iu];simp only[Xz];lia
     have p:∃c d l,done++k::e=c++d/\E3 s.heap X9 (U3 d) l/\(b.push (k.hash w)).toList=V8 w c/\({s with toks:=s.toks+Xz done+k.draws}:Gk)={s with toks:=s.toks+Xz c}:=
      {done++[k],e,_,by simp,u,by simp[t,rq],by rw[D]}
     first
      |exact Gf p
      |exact Gb (Gf (Gf p))
  .rintro b z ⟨done,left,f,rfl,g,t,rfl⟩;cases left with
   |cons k e=>simp only[U3]at g;cases g
   |nil=>
    rw[List.append_nil]at h;show wpAny _ _ (retInt (Builtin.Tuple.tupleHashOf b.toList)) _ _ _;rw[t];refine FL ?_;show wpAny _ _ (if(decide (-(2:Int)^63<=Builtin.Tuple.tupleHashOf (V8 w done))&&decide (Builtin.Tuple.tupleHashOf (V8 w done)<2^63))=Gg then _ else _) Q E _;unfold reduceHash at h;by_cases c:(decide (-(2:Int)^63<=Builtin.Tuple.tupleHashOf (V8 w done))&&decide (Builtin.Tuple.tupleHashOf (V8 w done)<2^63))=Gg
    .rw[Gn c];rw[Gn c]at h;exact Gf (by simpa[MQ]using h)
    .rw[Gh c];rw[Gh c]at h;exact Gb (EV (Gf (by simpa[MQ]using h)))
theorem sO:∀(f:List KD)(k:KD),k∈f->∀{A:TL}{E:Value->Gk->Prop}{s:Gk}{v:Value}{d:List Gc}{Q:Int->Gk->Prop},A.units+k.depth<DM->LN s.heap v k.toD d->Q (k.hash w) {s with toks:=s.toks+k.draws}->
  wpAny (Tb prog w) A (pyHash v) Q E s
 |[],_,h=>by simp at h
 |x::r,k,h=>by
  intro a b c;by_cases e:k=x
  .rw[e]at a b c;exact xw x a b c
  .exact sO r k ((List.mem_cons.mp h).resolve_left e) a b c
end
mutual
theorem sg:∀(k:KD)(n:Nat){A:TL}{E:Value->Gk->Prop}{s:Gk}{v:Value}{d:List Gc}{Q:Bool->Gk->Prop},k.depth<=n->LN s.heap v k.toD d->Q Gg s->wpAny (Tb prog w) A (eqIsQuiet n v) Q E s
 |.int i,n,A,E,s,v,d,Q,_,r,h=>by simp only[KD.toD]at r;cases r;rw[Fl n rfl];exact Gf h
 |.str x,n,A,E,s,v,d,Q,_,r,h=>by simp only[KD.toD]at r;cases r;rw[Fl n rfl];exact Gf h
 |.tup g,0,A,E,s,v,d,Q,p,r,h=>by simp[KD.depth]at p
 |.tup g,n+1,A,E,s,v,d,Q,p,r,h=>by
  simp only[KD.toD]at r;simp only[KD.depth]at p;obtain⟨a,o,c,m,rfl,C,G,H,I⟩:=Rg r;have y:s.TypeIs (.ref a) "tuple":=⟨o,C,G⟩;have f:=λ(k:KD)(B:k∈g)(n:Nat)=>@uo g k B n;unfold eqIsQuiet;refine Gb (DV y F.slot_tuple_eq.lookup ?_);show wpAny _ _ (isInstance (.ref a) (.type "tuple")>>=_) _ _ s;refine Gb (ED y isSubtype_tuple_tuple ?_);simp only[MR,TM,Dm];refine Gb (Dg C H ?_);refine Gb ?_;show wpAny _ _ (forIn c _ _) _ _ s;rw[<-EH];refine FF _ (λX9 r u=>r.1=Ge/\u=s/\∃left e,(∀k∈left,k∈g)/\E3 s.heap X9 (U3 left) e) _ ?_ ?_ _ _ {Xb,Xb,g,d,λ_ z=>z,I}
  .rintro v X9 r u ⟨q,rfl,left,e,b,j⟩;cases left with
   |nil=>simp only[U3]at j;cases j
   |cons k t=>
    simp only[U3]at j;cases j with
    |cons D l=>have B:=qi (b k (by simp));refine Gb (f k (b k (by simp)) n (by lia) D ?_);simp only[MR,TM,Dm];exact Gf {Xb,Xb,t,_,λz J=>b z (List.mem_cons_of_mem _ J),l}
  .rintro⟨b,j⟩ u ⟨q,rfl,_⟩;simp only at q;subst q;exact Gf h
theorem uo:∀(f:List KD)(k:KD),k∈f->∀(n:Nat){A:TL}{E:Value->Gk->Prop}{s:Gk}{v:Value}{d:List Gc}{Q:Bool->Gk->Prop},k.depth<=n->LN s.heap v k.toD d->Q Gg s->wpAny (Tb prog w) A (eqIsQuiet n v) Q E s
 |[],_,h=>by simp at h
 |x::r,k,h=>by
  intro n _ _ _ _ _ _ a b c;by_cases e:k=x
  .rw[e]at a b;exact sg x n a b c
  .exact uo r k ((List.mem_cons.mp h).resolve_left e) n a b c
end
def Vs(prog:Gi)(w:Gu):NN prog w KD where
 is:=λh k a=>(∃c,LN h (.ref a) k.toD c)/\k.toD.canLay0=Gg/\k.depth<=8
 hash:=KD.hash w
 draws:=KD.draws
 room:=λA=>A.units+10<DM
 inj:=λ⟨⟨_,h1⟩,_⟩⟨⟨_,h2⟩,_⟩=>uI _ _ h1 h2
 keeps:=λ⟨⟨c,h1⟩,h2,d⟩f e g=>{{c,xb f e g h1 h2},h2,d}
 pyHash:=λ{A E s k a Q}i⟨⟨c,h1⟩,_,d⟩h=>xw k (by ext) h1 h
 eqBool:=λ{A E s x y a b Q}i⟨⟨c,h1⟩,h2,d⟩⟨⟨m,j⟩,l,n⟩h=>Nq x.toD y.toD A s _ _ _ _ h1 j h2 l (by rw[O0,O0];ext) prog w E Q (by rw[Hc];exact h)
 quiet:=λ{A E s k a Q}⟨⟨c,h1⟩,_,d⟩h=>sg k 8 d h1 h
end
end L2
namespace PySem
def Heap.Ij(h:Heap)(d:Gc)(es:Array Eu)(ep:Nat):Prop:=∃o,h.get? d=Ga o/\o.ExactDict/\o.data=.dict es ep
section
variable{prog:Gi}{w:Gu}{A:TL}{E:Value->Gk->Prop}{s:Gk}{d:Gc}{es:Array Eu}{ep:Nat}
theorem Heap.Ij.typeIs(x:s.heap.Ij d es ep):s.TypeIs (.ref d) "dict":=let⟨o,ho,hc,_⟩:=x;{o,ho,hc.1}
theorem Heap.Ij.at{h a:Heap}(x:h.Ij d es ep)(e:∀o,h.get? d=Ga o->a.get? d=Ga o):a.Ij d es ep:=let⟨o,ho,r⟩:=x;{o,e _ ho,r}
theorem Heap.Ij.lt{h:Heap}(x:h.Ij d es ep):d<h.objs.size:=let⟨_,ho,_⟩:=x;Heap.lt_size ho
theorem BC{Q:Value->Gk->Prop}(e:(d==T8)=Gq)(b:s.heap.Ij d es ep)(c:(es.size:Int)<2^63)
  (h:Q (.int es.size (s.toks+1)) {s with toks:=s.toks+1+1}):wpAny (Tb prog w) A (call (.builtin "len") [.ref d]) Q E s:=by
 obtain⟨o,f,c,a⟩:=id b;refine Sx kind_len plain_len entry_len (args_len1 _) ?_;unfold Builtin.«len»;refine Gb (m:=oneArg "len" _) (Gf ?_);refine Gb (m:=callSpecial? (.ref d) (Dz "__len__")) (TQ (name:=Dz "__len__") b.typeIs F.slot_dict_len
  (Tz F.slot_dict_len b.typeIs F.entry_dict_len ?_ (F.args_dict_len_1 _)))
 show wpAny _ _ (dictSize d>>=_) _ _ s;unfold dictSize;refine Gb (Gb (DA f a (Gf ?_)));show wpAny _ _ (Builtin.Dict.pendingCount d>>=_) _ _ s;refine Gb (wpAny_pendingCount_other e ?_);refine FL ?_;rw[Fn];show wpAny _ _ _ _ _ {s with toks:=s.toks+1};refine Gb (T5 (Gf ?_));refine Gb (SF ?_);show wpAny _ _ (if((es.size:Nat):Int)<0 then _ else _) _ _ _;rw[Gh (by lia)];show wpAny _ _ (if((es.size:Nat):Int)>=2^63 then _ else _) _ _ _;rw[Gh (by lia)];exact Gb (wpAny_mkInt (Gf {_,Xb,h}))
theorem BV{Q:Value->Gk->Prop}(g:(d==T8)=Gq)(c:s.heap.Ij d es ep)
  (f:Q (.ref s.heap.objs.size) {s with heap:=s.heap.push {cls:=.type "dict_keyiterator",data:=.fields #[.ref d,.int 0 0,.int es.size 0,.int ep 0]}}):
  wpAny (Tb prog w) A (pyIter (.ref d)) Q E s:=by
 obtain⟨o,e,h,a⟩:=id c;have b:=c.typeIs;refine SG b F.slot_dict_iter (Tz F.slot_dict_iter b F.entry_dict_iter ?_ (F.args_dict_iter_1 _));unfold Builtin.«dict.__iter__»;refine Gb ?_;unfold Builtin.Dict.dictSlotNone;refine Gb (ES b ?_);show wpAny _ _ (pure (Value.ref d)) _ _ s;refine Gf ?_;show wpAny _ _ (Builtin.Dict.showsAll d>>=_) _ _ s;unfold Builtin.Dict.showsAll;rw[Gh (by rw[g];exact GO)];refine Gb (Gf ?_);refine Gb (DA e a ?_);refine Gb (Ep e a ?_);refine Gb (TB (Gf {_,Xb,"dict_keyiterator",_,{_,Heap.get?_push_size _ Xb,Xb},F.slot_dict_keyiterator_next.lookup,?_}));simpa[rawInt]using f
theorem AQ{f:Gc}{i:Nat}{e:Eu}{Q:Option Value->Gk->Prop}(a:s.heap.IsKeyIter f d i es.size ep)(u:s.heap.Ij d es ep)(m:es[i]?=Ga e)
  (p:∀h,h.IsKeyIter f d (i+1) es.size ep->Heap.SameBut f s.heap h->Q (Ga e.key) {s with heap:=h}):
  wpAny (Tb prog w) A (pyNext (.ref f)) Q E s:=by
 obtain⟨o,n,q,l⟩:=id a;obtain⟨v,j,r,g⟩:=id u;unfold pyNext;refine Gb (EY (TQ (name:=Dz "__next__") a.typeIs F.slot_dict_keyiterator_next
  (Tz F.slot_dict_keyiterator_next a.typeIs F.entry_dict_keyiterator_next ?_ (F.args_dict_keyiterator_next_1 _))))
 refine Gb (Gf ?_);refine Gb ?_;refine Gb ?_;first|refine Gb (DO a.typeIs (Gf ?_))|refine Gb (Ef a.typeIs (Gf ?_))
 refine Gb (Sr n l ?_);have k:Builtin.Dict_items.ownsTuple "dict_keyiterator"=Gq:=by decide
 simp only[k,TM,Dm];show wpAny _ _ (if(Value.ref d==Value.none)=Gg then _ else _) _ _ s;rw[Gh (show¬((Value.ref d==Value.none)=Gg)from GO)];refine Gb (Gf ?_);refine Gb (DA j g ?_);rw[Gh (by simp)];refine Gb (Gf ?_);refine Gb (Ep j g ?_);rw[Gh (by simp)];refine Gf ?_;have c:i<es.size:=by
  rcases Tn i es.size with h|h
  .exact h
  .rw[Di h]at m;cases m
 have t:es[i]=e:=by rw[Tj c]at m;exact To m
 simp only[show¬((i:Int)<0)from by ext,Dm,Dy,Tj c];refine Gb ?_;first|refine Gb (DO a.typeIs (Gf ?_))|refine Gb (Ef a.typeIs (Gf ?_))
 refine Gb (Lp a.typeIs ?_);show wpAny _ _ (setField (.ref f) 1 (rawInt ((i:Int)+1))>>=_) _ _ s;refine Gb (EA n l (by simp) ?_);have b:(s.heap.update f (EZ (·.setIfInBounds 1 (rawInt ((i:Int)+1))))).IsKeyIter f d (i+1) es.size ep:=
  {_,Heap.get?_update_self _ n (ET (D2 l _)),(SH ..).trans q,by rw[D2 l];simp[rawInt]}
 refine Gb (T5 ?_);refine Gb (Lp (s:={s with heap:=s.heap.update f (EZ (·.setIfInBounds 1 (rawInt ((i:Int)+1))))}) b.typeIs ?_);show wpAny _ _ (pure es[i].key) _ _ _;rw[t];exact Gf (Gf {_,Xb,Gf (p _ b (Heap.SameBut.update ..))})
theorem UB{f:Gc}{i:Nat}{Q:Option Value->Gk->Prop}(n:A.handled=Ge)(a:s.heap.IsKeyIter f d i es.size ep)(p:s.heap.Ij d es ep)(g:es.size<=i)
  (l:∀h,Heap.ExtBut f s.heap h->Q Ge {s with heap:=h}):wpAny (Tb prog w) A (pyNext (.ref f)) Q E s:=by
 obtain⟨o,k,h,j⟩:=id a;obtain⟨q,c,m,b⟩:=id p;unfold pyNext;refine Gb (EY (TQ (name:=Dz "__next__") a.typeIs F.slot_dict_keyiterator_next
  (Tz F.slot_dict_keyiterator_next a.typeIs F.entry_dict_keyiterator_next ?_ (F.args_dict_keyiterator_next_1 _))))
 refine Gb (Gf ?_);refine Gb ?_;refine Gb ?_;first|refine Gb (DO a.typeIs (Gf ?_))|refine Gb (Ef a.typeIs (Gf ?_))
 refine Gb (Sr k j ?_);have e:Builtin.Dict_items.ownsTuple "dict_keyiterator"=Gq:=by decide
 simp only[e,TM,Dm];show wpAny _ _ (if(Value.ref d==Value.none)=Gg then _ else _) _ _ s;rw[Gh (show¬((Value.ref d==Value.none)=Gg)from GO)];refine Gb (Gf ?_);refine Gb (DA c b ?_);rw[Gh (by simp)];refine Gb (Gf ?_);refine Gb (Ep c b ?_);rw[Gh (by simp)];refine Gf ?_;simp only[show¬((i:Int)<0)from by ext,Dm,Dy,Di g];refine Gb ?_;first|refine Gb (DO a.typeIs (Gf ?_))|refine Gb (Ef a.typeIs (Gf ?_))
 show wpAny _ _ (setField (.ref f) 0 .none>>=_) _ _ s;refine Gb (EA k j (by simp) ?_);show wpAny _ _ (newExc (.type "StopIteration") []>>=_) _ _ _;refine Gb ?_;simp only[newExc,newTuple];refine Gb (TB ?_ (by size_fits));refine Gb (m:=firstArgMember _ _) (FI (a:=Value.none) (by first|rfl|(simp only[firstArgMember];rfl)) ?_);refine TB ?_ (by size_fits);simp only[raiseNew];refine Gb (LO ?_);rw[show A.in1.handled=Ge from n];refine Gb (Gf (FJ ?_));refine Gb (ED (T:="StopIteration") (b:=Gg) {_,Heap.get?_push_size _ Xb,Xb} Ly ?_);exact Gf (l _ (((Heap.SameBut.update ..).extBut.push _).push _))
theorem Walks.BG(t:A.handled=Ge)(I d:Gc)(n:d≠I)(c:Array Eu)(p:Nat):
  Walks prog w A I [I,d] [I] c.size (λi v=>∃e,c[i]?=Ga e/\v=e.key) (λi h=>h.IsKeyIter I d i c.size p/\h.Ij d c p) where
 sub:=λb f=>by simp at f;simp[f]
 frame:=λ_ _ _ a q=>{a.1.at λo e=>q I (by simp) o e,a.2.at λo e=>q d (by simp) o e}
 item:=λi s Q E u a g=>by have r:c[i]?=Ga c[i]:=Tj u;refine AQ a.1 a.2 r λl j k=>?_;exact g _ l s.toks {_,r,Xb} {j,a.2.at λo e=>(k.2 d n).trans e} λb o f e=>k.extBut b o (λh=>f (by simp[h])) e
 done:=λs Q E a g=>UB t a.1 a.2 (Gm _) λl m=>g l s.toks λb o f e=>m b o (λh=>f (by simp[h])) e
 self:=λ_ _ _ _ a g=>Lz a.1 g
theorem Pb(g:(d==T8)=Gq):FZ prog w "dict" d d es.size (λi v=>∃e,es[i]?=Ga e/\v=e.key) (λh=>h.Ij d es ep) where
 type:=λ_ a=>a.typeIs
 there:=λ_ a=>{a.lt,a.lt}
 keep:=λ_ _ a f=>a.at λo e=>f d (.inl Xb) o e
 notList:=by decide
 notTuple:=by decide
 hint:=λ_ _ _ _ a b=>Nx a.typeIs b
 iter:=λ_ _ c a=>{_,_,(λ_ _ b=>BV g a b),Walks.BG c _ d (Tg a.lt) es ep,{{_,Heap.get?_push_size _ Xb,Xb,Xb},a.at λo e=>Heap.get?_push_of_some _ e}}
end
end PySem
namespace L2
open PySem PySem.Spec PyProof.Rows
variable{k:KD}
abbrev KE:=KD×Gc×V
variable{zw:List KE}
def Yf(zw:List KE)(k:KD):Option V:=(zw.find? λp=>decide (p.1=k)).map (·.2.2)
def Wv(zw:List KE)(k:KD)(b:Gc)(v:V):List KE:=if(Yf zw k).isSome=Gg then zw.map (λp=>if p.1=k then(p.1,p.2.1,v)else p)else zw++[(k,b,v)]
abbrev KX:List KE->List (KD×Gc×Value)->Prop:=Paired λp q=>p.1=q.1/\p.2.1=q.2.1/\zm p.2.2 q.2.2
def mi(P:Gi)(w:Gu)(a:Gc)(zw:List KE)(h:Heap):Prop:=
 zw.length<=Gj/\(a==T8)=Gq/\∃xs,KX zw xs/\∃o es ep,h.get? a=Ga o/\o.ExactDict/\o.data=.dict es ep/\es.toList=xs.map (entryOfKey (Vs P w))/\(xs.map (·.1)).Nodup
def Vx(P:Gi)(w:Gu)(a:Gc)(zw:List KE):HO:=.ext (mi P w a zw)
def Vd(H:Hp)(zw:List KE):Prop:=∀p∈zw,Dt H (.ref p.2.1) p.1.toD/\p.1.toD.canLay0=Gg/\p.1.depth<=8
def gJ(H:Hp)(b:Gc)(k:KD):Prop:=Dt H (.ref b) k.toD/\k.toD.canLay0=Gg/\k.depth<=8
theorem nL{P:Gi}{w:Gu}{H:Hp}{h:Heap}{a:Gc}(x:mi P w a zw h):Z1 P w H h a (Vx P w a zw):=by
 exists x,?_
 .obtain⟨_,_,_,_,o,_,_,e,_⟩:=x;exact⟨o,e⟩
 .rintro i j ⟨f,g,d,r,o,c,b,e,q⟩ k;exact{f,g,d,r,o,c,b,k o e,q}
theorem KX.val{i:List (KD×Gc×Value)}(r:KX zw i)(k:KD):J2 (Yf zw k) ((atKey i k).map (·.2)):=by
 induction r with
 |nil=>exact Tu
 |@cons p q d f h t l=>
  obtain⟨g,_,j⟩:=h;by_cases e:p.1=k
  .have a:q.1=k:=g.symm.trans e;have b:atKey (q::f) k=Ga q.2:=by simp[atKey,List.find?_cons,a]
   have c:Yf (p::d) k=Ga p.2.2:=by simp[Yf,List.find?_cons,e]
   rw[c,b];exact j
  .have a:¬q.1=k:=λz=>e (g.trans z);have b:atKey (q::f) k=atKey f k:=by simp[atKey,List.find?_cons,a]
   have c:Yf (p::d) k=Yf d k:=by simp[Yf,List.find?_cons,e]
   rw[c,b];exact l
theorem KX.put{c:List (KD×Gc×Value)}(r:KX zw c)(k:KD)(b:Gc){v:V}{u:Value}(f:zm v u):KX (Wv zw k b v) (storedH c k b u):=by
 have e:(Yf zw k).isSome=(atKey c k).isSome:=by rw[(r.val k).Wo,Ea]
 unfold Wv storedH;rw[e];by_cases q:(atKey c k).isSome=Gg
 .rw[Gn q,Gn q];clear q e;induction r with
  |nil=>exact .nil
  |@cons p q j l h t i=>
   rw[List.map_cons,List.map_cons];refine .cons ?_ i;obtain⟨a,d,g⟩:=h;unfold putAt;by_cases e:p.1=k
   .rw[Gn e,Gn (a.symm.trans e)];exact⟨a,d,f⟩
   .rw[Gh e,Gh (λz=>e (a.trans z))];exact⟨a,d,g⟩
 .rw[Gh q,Gh q];exact DN r ⟨Xb,Xb,f⟩
theorem Os(a:List KE)(k:KD)(b:Gc)(v:V):(Wv a k b v).length<=a.length+1:=by
 unfold Wv;split
 .rw[List.length_map];ext
 .rw[List.length_append,List.length_singleton];ext
theorem sH(b:Gc)(v:V)(h:Yf zw k=Ge):Wv zw k b v=zw++[(k,b,v)]:=by unfold Wv;rw[h];exact Gh (by decide)
theorem qR{u:V}(b:Gc)(v:V)(h:Yf zw k=Ga u):Wv zw k b v=zw.map (λp=>if p.1=k then(p.1,p.2.1,v)else p):=by unfold Wv;rw[h];exact Gn rfl
theorem Ym{p:KE}{r:List KE}(e:p.1=k):Yf (p::r) k=Ga p.2.2:=by simp[Yf,List.find?_cons,e]
theorem Yl{p:KE}{r:List KE}(e:¬p.1=k):Yf (p::r) k=Yf r k:=by simp[Yf,List.find?_cons,e]
theorem oF(k j:KD)(b:Gc)(y:V):∀a:List KE,Yf a k=Ge->Yf (a++[(k,b,y)]) j=if j=k then Ga y else Yf a j
 |[],_=>by
  by_cases e:k=j
  .rw[Gn e.symm];exact Ym (p:=(k,b,y)) e
  .rw[Gh (λz=>e z.symm)];exact Yl (p:=(k,b,y)) e
 |p::r,c=>by
  rw[List.cons_append];have d:¬p.1=k:=λz=>by rw[Ym z]at c;cases c
  rw[Yl d]at c;have f:=oF k j b y r c;by_cases e:p.1=j
  .rw[Ym e,Ym e,Gh (λz=>d (e.trans z))]
  .rw[Yl e,Yl e,f]
theorem qG(k j:KD)(y:V):∀a:List KE,Yf (a.map λp=>if p.1=k then(p.1,p.2.1,y)else p) j=(Yf a j).map λx=>if j=k then y else x
 |[]=>rfl
 |p::r=>by
  have b:=qG k j y r;rw[List.map_cons];by_cases h:p.1=k
  .rw[Gn h];by_cases e:p.1=j
   .rw[Ym (p:=(p.1,p.2.1,y)) e,Ym e,T3,Gn (e.symm.trans h)]
   .rw[Yl (p:=(p.1,p.2.1,y)) e,Yl e,b]
  .rw[Gh h];by_cases e:p.1=j
   .rw[Ym (p:=p) e,Ym e,T3,Gh (λz=>h (e.trans z))]
   .rw[Yl (p:=p) e,Yl e,b]
theorem Jj(a:List KE)(k j:KD)(b:Gc)(y:V):Yf (Wv a k b y) j=if j=k then Ga y else Yf a j:=by
 cases q:Yf a k with
 |none=>rw[sH b y q,oF k j b y a q]
 |some u=>
  rw[qR b y q,qG];by_cases e:j=k
  .rw[Gn e,e,q,T3,Gn rfl]
  .rw[Gh e];cases Yf a j with
   |none=>rfl
   |some x=>rw[T3,Gh e]
theorem J8(a:List KE)(k:KD)(b:Gc)(v:V):∀p∈Wv a k b v,(p.1=k/\p.2.1=b)\/∃u,(p.1,p.2.1,u)∈a:=λp c=>by
 unfold Wv at c;split at c
 .obtain⟨q,d,e⟩:=List.mem_map.mp c;right;split at e
  .subst e;exact{q.2.2,d}
  .subst e;exact{q.2.2,d}
 .rcases List.mem_append.mp c with h|h
  .exact .inr {p.2.2,h}
  .rw[List.mem_singleton]at h;subst h;exact .inl ⟨Xb,Xb⟩
theorem Vd.put{H:Hp}{b:Gc}{v:V}(h:Vd H zw)(d:gJ H b k):Vd H (Wv zw k b v):=λp e=>by
 rcases J8 zw k b v p e with⟨a,c⟩|⟨u,f⟩
 .rw[a,c];exact d
 .exact h (p.1,p.2.1,u) f
section
variable{X:Cx}{zq:List (Gc×Ek)}{σ:St}{H:Hp}{s:Gk}{a b:Gc}{zw:List KE}{k:KD}
theorem gJ.is(I:zu X zq σ H s)(h:gJ H b k):(Vs X.prog X.w).is s.heap k b:=by obtain⟨c,d,e⟩:=h;obtain⟨a,r⟩:=c.reads I.Zv (u:=.ref b) rfl;exact{⟨a,r⟩,d,e}
theorem jb(I:zu X zq σ H s)(e:H a=Ga (Vx X.prog X.w a zw)):mi X.prog X.w a zw s.heap:=(I.Zv a _ e).1
theorem jM(I:zu X zq σ H s)(e:H a=Ga (Vx X.prog X.w a zw))(v:Vd H zw):zw.length<=Gj/\(a==T8)=Gq/\∃c,KX zw c/\s.heap.DictOfH (Vs X.prog X.w) a c:=by
 obtain⟨z,y,c,r,o,g,f,i,j,k,n,u⟩:=jb I e;refine{z,y,c,r,o,g,f,i,j,k,n,λx b=>?_,u};have all:∀{l:List KE}{m:List (KD×Gc×Value)},KX l m->(∀p∈l,p∈zw)->∀x∈m,(Vs X.prog X.w).is s.heap x.1 x.2.1:=by
  intro l m q;induction q with
  |nil=>intro _ x b;exact nomatch b
  |@cons p q A B d t w=>
   intro sub x b;rcases List.mem_cons.mp b with e|b
   .subst e;rw[<-d.1,<-d.2.1];exact gJ.is I (v p (sub p (by simp)))
   .exact w (λp h=>sub p (List.mem_cons_of_mem _ h)) x b
 exact all r (λ_ h=>h) x b
end
def pO(P:Gi)(w:Gu):TE:=λ_ H Q=>∀p,H p=Ge->Q (.ref p) (zj H p (Vx P w p []))
structure DH(P:Gi)(w:Gu)(H:Hp)(d:Gc)(zw:List KE):Prop where
 at_:H d=Ga (Vx P w d zw)
 keys:Vd H zw
section
variable{X:Cx}
theorem Ip{a:SX}:PE X (.Dict [] [] a) (pO X.prog X.w):=λb s c H Q I h=>
 SS ⟨.ref s.heap.objs.size,_,I.laid (a:=s.heap.objs.size) (o:=Vx X.prog X.w s.heap.objs.size []) (t':=s.toks) (λ_ _ q=>Heap.get?_push_of_some _ q) (Gm _)
  (nL {Gw _,DB.mpr (Gp (Tg I.big)),[],.nil,_,#[],0,Heap.get?_push_size _ Xb,⟨Xb,Xb,Xb⟩,Xb,Xb,List.nodup_nil}),Xb,h _ (I.Zv.fresh (Gm _))⟩
inductive wg(P:Gi)(w:Gu)(f:Bool->Bool)(x:V)(y:V)(H:Hp)(Q:VK):Prop
 |mk (b:_) (d:_) (k:_) (zw:_) (h0:x=.ref b) (h1:y=.ref d) (h2:DH P w H d zw) (h3:gJ H b k) (h4:Q (.bl (f (Yf zw k).isSome)) H):wg P w f x y H Q
def nt(P:Gi)(w:Gu)(f:Bool->Bool):R2:=λx y H Q=>wg P w f x y H Q
theorem UL(a:X.A.units+64<DM):gi X (Dl .In) (nt X.prog X.w λb=>b):=by intro c s o H x y v u Q I l m h;obtain⟨b,d,k,j,rfl,rfl,D,i,q⟩:=h;cases(show v=Value.ref b from l);cases(show u=Value.ref d from m);obtain⟨z,g,n,a,f⟩:=jM I D.at_ D.keys;refine MM (knd:=Vs X.prog X.w) (show X.A.units+1+10<DM by ext) (i.is I) g f ?_;have e:=(a.val k).Wo;rw[Ea]at e;rw[<-e];exact{.bl _,H,I.tok _,Xb,q}
theorem zt(a:X.A.units+64<DM):gi X (Dl .NotIn) (nt X.prog X.w λb=>!b):=by intro c s o H x y v u Q I l m h;obtain⟨b,d,k,j,rfl,rfl,D,i,q⟩:=h;cases(show v=Value.ref b from l);cases(show u=Value.ref d from m);obtain⟨z,g,n,a,f⟩:=jM I D.at_ D.keys;refine FD (knd:=Vs X.prog X.w) (show X.A.units+1+10<DM by ext) (i.is I) g f ?_;have e:=(a.val k).Wo;rw[Ea]at e;rw[<-e];exact{.bl _,H,I.tok _,Xb,q}
inductive zd(P:Gi)(w:Gu)(x:V)(y:V)(H:Hp)(Q:VK):Prop
 |mk (d:_) (b:_) (k:_) (zw:_) (v:_) (h0:x=.ref d) (h1:y=.ref b) (h2:DH P w H d zw) (h3:gJ H b k) (h4:Yf zw k=Ga v) (h5:Q v H):zd P w x y H Q
def iH(P:Gi)(w:Gu):R2:=λx y H Q=>zd P w x y H Q
theorem Ui(a:X.A.units+64<DM):hH X (iH X.prog X.w):=by
 intro g f j s C H x y v u Q I t w h m;obtain⟨d,b,k,o,r,rfl,rfl,D,l,n,q⟩:=h;cases(show v=Value.ref d from t);cases(show u=Value.ref b from w);obtain⟨z,B,A,c,i⟩:=jM I D.at_ D.keys;have a:=c.val k;rw[n]at a;cases e:atKey A k with
 |none=>rw[e]at a;exact(show False from a).elim
 |some p=>rw[e]at a;refine EM (x:=p.2) i.typeIs Sw.lookup ?_ m;exact L1 (knd:=Vs X.prog X.w) (show X.A.units+1+10<DM by ext) (l.is I) i e {Xb,r,H,I.tok _,a,q}
inductive ym(P:Gi)(w:Gu)(o:V)(i:V)(v:V)(H:Hp)(Q:Hp->Prop):Prop
 |mk (d:_) (b:_) (k:_) (zw:_) (h0:o=.ref d) (h1:i=.ref b) (h2:DH P w H d zw) (h3:gJ H b k) (h4:zw.length<Gj) (h5:Q (zj H d (Vx P w d (Wv zw k b v)))):ym P w o i v H Q
def kL(P:Gi)(w:Gu):l9:=λo i v H Q=>ym P w o i v H Q
theorem jd(a:X.A.units+64<DM):yL X (kL X.prog X.w):=by
 intro g s L H o i v ov B u Q I E C F h;obtain⟨d,b,k,a,rfl,rfl,D,x,J,q⟩:=h;cases(show ov=Value.ref d from E);cases(show B=Value.ref b from C);obtain⟨z,w,K,c,j⟩:=jM I D.at_ D.keys;have y:(Wv a k b v).length<=Gj:=by have:=Os a k b v;ext
 refine L3 (knd:=Vs X.prog X.w) (hsz:=by rw[<-Gr c];exact z) (show X.A.units+1+10<DM by ext) (x.is I) j λG e A=>?_;obtain⟨ob,m,l,f,n,p,r,_,t⟩:=e;refine{_,Jr (ob:=Vx X.prog X.w d (Wv a k b v)) I (by rw[D.at_];exact Tu) A ⟨ob,f⟩ (nL {y,w,_,c.put k b F,ob,m,l,f,n,p,r,t}),q}
theorem Pw:V9 X (.builtin "len") (λxs H Q=>∃d a,xs=[.ref d]/\DH X.prog X.w H d a/\Q (.int a.length) H):=by
 intro c s w H xs t Q I r h;obtain⟨d,a,rfl,D,q⟩:=h;obtain⟨u,rfl,m⟩:=vals1 r;cases(show u=Value.ref d from m);obtain⟨z,l,v,b,o,f,n,g,i,j,k,_⟩:=jb I D.at_;have p:=Om;have e:f.size=a.length:=by rw[Gr b,<-List.length_map (f:=entryOfKey (Vs X.prog X.w)),<-k,TF]
 refine BC l ⟨o,g,i,j⟩ (by lia) ?_;rw[e];exact{.int a.length,H,I.tok _,{_,Xb},q}
theorem CU(J:X.calm=Gg):V9 X (.type "list") (λxs H Q=>∃d b,xs=[.ref d]/\DH X.prog X.w H d b/\∀l,H l=Ge->Q (.ref l) (zj H l (.lst (b.map λp=>.ref p.2.1)))):=by
 intro l s P H xs T Q I r h;obtain⟨d,b,rfl,D,q⟩:=h;obtain⟨u,rfl,N⟩:=vals1 r;cases(show u=Value.ref d from N);obtain⟨z,K,O,m,o,es,ep,C,E,F,n,j⟩:=jb I D.at_;have e:es.size=b.length:=by rw[Gr m,<-List.length_map (f:=entryOfKey (Vs X.prog X.w)),<-n,TF]
 refine FG (Pb (es:=es) (ep:=ep) K) (I.ok.hd J) ⟨o,C,E,F⟩ (by rw[e];exact z) λw y a B M G c=>?_;have g:(b.map λp=>V.ref p.2.1).length<=Gj:=by rw[List.length_map];exact z
 have v:Zt (b.map λp=>V.ref p.2.1) a.toList:=by
  have k:es.toList.map (·.key)=O.map λq=>Value.ref q.2.1:=by rw[n,List.map_map];rfl
  have f:a.toList=es.toList.map (·.key):=by
   refine List.ext_getElem? λi=>?_;by_cases x:i<a.size
   .obtain⟨R,L,v⟩:=c.2 i a[i] (Tj x);rw[T9,Tj x,List.getElem?_map,T9,L,v];rfl
   .have L:=c.1;rw[List.getElem?_eq_none (by simp;lia),List.getElem?_eq_none (by simp;lia)]
  rw[f,k];clear q z n k f g e c D j;induction m with
  |nil=>exact .nil
  |@cons p q R S x t L=>rw[List.map_cons,List.map_cons];refine .cons ?_ L;show Value.ref q.2.1=Value.ref p.2.1;rw[x.2.1]
 have A:zu X l P (zj H s.heap.objs.size (.lst (b.map λp=>.ref p.2.1))) {s with heap:=w,toks:=y}:=
  I.laid (t':=y) M (Gm _) (show Z1 X.prog X.w _ w _ (.lst _)from{g,a.toList,B,v,by rw[Eb];exact G})
 exact{.ref s.heap.objs.size,_,A,Xb,q _ (I.Zv.fresh (Gm _))}
end
end L2
namespace Sb
open PySem
variable{S:List Th}{L:Th->Int}{x y t:Th}{b d:Gc}{H H':Hp}{P:Gi}{w:Gu}
abbrev Tl:=List (Bool×Th×Th)
variable{tl:Tl}
mutual
inductive Cg(tl:Tl):Th->Th->Prop
 |refl (t:Th):Cg tl t t
 |symm {s t:Th}:Cg tl s t->Cg tl t s
 |trans {r s t:Th}:Cg tl r s->Cg tl s t->Cg tl r t
 |told {s t:Th}:(Gg,s,t)∈tl->Cg tl s t
 |cong {w:GY} {ps qs:List Th}:gk tl ps qs->Cg tl (.mk w ps) (.mk w qs)
inductive gk(tl:Tl):List Th->List Th->Prop
 |nil:gk tl [] []
 |cons {p q:Th} {ps qs:List Th}:Cg tl p q->gk tl ps qs->gk tl (p::ps) (q::qs)
end
theorem gk.of{e:Tl}:∀{c d:List Th},c.length=d.length->(∀(i:Nat)p q,c[i]?=Ga p->d[i]?=Ga q->Cg e p q)->gk e c d
 |[],[],_,_=>.nil
 |[],_::_,h,_=>by simp at h
 |_::_,[],h,_=>by simp at h
 |p::c,q::d,h,f=>.cons (f 0 p q rfl rfl) (gk.of (by simpa using h) λi a b g j=>f (i+1) a b (by simpa using g) (by simpa using j))
mutual
theorem Cg.mono{f e:Tl}(h:∀a b,(Gg,a,b)∈f->(Gg,a,b)∈e):∀{s t:Th},Cg f s t->Cg e s t
 |_,_,.refl t=>.refl t
 |_,_,.symm c=>.symm (Cg.mono h c)
 |_,_,.trans c d=>.trans (Cg.mono h c) (Cg.mono h d)
 |_,_,.told m=>.told (h _ _ m)
 |_,_,.cong c=>.cong (gk.mono h c)
theorem gk.mono{f e:Tl}(h:∀a b,(Gg,a,b)∈f->(Gg,a,b)∈e):∀{s t:List Th},gk f s t->gk e s t
 |_,_,.nil=>.nil
 |_,_,.cons c d=>.cons (Cg.mono h c) (gk.mono h d)
end
inductive Dv where
 |cls (i:Int)
 |node (w:GY) (ds:List Dv)
open Classical in
noncomputable def act(S:List Th)(L:Th->Int)(w:GY)(ds:List Dv):Dv:=
 if h:∃a,Th.mk w a∈S/\a.map (λq=>Dv.cls (L q))=ds then .cls (L (.mk w (EW h)))else .node w ds
mutual
noncomputable def ev(S:List Th)(L:Th->Int):Th->Dv
 |.mk w ps=>act S L w (evL S L ps)
noncomputable def evL(S:List Th)(L:Th->Int):List Th->List Dv
 |[]=>[]
 |p::r=>ev S L p::evL S L r
end
structure Rw(tl:Tl)(S:List Th)(L:Th->Int):Prop where
 closed:∀w ps,Th.mk w ps∈S->∀p∈ps,p∈S
 told:∀a b,(Gg,a,b)∈tl->a∈S/\b∈S/\L a=L b
 cong:∀w ps qs,Th.mk w ps∈S->Th.mk w qs∈S->ps.map L=qs.map L->L (.mk w ps)=L (.mk w qs)
theorem vf{L:Th->Int}:∀{a b:List Th},a.map (λq=>Dv.cls (L q))=b.map (λq=>Dv.cls (L q))->a.map L=b.map L
 |[],[],_=>rfl
 |[],_::_,h=>by simp at h
 |_::_,[],h=>by simp at h
 |p::a,q::b,h=>by simp only[List.map_cons,List.cons.injEq,Dv.cls.injEq]at h⊢;exact{h.1,vf h.2}
mutual
theorem jH{g:Tl}{S:List Th}{L:Th->Int}(T:Rw g S L):∀t:Th,t∈S->ev S L t=.cls (L t)
 |.mk w a,h=>by
  have e:evL S L a=a.map (λq=>Dv.cls (L q)):=uP T a (T.closed w a h);have b:∃d,Th.mk w d∈S/\d.map (λq=>Dv.cls (L q))=a.map (λq=>Dv.cls (L q)):=⟨a,h,Xb⟩;have f:ev S L (.mk w a)=act S L w (evL S L a):=by simp only[ev]
  rw[f,e];unfold act;rw[dif_pos b];have c:=Lq b;rw[T.cong w _ a c.1 h (vf c.2)]
theorem uP{c:Tl}{S:List Th}{L:Th->Int}(T:Rw c S L):∀a:List Th,(∀p∈a,p∈S)->evL S L a=a.map (λq=>Dv.cls (L q))
 |[],_=>by simp[evL]
 |p::r,h=>by simp only[evL,List.map_cons];rw[jH T p (h p List.mem_cons_self),uP T r λq b=>h q (List.mem_cons_of_mem _ b)]
end
mutual
theorem jO{a:Tl}{S:List Th}{L:Th->Int}(T:Rw a S L):∀{s t:Th},Cg a s t->ev S L s=ev S L t
 |_,_,.refl _=>rfl
 |_,_,.symm c=>(jO T c).symm
 |_,_,.trans c d=>(jO T c).trans (jO T d)
 |_,_,.told m=>by obtain⟨b,e,f⟩:=T.told _ _ m;rw[jH T _ b,jH T _ e,f]
 |_,_,.cong c=>by simp only[ev,su T c]
theorem su{a:Tl}{S:List Th}{L:Th->Int}(T:Rw a S L):∀{s t:List Th},gk a s t->evL S L s=evL S L t
 |_,_,.nil=>rfl
 |_,_,.cons c d=>by simp only[evL,jO T c,su T d]
end
theorem Rw.complete(T:Rw tl S L)(a:x∈S)(b:y∈S)(c:Cg tl x y):L x=L y:=by have e:=jO T c;rw[jH T x a,jH T y b]at e;injection e
structure Tells(tl:Tl)(S:List Th)(L:Th->Int):Prop where
 tab:Rw tl S L
 sound:∀x∈S,∀y∈S,L x=L y->Cg tl x y
theorem Tells.iff(T:Tells tl S L)(a:x∈S)(b:y∈S):L x=L y↔Cg tl x y:={T.sound x a y b,T.tab.complete a b}
def mrg(L:Th->Int)(o n:Int):Th->Int:=λt=>if L t=o then n else L t
theorem uf{o n:Int}(h:L x=L y):mrg L o n x=mrg L o n y:=by unfold mrg;rw[h]
theorem OJ{a b:Th}(i:a∈S)(j:b∈S)(s:∀x∈S,∀y∈S,L x=L y->Cg tl x y)(c:Cg tl a b):∀x∈S,∀y∈S,mrg L (L a) (L b) x=mrg L (L a) (L b) y->Cg tl x y:=by
 intro x g y h e;unfold mrg at e;by_cases f:L x=L a
 .by_cases d:L y=L a
  .exact s x g y h (f.trans d.symm)
  .rw[Gn f,Gh d]at e;exact .trans (s x g a i f) (.trans c (s b j y h e))
 .by_cases d:L y=L a
  .rw[Gh f,Gn d]at e;exact .trans (s x g b j e) (.trans (.symm c) (.symm (s y h a i d)))
  .rw[Gh f,Gh d]at e;exact s x g y h e
open PySem PySem.Spec PyProof.Rows L2
mutual
def kd:Th->KD
 |.mk w ps=>.tup (.str w::kds ps)
def kds:List Th->List KD
 |[]=>[]
 |p::r=>kd p::kds r
end
mutual
theorem R9:∀t:Th,(kd t).toD=t.toD
 |.mk w a=>by simp only[kd,KD.toD,U3,Th.toD,yC a]
theorem yC:∀a:List Th,U3 (kds a)=Wg a
 |[]=>by simp[kds,U3,Wg]
 |t::r=>by simp only[kds,U3,Wg,R9 t,yC r]
end
theorem HN(t:Th):(kd t).depth=t.depth:=by rw[<-O0,R9,V2]
theorem O4{s:Th}(h:kd s=kd t):s=t:=by
 have e:s.toD=t.toD:=by rw[<-R9,<-R9,h]
 exact(Jt s t).mp (by rw[e];exact(Jt t t).mpr Xb)
mutual
theorem uT{H:Hp}:∀(t:Th){v:V},Dt H v t.toD->Z2 H v t
 |.mk w c,v,h=>by
  simp only[Th.toD]at h;cases h with
  |tup e r=>
   cases r with
   |cons a b=>cases a;exact .mk e (uX c b)
theorem uX{H:Hp}:∀(b:List Th){a:List V},O6 H a (Wg b)->Zp H a b
 |[],a,h=>by simp only[Wg]at h;cases h;exact .nil
 |t::r,a,h=>by
  simp only[Wg]at h;cases h with
  |cons c d=>exact .cons (uT t c) (uX r d)
end
theorem Ob(h:Z2 H (.ref b) t)(ok:t.ok=Gg)(a:t.depth<=8):gJ H b (kd t):={by rw[R9];exact h.dt,by rw[R9];exact jf t ok,by rw[HN];exact a}
mutual
theorem wa{H a:Hp}(e:Qp H a):∀(k:KD){v:V},Dt H v k.toD->Dt a v k.toD
 |.int i,v,h=>by simp only[KD.toD]at h⊢;cases h;exact .int i
 |.str x,v,h=>by simp only[KD.toD]at h⊢;cases h;exact .str x
 |.tup d,v,h=>by
  simp only[KD.toD]at h⊢;cases h with
  |tup b c=>exact .tup (e _ _ b) (zQ e d c)
theorem zQ{H b:Hp}(e:Qp H b):∀(c:List KD){a:List V},O6 H a (U3 c)->O6 b a (U3 c)
 |[],a,h=>by simp only[U3]at h⊢;cases h;exact .nil
 |k::r,a,h=>by
  simp only[U3]at h⊢;cases h with
  |cons d f=>exact .cons (wa e k d) (zQ e r f)
end
theorem Q8(e:Qp H H'){a:List KE}(h:Vd H a):Vd H' a:=λp b=>{wa e p.1 (h p b).1,(h p b).2}
structure Num(P:Gi)(w:Gu)(H:Hp)(d:Gc)(S:List Th)(L:Th->Int):Prop where
 ex:∃zw:List KE,H d=Ga (Vx P w d zw)/\Vd H zw/\zw.map (·.1)=S.map kd/\∀t∈S,Yf zw (kd t)=Ga (.int (L t))
 ok:∀t∈S,t.ok=Gg/\t.depth<=8
theorem Num.at(N:Num P w H d S L):∃o,H d=Ga (.ext o):=by obtain⟨a,h,_⟩:=N.ex;exact{_,h}
theorem Num.keep(N:Num P w H d S L)(h:∀o,H d=Ga o->H' d=Ga o)(e:Qp H H'):Num P w H' d S L:=by obtain⟨a,b,c,f,g⟩:=N.ex;exact{{a,h _ b,Q8 e c,f,g},N.ok}
theorem Num.same(N:Num P w H d S L)(e:Qx H H'):Num P w H' d S L:=N.keep (λo h=>e d o h) (Qp.of e)
theorem Num.get{Q:VK}(N:Num P w H d S L)(a:t∈S)(h:Z2 H (.ref b) t)(q:Q (.int (L t)) H):iH P w (.ref d) (.ref b) H Q:=by obtain⟨c,e,f,i,g⟩:=N.ex;exact{d,b,kd t,c,_,Xb,Xb,⟨e,f⟩,Ob h (N.ok t a).1 (N.ok t a).2,g t a,q}
theorem Num.put{P:Gi}{w:Gu}{H:Hp}{d b:Gc}{S:List Th}{L:Th->Int}{t:Th}{i:Int}{Q:Hp->Prop}(N:Num P w H d S L)(f:S.length<=1000000)(g:t∈S)(h:Z2 H (.ref b) t)
  (q:∀f,(∀c o,H c=Ga o->c≠d->f c=Ga o)->Num P w f d S (λu=>if u=t then i else L u)->Q f):kL P w (.ref d) (.ref b) (.int i) H Q:=by
 obtain⟨a,j,k,l,m⟩:=N.ex;have v:a.length=S.length:=by have:=congrArg List.length l;simpa using this
 have n:=Ob h (N.ok t g).1 (N.ok t g).2;refine{d,b,kd t,a,Xb,Xb,⟨j,k⟩,n,by rw[Gz];ext,q _ (λc o e f=>by rw[Qg f];exact e) ?_};have s:Qp H (zj H d (Vx P w d (Wv a (kd t) b (.int i)))):=Zk λx e=>by rw[j]at e;cases e
 refine{{_,Qb,Q8 s (k.put n),?_,λu r=>?_},N.ok}
 .rw[qR b _ (m t g),List.map_map];rw[<-l];refine List.map_congr_left λp _=>?_;show(if p.1=kd t then(p.1,p.2.1,V.int i)else p).1=p.1;split<;>rfl
 .rw[Jj];by_cases e:u=t
  .subst e;rw[Gn Xb,Gn rfl]
  .rw[Gh (λz=>e (O4 z)),Gh e];exact m u r
theorem Num.add{i:Int}{Q:Hp->Prop}(N:Num P w H d S L)(j:S.length<=1000000)(C:¬t∈S)(ok:t.ok=Gg)(l:t.depth<=8)(h:Z2 H (.ref b) t)
  (q:∀j,(∀c o,H c=Ga o->c≠d->j c=Ga o)->Num P w j d (S++[t]) (λu=>if u=t then i else L u)->Q j):kL P w (.ref d) (.ref b) (.int i) H Q:=by
 obtain⟨f,m,n,k,y⟩:=N.ex;have E:f.length=S.length:=by have:=congrArg List.length k;simpa using this
 have s:=Ob h ok l;have g:Yf f (kd t)=Ge:=by
  cases e:Yf f (kd t)with
  |none=>rfl
  |some v=>exfalso;unfold Yf at e;obtain⟨p,r,_⟩:=EN.mp e;have A:=List.find?_some r;have B:p.1=kd t:=TU A;have j:kd t∈f.map (·.1):=List.mem_map.mpr {p,List.mem_of_find?_eq_some r,B};rw[k]at j;obtain⟨u,a,x⟩:=List.mem_map.mp j;exact C (O4 x▸a)
 refine{d,b,kd t,f,Xb,Xb,⟨m,n⟩,s,by rw[Gz];ext,q _ (λc o e j=>by rw[Qg j];exact e) ?_};have D:Qp H (zj H d (Vx P w d (Wv f (kd t) b (.int i)))):=Zk λF e=>by rw[m]at e;cases e
 refine{{_,Qb,Q8 D (n.put s),?_,λu a=>?_},λu a=>?_}
 .rw[sH b _ g,List.map_append,k,List.map_append];rfl
 .rw[Jj];by_cases e:u=t
  .subst e;rw[Gn Xb,Gn rfl]
  .rw[Gh (λz=>e (O4 z)),Gh e];rcases List.mem_append.mp a with a|a
   .exact y u a
   .rw[List.mem_singleton]at a;exact absurd a e
 .rcases List.mem_append.mp a with a|a
  .exact N.ok u a
  .rw[List.mem_singleton]at a;subst a;exact⟨ok,l⟩
theorem Num.B7{Q:VK}(N:Num P w H d S L)(ok:t.ok=Gg)(i:t.depth<=8)(h:Z2 H (.ref b) t)(q:Q (.bl (!decide (t∈S))) H):nt P w (λb=>!b) (.ref b) (.ref d) H Q:=by
 obtain⟨a,k,l,m,n⟩:=N.ex;exists b,d,kd t,a,Xb,Xb,⟨k,l⟩,Ob h ok i;have e:(Yf a (kd t)).isSome=decide (t∈S):=by
  by_cases c:t∈S
  .rw[Tc c,n t c];rfl
  .rw[GQ c];cases e:Yf a (kd t)with
   |none=>rfl
   |some v=>exfalso;unfold Yf at e;obtain⟨p,g,_⟩:=EN.mp e;have o:=List.find?_some g;have r:p.1=kd t:=TU o;have f:kd t∈a.map (·.1):=List.mem_map.mpr {p,List.mem_of_find?_eq_some g,r};rw[m]at f;obtain⟨u,s,j⟩:=List.mem_map.mp f;exact c (O4 j▸s)
 rw[e];exact q
theorem Num.names(N:Num P w H d S L):∃a,DH P w H d a/\a.length=S.length/\Zp H (a.map λp=>V.ref p.2.1) S:=by
 obtain⟨a,f,b,c,j⟩:=N.ex;have i:a.length=S.length:=by have:=congrArg List.length c;simpa using this
 exists a,⟨f,b⟩,i;have all:∀(l:List KE)(S:List Th),(∀p∈l,p∈a)->l.map (·.1)=S.map kd->Zp H (l.map λp=>V.ref p.2.1) S:=by
  intro l;induction l with
  |nil=>intro S _ e;cases S with
   |nil=>exact .nil
   |cons t r=>simp at e
  |cons p l h=>intro S sub e;cases S with
   |nil=>simp at e
   |cons t r=>simp only[List.map_cons,List.cons.injEq]at e;refine .cons (uT t ?_) (h r (λq g=>sub q (List.mem_cons_of_mem _ g)) e.2);have:=(b p (sub p List.mem_cons_self)).1;rw[e.1,R9]at this;exact this
 exact all a S (λ_ h=>h) c
def tw(b:Bool):GY:=if b then"same"else"unlike"
def Vr(H:Hp):List V->Tl->Prop:=Paired λx p=>∃a v u,x=.ref a/\H a=Ga (.tup [.str (tw p.1),v,u])/\Z2 H v p.2.1/\Z2 H u p.2.2
theorem Vr.Ql{H b:Hp}(e:Qp H b){d:List V}{c:Tl}(h:Vr H d c):Vr b d c:=L2.Paired.Yb h λx p⟨a,v,u,f,g,i,j⟩=>{a,v,u,f,e _ _ g,i.Ql e,j.Ql e}
def gM(H:Hp):List V->List (Th×Th)->Prop:=Paired λx p=>∃a v u,x=.ref a/\H a=Ga (.tup [v,u])/\Z2 H v p.1/\Z2 H u p.2
theorem gM.Ql{H b:Hp}(e:Qp H b){c:List V}{l:List (Th×Th)}(h:gM H c l):gM b c l:=L2.Paired.Yb h λx p⟨a,v,u,d,f,g,i⟩=>{a,v,u,d,e _ _ f,g.Ql e,i.Ql e}
theorem Qy{a d:Type}{F:a->d->Prop}:∀{b:List a}{c:List d}{i:Nat}{x:a},Paired F b c->b[i]?=Ga x->∃y,c[i]?=Ga y/\F x y
 |_,_,_,_,.nil,e=>by simp at e
 |_,_,0,_,.cons h _,e=>by simp at e;subst e;exact{_,Xb,h}
 |_,_,i+1,_,.cons _ t,e=>by obtain⟨y,f,g⟩:=Qy (i:=i) t (by simpa using e);exact{y,by simpa using f,g}
theorem Yh{e f:Type}{F:e->f->Prop}:∀{a b:List e}{c d:List f},Paired F a c->Paired F b d->Paired F (a++b) (c++d)
 |_,_,_,_,.nil,t=>t
 |_,_,_,_,.cons h r,t=>.cons h (Yh r t)
def Rt(tl:Tl):List (Th×Th):=(tl.filter (·.1)).map (·.2)
theorem we{a b:Th}:(a,b)∈Rt tl↔(Gg,a,b)∈tl:=by
 unfold Rt;rw[List.mem_map];constructor
 .rintro⟨⟨c,x⟩,h,e⟩;rw[List.mem_filter]at h;obtain⟨d,f⟩:=h;have:c=Gg:=f;subst this;cases e;exact d
 .intro h;exact{(Gg,a,b),List.mem_filter.mpr ⟨h,Xb⟩,Xb}
inductive tM(P:Gi)(w:Gu)(vs:List V)(H:Hp)(Q:VK):Prop
 |mk (a:Gc) (b:Gc) (us:List V) (vs':List V) (tl:Tl) (ts:List Th) (h0:vs=[.ref a,.ref b]) (h1:H a=Ga (.lst us)) (h2:Vr H us tl) (h3:H b=Ga (.lst vs')) (h4:Zp H vs' ts) (h5:(∀t∈ts,t.ok=Gg/\t.depth<=8)) (h6:(∀p∈tl,(p.2.1.ok=Gg/\p.2.1.depth<=8)/\p.2.2.ok=Gg/\p.2.2.depth<=8)) (h7:Qs ts+Qs (tl.map (·.2.1))+Qs (tl.map (·.2.2))<=3000) (h8:∀(d:Gc)(S:List Th)(L:Th->Int)(H':Hp),Qx H H'->H d=Ge->Num P w H' d S L->Tells tl S L->(∀t∈ts,t∈S)->(∀p∈tl,p.2.1∈S/\p.2.2∈S)->Q (.ref d) H'):tM P w vs H Q
def mO(P:Gi)(w:Gu):Sp:=λa H Q _=>tM P w a H Q
end Sb
namespace L2
open PySem PySem.Spec PyProof.Rows
variable{d:Gc}{H:Hp}
theorem Pf{K:Gd}{a p:Gc}{xs:List V}{g:TG}{A:TT}{z:TE}{Q:Hp->Prop}{n:St}{t:Hp}(f:xs.length<=Gj)(h:Nat->List V->St->Hp->Prop)(B:h 0 [] n (zj t p (.lst [])))
  (E:∀i c d H,i<=xs.length->h i c d H->Zb K H a xs)
  (F:∀i x c d H,xs[i]?=Ga x->h i c d H->H p=Ga (.lst c)->g x d H λj H2=>A j H2 λb o=>if b=Gg then z j o λv u=>u p=Ga (.lst c)/\h (i+1) (c++[v]) j (zj u p (.lst (c++[v])))else o p=Ga (.lst c)/\h (i+1) c j o)
  (C:∀c d H,h xs.length c d H->H p=Ga (.lst c)->Q H):iB p (hV K a) g A z Q n (zj t p (.lst [])):=by
 exists λi m d H=>m=xs.length - i/\i<=xs.length/\∃c,c.length<=i/\h i c d H/\H p=Ga (.lst c),{xs.length,by simp,Gw _,[],Gm _,B,Qb};rintro i m d H ⟨rfl,D,c,G,pv,w⟩;have q:=E i c d H D pv;by_cases l:i<xs.length
 .refine .inr ⟨{xs,xs[i],q,by simp[l]},λv f k=>k p=Ga (.lst c)/\h (i+1) (c++[v]) f (zj k p (.lst (c++[v]))),λf k=>k p=Ga (.lst c)/\h (i+1) c f k,
   λv f k⟨r,s⟩=>{c,r,by lia,xs.length - (i+1),by lia,Xb,l,c++[v],by simp[G],s,Qb},λf k⟨r,s⟩=>{xs.length - (i+1),by lia,Xb,l,c,by lia,s,r},λx k y=>?_⟩
  obtain⟨e,y⟩:=y;subst e;exact F i x c d _ (y xs q) pv w
 .have e:i=xs.length:=by lia
  subst e;exact .inl {{xs,q,Gm _},C c d H pv w}
def Tr(t:TS)(c a:St->Hp->Prop):Prop:=∀D σ H,c σ H->(∀b H',a b H'->D.nx b H')->t D σ H
def Jk(d:Gc)(H H':Hp):Prop:=∀c o,H c=Ga o->c≠d->H' c=Ga o
theorem Jk.refl:Jk d H H:=λ_ _ e _=>e
theorem Jk.trans{f g:Hp}(a:Jk d H f)(b:Jk d f g):Jk d H g:=λc o e h=>b c o (a c o e h) h
theorem Jk.of{a:Hp}(e:Qx H a):Jk d H a:=λc o h _=>e c o h
end L2
namespace Sb
open PySem PySem.Spec PyProof.Rows L2
variable{H:Hp}{tl tl':Tl}{x y:Th}{φ ψ:GY->GY}
theorem _root_.L2.Jk.Ql{d:Gc}{f:Hp}{o:HO}(b:Jk d H f)(h:H d=Ga o)(g:∀a,o≠.tup a):Qp H f:=λc a e=>b c _ e λz=>by subst z;rw[h]at e;exact g a (To e)
theorem tH{a:Type}{p q:a->Bool}:∀{l:List a},(∀x∈l,p x=Gg->q x=Gg)->l.countP p<=l.countP q
 |[],_=>by simp
 |x::l,h=>by
  have d:=tH (l:=l) λy c=>h y (List.mem_cons_of_mem _ c);have b:=h x List.mem_cons_self;rw[List.countP_cons,List.countP_cons];cases e1:p x with
  |true=>rw[b e1];simp;exact d
  |false=>simp;lia
theorem yb{e:Type}{p q:e->Bool}:∀{l:List e},(∀x∈l,p x=Gg->q x=Gg)->(∃x∈l,q x=Gg/\p x=Gq)->l.countP p<l.countP q
 |[],_,⟨x,a,_⟩=>nomatch a
 |x::l,h,⟨y,a,b,c⟩=>by
  have d:∀y∈l,p y=Gg->q y=Gg:=λy a=>h y (List.mem_cons_of_mem _ a);have i:=tH d;rw[List.countP_cons,List.countP_cons];rcases List.mem_cons.mp a with z|z
  .subst z;rw[b,c];simp;ext
  .have g:=yb d ⟨y,z,b,c⟩;have f:=h x List.mem_cons_self;cases e3:p x with
   |true=>rw[f e3];simp;exact g
   |false=>simp;ext
def dis(S:List Th)(L:Th->Int):Nat:=(S.flatMap λx=>S.map λy=>(x,y)).countP λp=>decide (L p.1≠L p.2)
theorem IQ{S:List Th}{L a:Th->Int}(h:∀x∈S,∀y∈S,L x=L y->a x=a y)(i:∃x∈S,∃y∈S,L x≠L y/\a x=a y):dis S a<dis S L:=by
 obtain⟨x,c,y,d,f,g⟩:=i;refine yb (λp b e=>?_) {(x,y),?_,Tc f,by simp[g]}
 .rw[List.mem_flatMap]at b;obtain⟨x,c,b⟩:=b;obtain⟨y,d,rfl⟩:=List.mem_map.mp b;exact Tc λz=>(TU e) (h x c y d z)
 .rw[List.mem_flatMap];exact{x,c,List.mem_map.mpr ⟨y,d,Xb⟩}
theorem qe{H:Hp}:∀l:List Int,O6 H (l.map V.int) (l.map EB)
 |[]=>.nil
 |i::r=>.cons (.int i) (qe r)
theorem pj:∀l:List Int,Gx (l.map EB)=Gg
 |[]=>by simp[Gx]
 |i::r=>by simp[Gx,Tt,pj r]
theorem rB:∀l:List Int,Tv (l.map EB)<=1
 |[]=>by simp[Tv]
 |i::r=>by have:=rB r;simp only[List.map_cons,Tv,DK];ext
theorem zH:∀l m:List Int,TC (l.map EB) (m.map EB)=decide (l=m)
 |[],[]=>by simp[TC]
 |[],_::_=>by simp[TC]
 |_::_,[]=>by simp[TC]
 |i::l,j::m=>by
  simp only[List.map_cons,TC,TD,zH l m];by_cases h:i=j
  .subst h;simp
  .simp[h]
theorem uk{P:Gi}{w:Gu}{K:Gd}{r p d:Gc}{k:List V}{g S:List Th}{L:Th->Int}{Q:Hp->Prop}(y:H r=Ga (.tup k))(f:Zp H k g)(c:∀t∈g,t∈S)(N:Num P w H d S L)(m:H p=Ge)(b:k.length<=3000)
  (q:∀b,Qx H b->b p=Ga (.lst ((g.map L).map V.int))->Q b):iB p (ij K r) (Vn 0) ko (tOp (iH P w) (Vw 1) (Vw 0)) Q [Ge,Ga (.ref d)] (zj H p (.lst [])):=by
 refine Jd (K:=K) (a:=r) (xs:=k) (small (by ext)) (λi h l j=>(∃u,l=[u,Ga (.ref d)])/\h=((g.take i).map L).map V.int/\j=zj H p (.lst h)) {{_,Xb},by simp,Xb} (λi h l j _⟨_,_,e⟩=>Zz.of (by rw[e];exact Qf m _ _ _ y)) ?_ ?_
 .rintro i x h l j v n ⟨⟨u,rfl⟩,rfl,rfl⟩ a;obtain⟨t,e,o⟩:=f.get v;obtain⟨b,_,_,_,rfl,_,_,_⟩:=o.inv;have s:=Qf m (.lst (((g.take i).map L).map V.int));refine{_,Xb,_,Xb,(N.same s).get (c t (List.mem_of_getElem? e)) (o.same s) {a,{_,Xb},?_,?_}}
  .rw[List.take_add_one,e];simp
  .rw[Vz]
 .rintro h l j n ⟨_,rfl,rfl⟩ a;rw[f.length,List.take_length]at a⊢;exact q _ (Qf m _) a
inductive Dd where
 |tell (b:Bool) (x y:Th)
 |ask (x y:Th)
 |back (i:Int)
variable{d:Dd}
def Dd.fits(ts:List Th):Dd->Prop
 |.tell _ x y=>x∈ts/\y∈ts
 |.ask x y=>x∈ts/\y∈ts
 |.back _=>True
def hE(H:Hp)(x:V):Dd->Prop
 |.tell b t u=>∃a c d,x=.ref a/\H a=Ga (.tup [.str (tw b),c,d])/\Z2 H c t/\Z2 H d u
 |.ask t u=>∃a c d,x=.ref a/\H a=Ga (.tup [.str "ask",c,d])/\Z2 H c t/\Z2 H d u
 |.back i=>∃a,x=.ref a/\H a=Ga (.tup [.str "back",.int i])
theorem hE.Ql{H j:Hp}(e:Qp H j){x:V}:∀{d:Dd},hE H x d->hE j x d
 |.tell _ _ _,⟨a,h,i,b,c,f,g⟩=>{a,h,i,b,e _ _ c,f.Ql e,g.Ql e}
 |.ask _ _,⟨a,h,i,b,c,f,g⟩=>{a,h,i,b,e _ _ c,f.Ql e,g.Ql e}
 |.back _,⟨a,b,c⟩=>{a,b,e _ _ c}
def U8(H:Hp):List V->List Dd->Prop:=Paired λx d=>hE H x d
theorem U8.Ql{H a:Hp}(e:Qp H a){c:List V}{b:List Dd}(h:U8 H c b):U8 a c b:=L2.Paired.Yb h λ_ _ h=>h.Ql e
theorem U8.same{a:Hp}(e:Qx H a){c:List V}{b:List Dd}(h:U8 H c b):U8 a c b:=h.Ql (Qp.of e)
inductive u7(K:Gd)(vs:List V)(H:Hp)(Q:VK):Prop
 |mk (a:Gc) (b:Gc) (ns:List Int) (us:List V) (ts:List Th) (h0:vs=[.ref a,.ref b]) (h1:Zb K H a (ns.map V.int)) (h2:ns.length<=63) (h3:H b=Ga (.lst us)) (h4:Zp H us ts) (h5:0<ts.length) (h6:ts.length<=1000) (h7:∀(r:Gc)(es:List V)(dl:List Dd)(H':Hp),Qx H H'->H r=Ge->H' r=Ga (.lst es)->U8 H' es dl->dl.length=ns.length->(∀d∈dl,d.fits ts)->Q (.ref r) H'):u7 K vs H Q
def zD(K:Gd):Sp:=λa H Q _=>u7 K a H Q
inductive xp(vs:List V)(H:Hp)(Q:VK):Prop
 |mk (n:Int) (h0:vs=[.int n]) (h1:∀(m:Int)(H':Hp),Qx H H'->Q (.int m) H'):xp vs H Q
def uN:Sp:=λa H Q _=>xp a H Q
def oT(tl:Tl)(x y:Th)(k:GY):Prop:=(k="equal"/\Cg tl x y)\/(k="unlike"/\¬Cg tl x y/\∃a b,(Gq,a,b)∈tl/\Cg (tl++[(Gg,x,y)]) a b)\/(k="open"/\¬Cg tl x y/\∀a b,(Gq,a,b)∈tl->¬Cg (tl++[(Gg,x,y)]) a b)
inductive Yv(tl:Tl):Prop
 |mk (a:_) (b:_) (h0:(Gq,a,b)∈tl) (h1:Cg tl a b):Yv tl
inductive xo(vs:List V)(H:Hp)(Q:VK):Prop
 |mk (a:Gc) (us:List V) (tl:Tl) (v1:V) (v2:V) (x:Th) (y:Th) (h0:vs=[.ref a,v1,v2]) (h1:H a=Ga (.lst us)) (h2:Vr H us tl) (h3:Z2 H v1 x) (h4:Z2 H v2 y) (h5:(x.ok=Gg/\x.depth<=8)) (h6:(y.ok=Gg/\y.depth<=8)) (h7:(∀p∈tl,(p.2.1.ok=Gg/\p.2.1.depth<=8)/\p.2.2.ok=Gg/\p.2.2.depth<=8)) (h8:Qs (tl.map (·.2.1))+Qs (tl.map (·.2.2))+x.size+y.size<=3000) (h9:∀(k:GY)(H':Hp),Qx H H'->oT tl x y k->Q (.str k) H'):xo vs H Q
def yQ:Sp:=λa H Q _=>xo a H Q
inductive wY(vs:List V)(H:Hp)(Q:VK):Prop
 |mk (a:Gc) (e:Gc) (us:List V) (tl:Tl) (v1:V) (v2:V) (b:Bool) (x:Th) (y:Th) (h0:vs=[.ref a,.ref e]) (h1:H a=Ga (.lst us)) (h2:Vr H us tl) (h3:H e=Ga (.tup [.str (tw b),v1,v2])) (h4:Z2 H v1 x) (h5:Z2 H v2 y) (h6:(x.ok=Gg/\x.depth<=8)) (h7:(y.ok=Gg/\y.depth<=8)) (h8:(∀p∈tl,(p.2.1.ok=Gg/\p.2.1.depth<=8)/\p.2.2.ok=Gg/\p.2.2.depth<=8)) (h9:Qs (tl.map (·.2.1))+Qs (tl.map (·.2.2))+x.size+y.size<=3000) (h10:∀(r:Bool)(H':Hp),Qx H H'->(r=Gg↔Yv (tl++[(b,x,y)]))->Q (.bl r) H'):wY vs H Q
def qJ:Sp:=λa H Q _=>wY a H Q
open Classical in
noncomputable def kindOf(tl:Tl)(x y:Th):GY:=if Cg tl x y then"equal"else if∃a b,(Gq,a,b)∈tl/\Cg (tl++[(Gg,x,y)]) a b then"unlike"else"open"
theorem oT.eq{k:GY}(h:oT tl x y k):k=kindOf tl x y:=by
 unfold kindOf;rcases h with⟨e,c⟩|⟨e,c,d⟩|⟨e,c,d⟩
 .rw[Gn c,e]
 .rw[Gh c,Gn d,e]
 .rw[Gh c,Gh (λ⟨a,b,f,g⟩=>d a b f g),e]
open Classical in
noncomputable def Vt(tl:Tl):Dd->Tl×V
 |.ask x y=>(tl,.str (kindOf tl x y))
 |.back i=>if 0<=i/\i<=(tl.length:Int)then(tl.take i.toNat,.int ((tl.length:Int) - i))else(tl,.str "no moment")
 |.tell b x y=>if Yv (tl++[(b,x,y)])then(tl,.str "clash")else(tl++[(b,x,y)],.int ((tl.length:Int)+1))
noncomputable def after(tl:Tl):List Dd->Tl
 |[]=>tl
 |d::ds=>after (Vt tl d).1 ds
noncomputable def jN(tl:Tl):List Dd->List V
 |[]=>[]
 |d::ds=>(Vt tl d).2::jN (Vt tl d).1 ds
theorem ud(c:Tl):∀(b a:List Dd),after c (b++a)=after (after c b) a
 |[],a=>rfl
 |d::b,a=>ud (Vt c d).1 b a
theorem yk{a:List Dd}{k:Nat}(h:a[k]?=Ga d):after tl (a.take (k+1))=(Vt (after tl (a.take k)) d).1:=by rw[List.take_add_one,h,ud];rfl
def Th.good(t:Th):Prop:=t.ok=Gg/\t.depth<=8/\t.size<=100
def Dd.good:Dd->Prop
 |.tell _ x y=>x.good/\y.good
 |.ask x y=>x.good/\y.good
 |.back _=>True
def iM(tl:Tl):Prop:=∀p∈tl,p.2.1.good/\p.2.2.good
theorem OL(h:iM tl)(g:d.good):iM (Vt tl d).1:=by
 cases d with
 |ask x y=>exact h
 |back i=>
  simp only[Vt];split
  .exactλp a=>h p (List.mem_of_mem_take a)
  .exact h
 |tell b x y=>
  simp only[Vt];split
  .exact h
  .intro p a;rcases List.mem_append.mp a with z|z
   .exact h p z
   .rw[List.mem_singleton]at z;subst z;exact g
theorem Pj:(Vt tl d).1.length<=tl.length+1:=by
 cases d with
 |ask x y=>exact EI _
 |back i=>
  simp only[Vt];split
  .rw[List.length_take];ext
  .exact EI _
 |tell b x y=>
  simp only[Vt];split
  .exact EI _
  .rw[List.length_append,List.length_singleton];ext
theorem Oh:∀{ds:List Dd}{tl:Tl},iM tl->(∀d∈ds,d.good)->iM (after tl ds)
 |[],_,h,_=>h
 |d::ds,tl,h,g=>by have:=Oh (ds:=ds) (tl:=(Vt tl d).1) (OL h (g d List.mem_cons_self)) λe a=>g e (List.mem_cons_of_mem _ a);simp only[after];exact this
theorem Rj:∀{ds:List Dd}{tl:Tl},(after tl ds).length<=tl.length+ds.length
 |[],tl=>Gm _
 |d::ds,tl=>by have a:=Rj (ds:=ds) (tl:=(Vt tl d).1);have b:=Pj (tl:=tl) (d:=d);simp only[after,List.length_cons];lia
theorem zG(h:iM tl):Qs (tl.map (·.2.1))<=tl.length*100/\Qs (tl.map (·.2.2))<=tl.length*100:=by
 have c:=Im (tl.map (·.2.1)) 100 λt b=>by obtain⟨p,a,rfl⟩:=List.mem_map.mp b;exact(h p a).1.2.2
 have d:=Im (tl.map (·.2.2)) 100 λt b=>by obtain⟨p,a,rfl⟩:=List.mem_map.mp b;exact(h p a).2.2.2
 rw[List.length_map]at c d;exact⟨c,d⟩
def OG(H:Hp)(v:V)(h:V):Prop:=v=h\/∃a xs,v=.ref a/\H a=Ga (.tup (h::xs))
structure jZ(U:List Th):Prop where
 cl:V5 U
 good:∀t∈U,t.good
 len:U.length<=60
theorem vr{b:List Th}(h:∀t∈b,∀p∈t.parts,p∈b):V5 b:=by
 have d:∀n:Nat,∀t∈b,t.depth<=n->∀s∈t.inside,s∈b:=by
  intro n;induction n with
  |zero=>intro t _ e;have:=qg t;lia
  |succ n g=>
   intro t c e s a;cases t with
   |mk u i=>
    simp only[Th.inside,List.mem_append,List.mem_singleton]at a;rcases a with a|rfl
    .rw[Xu,List.mem_flatMap]at a;obtain⟨p,f,a⟩:=a;have:=X7 f;simp only[Th.depth]at e;exact g p (h _ c p f) (by lia) s a
    .exact c
 exactλt c=>d _ t c (Gm _)
theorem vo{A c B d:Prop}[Decidable A][Decidable c][Decidable B][Decidable d]{x y z:GY}(e:A=c)(f:B=d):(if A then x else if B then y else z)=(if c then x else if d then y else z):=by
 subst e f;by_cases a:A
 .rw[Gn a,Gn a]
 .by_cases b:B
  .rw[Gh a,Gh a,Gn b,Gn b]
  .rw[Gh a,Gh a,Gh b,Gh b]
mutual
def Th.V1(a:GY->GY):Th->Th
 |.mk w ps=>.mk (a w) (Uk a ps)
def Uk(a:GY->GY):List Th->List Th
 |[]=>[]
 |p::r=>p.V1 a::Uk a r
end
def U4(a:GY->GY)(p:Bool×Th×Th):Bool×Th×Th:=(p.1,p.2.1.V1 a,p.2.2.V1 a)
mutual
theorem Cg.V1{b:Tl}(a:GY->GY):∀{s t:Th},Cg b s t->Cg (b.map (U4 a)) (s.V1 a) (t.V1 a)
 |_,_,.refl t=>.refl _
 |_,_,.symm c=>.symm (Cg.V1 a c)
 |_,_,.trans c d=>.trans (Cg.V1 a c) (Cg.V1 a d)
 |_,_,.told m=>.told (List.mem_map.mpr {_,m,Xb})
 |_,_,.cong c=>by simp only[Th.V1];exact .cong (gk.V1 a c)
theorem gk.V1{b:Tl}(a:GY->GY):∀{s t:List Th},gk b s t->gk (b.map (U4 a)) (Uk a s) (Uk a t)
 |_,_,.nil=>by simp only[Uk];exact .nil
 |_,_,.cons c d=>by simp only[Uk];exact .cons (Cg.V1 a c) (gk.V1 a d)
end
mutual
theorem O7{a b:GY->GY}(h:∀w,b (a w)=w):∀t:Th,(t.V1 a).V1 b=t
 |.mk w c=>by simp only[Th.V1,h,yq h c]
theorem yq{b c:GY->GY}(h:∀w,c (b w)=w):∀a:List Th,Uk c (Uk b a)=a
 |[]=>by simp only[Uk]
 |t::r=>by simp only[Uk,O7 h t,yq h r]
end
theorem P5(h:∀w,ψ (φ w)=w)(a:Tl):(a.map (U4 φ)).map (U4 ψ)=a:=by
 rw[List.map_map];have:(U4 ψ∘U4 φ)=id:=funext λ⟨b,x,y⟩=>by simp only[LP,U4,O7 h,id]
 rw[this,List.map_id]
theorem jW(h:∀w,ψ (φ w)=w):Cg (tl.map (U4 φ)) (x.V1 φ) (y.V1 φ)↔Cg tl x y:=by
 constructor
 .intro c;have:=Cg.V1 ψ c;rw[P5 h,O7 h,O7 h]at this;exact this
 .exact Cg.V1 φ
theorem HR(h:∀w,ψ (φ w)=w):Yv (tl.map (U4 φ))↔Yv tl:=by
 constructor
 .rintro⟨a,b,m,c⟩;obtain⟨⟨d,x,y⟩,f,e⟩:=List.mem_map.mp m;simp only[U4,TX]at e;obtain⟨rfl,rfl,rfl⟩:=e;exact{x,y,f,(jW h).mp c}
 .rintro⟨a,b,m,c⟩;exact{_,_,List.mem_map.mpr {_,m,Xb},(jW h).mpr c}
theorem K3(h:∀w,ψ (φ w)=w):kindOf (tl.map (U4 φ)) (x.V1 φ) (y.V1 φ)=kindOf tl x y:=by
 unfold kindOf;have f:Cg (tl.map (U4 φ)) (x.V1 φ) (y.V1 φ)=Cg tl x y:=propext (jW h);have g:(∃a b,(Gq,a,b)∈tl.map (U4 φ)/\Cg (tl.map (U4 φ)++[(Gg,x.V1 φ,y.V1 φ)]) a b)=(∃a b,(Gq,a,b)∈tl/\Cg (tl++[(Gg,x,y)]) a b):=by
  have i:tl.map (U4 φ)++[(Gg,x.V1 φ,y.V1 φ)]=(tl++[(Gg,x,y)]).map (U4 φ):=by rw[List.map_append];rfl
  rw[i];refine propext {?_,?_}
  .rintro⟨a,b,m,c⟩;obtain⟨⟨d,u,v⟩,j,e⟩:=List.mem_map.mp m;simp only[U4,TX]at e;obtain⟨rfl,rfl,rfl⟩:=e;exact{u,v,j,(jW h).mp c}
  .rintro⟨a,b,m,c⟩;exact{_,_,List.mem_map.mpr {_,m,Xb},(jW h).mpr c}
 exact@vo _ _ _ _ (TZ _) (TZ _) (TZ _) (TZ _) _ _ _ f g
def Sub(tl a:Tl):Prop:=∀b x y,(b,x,y)∈tl->(b,x,y)∈a\/(b,y,x)∈a
mutual
theorem Cg.sub{b a:Tl}(h:Sub b a):∀{s t:Th},Cg b s t->Cg a s t
 |_,_,.refl t=>.refl t
 |_,_,.symm c=>.symm (Cg.sub h c)
 |_,_,.trans c d=>.trans (Cg.sub h c) (Cg.sub h d)
 |_,_,.told m=>by
  rcases h _ _ _ m with z|z
  .exact .told z
  .exact .symm (.told z)
 |_,_,.cong c=>.cong (gk.sub h c)
theorem gk.sub{b a:Tl}(h:Sub b a):∀{s t:List Th},gk b s t->gk a s t
 |_,_,.nil=>.nil
 |_,_,.cons c d=>.cons (Cg.sub h c) (gk.sub h d)
end
theorem Sub.app(h:Sub tl tl'){p q:Bool×Th×Th}(a:q=p\/q=(p.1,p.2.2,p.2.1)):Sub (tl++[p]) (tl'++[q]):=by
 intro b x y m;rcases List.mem_append.mp m with m|m
 .rcases h b x y m with z|z
  .exact .inl (List.mem_append_left _ z)
  .exact .inr (List.mem_append_left _ z)
 .rw[List.mem_singleton]at m;subst m;rcases a with rfl|rfl
  .exact .inl (List.mem_append_right _ List.mem_cons_self)
  .exact .inr (List.mem_append_right _ List.mem_cons_self)
theorem Js(h:Sub tl tl')(b:Yv tl):Yv tl':=by
 obtain⟨x,y,m,c⟩:=b;rcases h _ _ _ m with z|z
 .exact{x,y,z,c.sub h}
 .exact{y,x,z,.symm (c.sub h)}
theorem CA(h:Sub tl tl')(i:Sub tl' tl){u v:Th}(e:(u,v)=(x,y)\/(u,v)=(y,x)):kindOf tl x y=kindOf tl' u v:=by
 unfold kindOf;have n:Cg tl x y=Cg tl' u v:=propext ⟨λc=>by
   rcases e with e|e
   .cases e;exact c.sub h
   .cases e;exact .symm (c.sub h),λc=>by
   rcases e with e|e
   .cases e;exact c.sub i
   .cases e;exact .symm (c.sub i)⟩
 have k:Sub (tl++[(Gg,x,y)]) (tl'++[(Gg,u,v)]):=h.app (by rcases e with e|e<;>cases e<;>simp);have l:Sub (tl'++[(Gg,u,v)]) (tl++[(Gg,x,y)]):=i.app (by rcases e with e|e<;>cases e<;>simp);have d:∀{f g:Tl}{p q:Bool×Th×Th},Sub f g->Sub (f++[p]) (g++[q])->(∃a b,(Gq,a,b)∈f/\Cg (f++[p]) a b)->∃a b,(Gq,a,b)∈g/\Cg (g++[q]) a b:=by
  rintro f g p q r j ⟨a,b,m,c⟩;rcases r _ _ _ m with z|z
  .exact{a,b,z,c.sub j}
  .exact{b,a,z,.symm (c.sub j)}
 have o:(∃a b,(Gq,a,b)∈tl/\Cg (tl++[(Gg,x,y)]) a b)=(∃a b,(Gq,a,b)∈tl'/\Cg (tl'++[(Gg,u,v)]) a b):=propext {d h k,d i l};exact@vo _ _ _ _ (TZ _) (TZ _) (TZ _) (TZ _) _ _ _ n o
theorem xr(n:Nat):Sub (tl.take n) tl:=λ_ _ _ m=>.inl (List.mem_of_mem_take m)
theorem QN:¬Yv []:=λ⟨_,_,m,_⟩=>nomatch m
theorem PH(h:¬Yv tl):¬Yv (Vt tl d).1:=by
 cases d with
 |ask x y=>exact h
 |back i=>
  simp only[Vt];split
  .exactλb=>h (Js (xr _) b)
  .exact h
 |tell b x y=>
  simp only[Vt];split
  .exact h
  .rename_i z;exact z
theorem Ow:∀{ds:List Dd}{tl:Tl},¬Yv tl->¬Yv (after tl ds)
 |[],_,h=>h
 |d::ds,tl,h=>by have:=Ow (ds:=ds) (tl:=(Vt tl d).1) (PH h);simp only[after];exact this
def Up(p:Bool×Th×Th):Dd:=.tell p.1 p.2.1 p.2.2
theorem qF:∀(a d:Tl),¬Yv (d++a)->after d (a.map Up)=d++a/\jN d (a.map Up)=(List.range a.length).map λk:Nat=>V.int ((d.length:Int)+(k:Int)+1)
 |[],d,_=>by simp[after,jN]
 |p::a,d,h=>by
  obtain⟨b,x,y⟩:=p;have l:¬Yv (d++[(b,x,y)]):=λz=>h (Js (λc u v m=>.inl (by
   rcases List.mem_append.mp m with m|m
   .exact List.mem_append_left _ m
   .rw[List.mem_singleton]at m;rw[m];exact List.mem_append_right _ List.mem_cons_self)) z)
  have e:Vt d (.tell b x y)=(d++[(b,x,y)],.int ((d.length:Int)+1)):=by simp only[Vt];rw[Gh l]
  have g:d++(b,x,y)::a=(d++[(b,x,y)])++a:=by simp
  rw[g]at h⊢;obtain⟨i,j⟩:=qF a (d++[(b,x,y)]) h;exists ?_
  .simp only[List.map_cons,Up,after,e];exact i
  .simp only[List.map_cons,Up,jN,e];have f:jN (d++[(b,x,y)]) (a.map Up)=(List.range a.length).map λk:Nat=>V.int (((d++[(b,x,y)]).length:Int)+(k:Int)+1):=j;have u:(a.map λp:Bool×Th×Th=>Dd.tell p.1 p.2.1 p.2.2)=a.map Up:=rfl;first
    |rw[u,f]
    |rw[f]
   rw[List.length_cons,List.range_succ_eq_map,List.map_cons,List.map_map];simp only[List.cons.injEq];refine{by simp,List.map_congr_left λk _=>?_};simp only[LP,V.int.injEq,List.length_append,List.length_singleton];ext
end Sb
namespace L2
open PySem PySem.Spec PyProof.Rows
def jS(K:Gd)(a:Gc)(n:Nat):It:=
 {λi H=>∃xs,Zb K H a xs/\xs.length=n/\i<n,λi H x H'=>H'=H/\∀xs,Zb K H a xs->xs[n - 1 - i]?=Ga x,λi _=>i=n}
theorem IC{P:Gi}{Z:Gu}{K:Gd}{tg:TY}(a j:Gc)(n:Nat):iq P Z K tg (jS K a n) [j] j (λi h=>i<=n/\h.IsRevIter j a ((n:Int) - 1 - (i:Int))) where
 mem:=by simp
 obj:=λi h e f g=>by
  have b:f=j:=by simpa using g
  subst b;obtain⟨_,l,b,c,d⟩:=e;exact{l,b,λE z=>by rw[d]at z;cases z}
 keep:=λi h q e k=>{e.1,e.2.at λl b=>k j (by simp) l b}
 item:=by
  intro X D hw C F i I s M v N m r e t;subst D hw C;obtain⟨L,G,hn,T⟩:=t;obtain⟨aa,J,p,hz⟩:=m.list G;have hl:=J.length;have H:L[n - 1 - i]?=Ga (L[n - 1 - i]'(by ext)):=List.getElem?_eq_getElem (by ext);obtain⟨u,U,W⟩:=J.get H;obtain⟨w,x,S,y,A,B⟩:=r j (by simp);have b:(n:Int) - 1 - (i:Int)=((n - 1 - i:Nat):Int):=by ext
  have o:=e.2;rw[b]at o;refine Ls o p.isList (x:=u) (by simpa using U) λq E Y=>?_;have O:zu X I M v {s with heap:=q}:=m.turned (t':=s.toks) (λf l g b=>(Y.2 f g).trans b) w x y A B;have Q:((n - 1 - i:Nat):Int) - 1=(n:Int) - 1 - ((i+1:Nat):Int):=by ext
  rw[Q]at E;obtain⟨l,R,c,d⟩:=id E;exact{u,Xb,ji (s:={s with heap:=q}) R c d (by decide) {_,v,O,W,{Xb,λys V=>by rw[m.qr V G];exact H},⟨T,E⟩,λf g=>(r f g).1}}
 done:=by intro X D hw C F i I s M v N m r e t;subst D hw C;have t:i=n:=t;obtain⟨w,x,S,y,A,B⟩:=r j (by simp);have o:=e.2;rw[show(n:Int) - 1 - (i:Int)= -1 by ext]at o;exact LA (m.ok.hd F) o λq E=>{Xb,m.turned (t':=s.toks) (λf l g b=>E f l g b) w x y A B}
 self:=λ_ _ _ _ _ e h=>E5 e.2 h
inductive zI(K:Gd)(R:It->Hp->Prop)(vs:List V)(H1:Hp):Prop
 |mk (a:_) (xs:_) (h0:vs=[.ref a]) (h1:Zb K H1 a xs) (h2:R (jS K a xs.length) H1):zI K R vs H1
def B5(K:Gd)(ta:TA):TI:=λσ H R=>ta σ H λa H1=>zI K R a H1
section
variable{X:Cx}{tg:TY}
theorem yn{a:TY}{n:TA}{p i:SX}(y:Gl X "reversed")(z:X.mg "reversed"=Ge)(w:PA X [a] n)(B:Ti [a] X.env=[(Gq,eval a X.env)]:=by rfl):PI X tg (.Call (.Name "reversed" p) [a] [] i) (B5 X.K n):=by
 intro d s r H R I h;refine Bp (V6 I y z MT (Dq (Yi (w i d s r H _ I h) λL f⟨M,l,j,E,D⟩=>?_) B Xb));obtain⟨b,k,e,A,q⟩:=D;subst e;obtain⟨u,rfl,F⟩:=vals1 E;cases(show u=Value.ref b from F);obtain⟨g,G,C,K⟩:=j.list A;have J:=G.length;refine L4 C.isList ?_;have t:zu X d r l {f with heap:=f.heap.push (revObj b ((g.toArray.size:Int) - 1))}:=j.kept (t':=f.toks) λb o e=>Heap.get?_push_of_some _ e;have m:(f.heap.push (revObj b ((g.toArray.size:Int) - 1))).IsRevIter f.heap.objs.size b ((k.length:Int) - 1 - ((0:Nat):Int)):=by
  have v:(k.length:Int) - 1 - ((0:Nat):Int)=(g.toArray.size:Int) - 1:=by rw[List.size_toArray];lia
  rw[v];exact{_,Heap.get?_push_size _ Xb,Xb,Xb}
 refine E5 m {f.heap.objs.size,[f.heap.objs.size],_,_,l,Xb,t,IC b _ k.length,{Gw _,m},λc x=>?_,q};have e:c=f.heap.objs.size:=by simpa using x
 subst e;exact j.iD (Gm _) (j.Zv.fresh (Gm _))
end
theorem rh{K:Gd}{a:Gc}{xs:List V}{g:TG}{l:TS}{D:Ends}{b:St}{H:Hp}(c:Nat->St->Hp->Prop)(n:c 0 b H)(s:∀i b H,i<=xs.length->c i b H->Zb K H a xs)
  (t:∀i x b H,xs.reverse[i]?=Ga x->c i b H->g x b H λk H2=>l {D with nx:=c (i+1),ct:=c (i+1),bk:=D.nx} k H2)(o:∀b H,c xs.length b H->D.nx b H):
  ∃W:Nat->Nat->St->Hp->Prop,(∃m,W 0 m b H)/\∀i m b H,W i m b H->
   ((jS K a xs.length).stop i H/\D.nx b H)\/((jS K a xs.length).go i H/\∃N:St->Hp->Prop,(∀j d,N j d->∃h,h<m/\W (i+1) h j d)/\∀x d,(jS K a xs.length).yld i H x d->g x b d λk H2=>l {D with nx:=N,ct:=N,bk:=D.nx} k H2):=by
 exists λi m b H=>m=xs.length - i/\i<=xs.length/\c i b H,{xs.length,by simp,Gw _,n};rintro i m b H ⟨rfl,r,p⟩;have q:=s i b H r p;by_cases f:i<xs.length
 .refine .inr {⟨xs,q,Xb,f⟩,c (i+1),λj d h=>{xs.length - (i+1),by lia,Xb,f,h},λx d y=>?_};obtain⟨e,y⟩:=y;subst e;exact t i x b _ (by rw[List.getElem?_reverse f];exact y xs q) p
 .have e:i=xs.length:=by lia
  subst e;exact .inl {Xb,o b H p}
end L2
namespace Sb
open PySem PySem.Spec PyProof.Rows L2
variable{P:Gi}{w:Gu}{H H':Hp}{d b a f:Gc}{S:Th->Prop}{F:Th->Th}{t:Th}{ts:List Th}
structure Mp(P:Gi)(w:Gu)(H:Hp)(d:Gc)(S:Th->Prop)(F:Th->Th):Prop where
 ex:∃zw:List KE,H d=Ga (Vx P w d zw)/\Vd H zw/\∀t,S t->∃b,Yf zw (kd t)=Ga (.ref b)/\Z2 H (.ref b) (F t)
theorem Mp.at(N:Mp P w H d S F):∃o,H d=Ga (.ext o):=by obtain⟨a,h,_⟩:=N.ex;exact{_,h}
theorem Mp.keep(N:Mp P w H d S F)(j:∀o,H d=Ga o->H' d=Ga o)(e:Qp H H'):Mp P w H' d S F:=by obtain⟨a,g,h,i⟩:=N.ex;exact{a,j _ g,Q8 e h,λt k=>by obtain⟨b,c,f⟩:=i t k;exact{b,c,f.Ql e}}
theorem Mp.same(N:Mp P w H d S F)(e:Qx H H'):Mp P w H' d S F:=N.keep (λo h=>e d o h) (Qp.of e)
theorem Mp.get{Q:VK}(N:Mp P w H d S F)(l:S t)(ok:t.ok=Gg)(g:t.depth<=8)(h:Z2 H (.ref b) t)(q:∀c,Z2 H (.ref c) (F t)->Q (.ref c) H):iH P w (.ref d) (.ref b) H Q:=by obtain⟨a,i,j,k⟩:=N.ex;obtain⟨c,e,f⟩:=k t l;exact{d,b,kd t,a,_,Xb,Xb,⟨i,j⟩,Ob h ok g,e,q c f}
theorem Mp.set{c:Gc}{n:Nat}{Q:Hp->Prop}(N:∃a:List KE,a.length<=n/\H d=Ga (Vx P w d a)/\Vd H a/\∀t,S t->∃b,Yf a (kd t)=Ga (.ref b)/\Z2 H (.ref b) (F t))(f:n<=1000000)(ok:t.ok=Gg)(r:t.depth<=8)(h:Z2 H (.ref b) t)(g:Z2 H (.ref c) (F t))
  (q:∀f,(∀e o,H e=Ga o->e≠d->f e=Ga o)->(∃a:List KE,a.length<=n+1/\f d=Ga (Vx P w d a)/\Vd f a/\∀u,S u\/u=t->∃b,Yf a (kd u)=Ga (.ref b)/\Z2 f (.ref b) (F u))->Q f):kL P w (.ref d) (.ref b) (.ref c) H Q:=by
 obtain⟨a,f,j,k,s⟩:=N;have l:=Ob h ok r;refine{d,b,kd t,a,Xb,Xb,⟨j,k⟩,l,by rw[Gz];ext,q _ (λe o h g=>by rw[Qg g];exact h) ?_};have i:Qp H (zj H d (Vx P w d (Wv a (kd t) b (.ref c)))):=Zk λx e=>by rw[j]at e;cases e
 refine{_,Tw (Os _ _ _ _) (by ext),Qb,Q8 i (k.put l),λu v=>?_};rw[Jj];by_cases e:u=t
 .subst e;exact{c,Gn Xb,g.Ql i}
 .obtain⟨p,f,m⟩:=s u (v.resolve_right e);exact{p,by rw[Gh (λz=>e (O4 z))];exact f,m.Ql i}
def jv(j:Nat):V:=.int (j:Int)
theorem K1{i j:Nat}(h:jv i=jv j):i=j:=by unfold jv at h;injection h with h;lia
abbrev Fm:=GY×List Nat
def fm(ts:List Th)(t:Th):Fm:=(t.word,t.parts.map λp=>ts.idxOf p)
def ik(i:Nat):KD:=.int (i:Int)
def Y1(f:Fm):KD:=.tup [.str f.1,.tup (f.2.map ik)]
theorem yd:∀{a b:List Nat},a.map ik=b.map ik->a=b
 |[],[],_=>rfl
 |[],_::_,h=>by simp at h
 |_::_,[],h=>by simp at h
 |x::a,y::b,h=>by
  simp only[List.map_cons,List.cons.injEq]at h;have e:(x:Int)=(y:Int):=by have:=h.1;unfold ik at this;injection this
  have t:=yd h.2;rw[t,show x=y by ext]
theorem Je{f g:Fm}(h:Y1 f=Y1 g):f=g:=by unfold Y1 at h;simp only[KD.tup.injEq,List.cons.injEq,KD.str.injEq,F0]at h;exact Fh h.1 (yd h.2)
theorem Ri(h:t∈ts):ts[ts.idxOf t]?=Ga t:=by have a:ts.idxOf t<ts.length:=List.idxOf_lt_length_of_mem h;rw[List.getElem?_eq_getElem a,List.getElem_idxOf a]
theorem R6{j:Nat}(nd:ts.Nodup)(h:ts[j]?=Ga t):ts.idxOf t=j:=by obtain⟨a,e⟩:=List.getElem?_eq_some_iff.mp h;subst e;exact nd.idxOf_getElem j a
theorem m9{s:Th}(c:s∈ts)(d:t∈ts)(e:ts.idxOf s=ts.idxOf t):s=t:=by have a:=Ri c;have b:=Ri d;rw[e,b]at a;exact(To a).symm
theorem OO{a:List Th}(h:t∈ts):(ts++a).idxOf t=ts.idxOf t:=by rw[List.idxOf_append,Gn h]
theorem vj{c:List Th}:∀{a b:List Th},(∀x∈a,x∈c)->(∀x∈b,x∈c)->a.map (λp=>c.idxOf p)=b.map (λp=>c.idxOf p)->a=b
 |[],[],_,_,_=>rfl
 |[],_::_,_,_,h=>by simp at h
 |_::_,[],_,_,h=>by simp at h
 |x::a,y::b,e,f,h=>by simp only[List.map_cons,List.cons.injEq]at h;rw[m9 (e x List.mem_cons_self) (f y List.mem_cons_self) h.1,vj (λz d=>e z (List.mem_cons_of_mem _ d)) (λz d=>f z (List.mem_cons_of_mem _ d)) h.2]
theorem Xv(b:V5 ts)(h:t∈ts):∀p∈t.parts,p∈ts:=λp a=>by
 refine b t h p ?_;cases t with
 |mk w c=>simp only[Th.parts]at a;simp only[Th.inside,List.mem_append];left;rw[Xu,List.mem_flatMap];exact{p,a,si p}
theorem qp{s:Th}(a:∀p∈s.parts,p∈ts)(b:∀p∈t.parts,p∈ts)(e:fm ts s=fm ts t):s=t:=by
 cases s with
 |mk w c=>
  cases t with
  |mk v d=>unfold fm at e;simp only[Th.word,Th.parts,TX]at e a b;rw[e.1,vj a b e.2]
theorem pM{b:List Th}(h:∀p∈t.parts,p∈ts):fm (ts++b) t=fm ts t:=by unfold fm;refine Fh rfl (List.map_congr_left λp a=>OO (h p a))
inductive Rn(H:Hp)(x:V)(f:Fm):Prop
 |mk (c:_) (e:_) (h0:x=.ref c) (h1:H c=Ga (.tup [.str f.1,.ref e])) (h2:H e=Ga (.tup (f.2.map jv))):Rn H x f
theorem Rn.Ql{x:V}{f:Fm}(e:Qp H H')(h:Rn H x f):Rn H' x f:=by obtain⟨c,d,a,b,g⟩:=h;exact{c,d,a,e _ _ b,e _ _ g}
theorem wV{H:Hp}:∀l:List Nat,O6 H (l.map jv) (U3 (l.map ik))
 |[]=>by simp only[List.map_nil,U3];exact .nil
 |i::r=>by simp only[List.map_cons,U3,ik,KD.toD];exact .cons (.int _) (wV r)
theorem xQ:∀l:List Nat,Gx (U3 (l.map ik))=Gg
 |[]=>by simp[U3,Gx]
 |i::r=>by simp only[List.map_cons,U3];simp only[Gx,xQ r,MU];simp[ik,KD.toD,Tt]
theorem tE:∀l:List Nat,Iv (l.map ik)=0
 |[]=>by simp[Iv]
 |i::r=>by simp only[List.map_cons,Iv,tE r];simp[ik,KD.depth]
theorem Rn.key{c:Gc}{f:Fm}(h:Rn H (.ref c) f)(ok:Dc f.1=Gg):gJ H c (Y1 f):=by
 obtain⟨g,e,a,b,d⟩:=h;cases a;unfold Y1;exists ?_,?_
 .simp only[KD.toD,U3];exact .tup b (.cons (.str _) (.cons (.tup d (wV f.2)) .nil))
 .simp only[KD.toD,U3,Tt,Gx,ok,xQ,Bool.and_self]
 .simp only[KD.depth,Iv,tE];decide
def Rb(a f d:Gc):List (GY×V):=[("things",.ref a),("forms",.ref f),("known",.ref d)]
structure Pl(P:Gi)(w:Gu)(C:Gc)(H:Hp)(p a f d:Gc)(ts:List Th):Prop where
 ob:∃dx,H p=Ga (.ins C dx (Rb a f d))
 th:∃us,H a=Ga (.lst us)/\Zp H us ts
 fo:∃ws,H f=Ga (.lst ws)/\Paired (Rn H) ws (ts.map (fm ts))
 kn:∃zw,DH P w H d zw/\zw.length<=ts.length/\(∀(j:Nat)t,ts[j]?=Ga t->Yf zw (Y1 (fm ts t))=Ga (jv j))/\∀k v,Yf zw k=Ga v->∃t∈ts,k=Y1 (fm ts t)
 af:a≠f
 nd:ts.Nodup
 cl:V5 ts
 ok:∀t∈ts,t.ok=Gg/\t.depth<=50
structure gn(a f d:Gc)(H H':Hp):Prop where
 keep:∀b o,H b=Ga o->b≠a->b≠f->b≠d->H' b=Ga o
 there:∀b,H' b=Ge->H b=Ge
theorem gn.refl:gn a f d H H:={λ_ _ e _ _ _=>e,λ_ h=>h}
theorem gn.trans{c g:Hp}(x:gn a f d H c)(y:gn a f d c g):gn a f d H g:={λb o e i j k=>y.keep b o (x.keep b o e i j k) i j k,λb h=>x.there b (y.there b h)}
theorem gn.of(g:Qx H H'):gn a f d H H':={λb o e _ _ _=>g b o e,λb h=>g.free h}
section
variable{P:Gi}{w:Gu}{C:Gc}{H H':Hp}{p a f d:Gc}{ts:List Th}
theorem gn.Ql(x:gn a f d H H')(y:Pl P w C H p a f d ts):Qp H H':=λb k e=>by obtain⟨i,h,_⟩:=y.th;obtain⟨j,c,_⟩:=y.fo;obtain⟨g,n1,_⟩:=y.kn;exact x.keep b _ e (Zi e h (by intro z;cases z)) (Zi e c (by intro z;cases z)) (Zi e n1.at_ (by intro z;cases z))
theorem Pl.keep(x:Pl P w C H p a f d ts)(m:∀o,H p=Ga o->H' p=Ga o)(j:∀o,H a=Ga o->H' a=Ga o)(l:∀o,H f=Ga o->H' f=Ga o)(k:∀o,H d=Ga o->H' d=Ga o)(c:Qp H H'):Pl P w C H' p a f d ts:=by obtain⟨e,q⟩:=x.ob;obtain⟨t,r,s⟩:=x.th;obtain⟨u,g,i⟩:=x.fo;obtain⟨b,n1,n2,n3,n⟩:=x.kn;exact{{e,m _ q},{t,j _ r,s.Ql c},{u,l _ g,L2.Paired.Yb i λ_ _ h=>h.Ql c},{b,{k _ n1.at_,Q8 c n1.keys},n2,n3,n},x.af,x.nd,x.cl,x.ok}
theorem Pl.same(g:Qx H H')(x:Pl P w C H p a f d ts):Pl P w C H' p a f d ts:=x.keep (g _) (g _) (g _) (g _) (Qp.of g)
theorem Pl.but{l g:List V}(x:Pl P w C H p a f d ts)(c:H b=Ga (.lst l))(h:b≠a)(i:b≠f):Pl P w C (zj H b (.lst g)) p a f d ts:=by
 obtain⟨m,k⟩:=x.ob;obtain⟨j,n1,_⟩:=x.kn;refine x.keep (λo e=>?_) (λo e=>by rw[Qg (Gp h)];exact e) (λo e=>by rw[Qg (Gp i)];exact e) (λo e=>?_) (Zk λn e=>by rw[c]at e;cases e)
 .rw[Qg (Zi k c (by intro z;cases z))];exact e
 .rw[Qg (Zi n1.at_ c (by intro z;cases z))];exact e
end
structure kM(a f d dn:Gc)(S S':List Gc)(H H':Hp):Prop where
 keep:∀b o,H b=Ga o->b≠a->b≠f->b≠d->b≠dn->b∉S->H' b=Ga o
 own:∀b∈S',b∈S\/H b=Ge
 sub:∀b∈S,b∈S'
 there:∀b,H' b=Ge->H b=Ge
theorem kM.trans{c:Gc}{S j k:List Gc}{g i:Hp}(x:kM a f d c S j H g)(y:kM a f d c j k g i):kM a f d c S k H i:=by
 refine{λb o e l m n p q=>y.keep b o (x.keep b o e l m n p q) l m n p λz=>?_,λb r=>?_,λb h=>y.sub b (x.sub b h),λb h=>x.there b (y.there b h)}
 .rcases x.own b z with z|z
  .exact q z
  .rw[e]at z;cases z
 .rcases y.own b r with h|h
  .exact x.own b h
  .exact .inr (x.there b h)
inductive xX(P:Gi)(w:Gu)(C:Gc)(vs:List V)(H:Hp)(Q:VK):Prop
 |mk (p:Gc) (dx:Gc) (h0:vs=[.ref p]) (h1:H p=Ga (.ins C dx [])) (h2:∀(a f d:Gc)(H':Hp),Pl P w C H' p a f d []->(∀b o,H b=Ga o->b≠p->H' b=Ga o)->H a=Ge->H f=Ge->H d=Ge->Q .non H'):xX P w C vs H Q
def sX(P:Gi)(w:Gu)(C:Gc):Sp:=λa H Q _=>xX P w C a H Q
inductive sr(P:Gi)(w:Gu)(C:Gc)(vs:List V)(H:Hp)(Q:VK):Prop
 |mk (p:Gc) (c:Gc) (v:V) (t:Th) (a:Gc) (f:Gc) (d:Gc) (ts:List Th) (h0:vs=[.ref p,v,.ref c]) (h1:Pl P w C H p a f d ts) (h2:Z2 H v t) (h3:t.ok=Gg) (h4:t.depth<=50) (h5:(∀q∈t.parts,q∈ts)) (h6:Rn H (.ref c) (fm ts t)) (h7:ts.length<1000000) (h8:∀(j:Nat)(H':Hp),Pl P w C H' p a f d (if t∈ts then ts else ts++[t])->(if t∈ts then ts else ts++[t])[j]?=Ga t->gn a f d H H'->Q (jv j) H'):sr P w C vs H Q
def oM(P:Gi)(w:Gu)(C:Gc):Sp:=λa H Q _=>sr P w C a H Q
inductive qW(P:Gi)(w:Gu)(C:Gc)(vs:List V)(H:Hp)(Q:VK):Prop
 |mk (p:Gc) (v:V) (t:Th) (a:Gc) (f:Gc) (d:Gc) (ts:List Th) (h0:vs=[.ref p,v]) (h1:Pl P w C H p a f d ts) (h2:Z2 H v t) (h3:t.ok=Gg) (h4:t.depth<=50) (h5:ts.length+t.size<=500000) (h6:∀(j:Nat)(H':Hp),Pl P w C H' p a f d (Yq ts t.inside)->(Yq ts t.inside)[j]?=Ga t->gn a f d H H'->Q (jv j) H'):qW P w C vs H Q
def y0(P:Gi)(w:Gu)(C:Gc):Sp:=λa H Q _=>qW P w C a H Q
end Sb
namespace L2
open PySem PySem.Spec PyProof.Rows
variable{G:Prop}
theorem HH{K:Gd}{a p:Gc}{xs:List V}{g:TG}{B:TT}{A:TE}{Q:Hp->Prop}{n:St}{t:Hp}(h:Nat->List V->St->Hp->Prop)(f:xs.length<=Gj)(C:h 0 [] n (zj t p (.lst [])))
  (F:∀i c d H,i<=xs.length->h i c d H->Zz K H a xs)
  (G:∀i x c d H,xs[i]?=Ga x->h i c d H->H p=Ga (.lst c)->g x d H λj H2=>B j H2 λb o=>if b=Gg then A j o λv u=>u p=Ga (.lst c)/\h (i+1) (c++[v]) j (zj u p (.lst (c++[v])))else o p=Ga (.lst c)/\h (i+1) c j o)
  (D:∀c d H,c.length<=xs.length->h xs.length c d H->H p=Ga (.lst c)->Q H):iB p (ij K a) g B A Q n (zj t p (.lst [])):=by
 exists λi m d H=>m=xs.length - i/\i<=xs.length/\∃c,c.length<=i/\h i c d H/\H p=Ga (.lst c),{xs.length,by simp,Gw _,[],Gm _,C,Qb};rintro i m d H ⟨rfl,E,c,z,pv,w⟩;have q:=F i c d H E pv;by_cases l:i<xs.length
 .refine .inr ⟨{xs,xs[i],q,by simp[l]},λv f k=>k p=Ga (.lst c)/\h (i+1) (c++[v]) f (zj k p (.lst (c++[v]))),λf k=>k p=Ga (.lst c)/\h (i+1) c f k,
   λv f k⟨r,s⟩=>{c,r,by lia,xs.length - (i+1),by lia,Xb,l,c++[v],by simp[z],s,Qb},λf k⟨r,s⟩=>{xs.length - (i+1),by lia,Xb,l,c,by lia,s,r},λx k y=>?_⟩
  obtain⟨e,y⟩:=y;subst e;exact G i x c d _ (y xs q) pv w
 .have e:i=xs.length:=by lia
  subst e;exact .inl {{xs,q,Gm _},D c d H z pv w}
theorem IH{X:Cx}{a b:TY}{l:SX}{i j:Nat}(w:PE X a (Vw i))(A:PE X b (Vw j)):PE X (.BoolOp .Or [a,b] l) (λσ H Q=>∃x y,σ[i]?=Ga (Ga (.int x))/\σ[j]?=Ga (Ga (.int y))/\∀z:Int,Q (.int z) H):=by
 intro d s σ H Q I h;obtain⟨x,y,t,u,q⟩:=h;refine BoolOp_or (Yi (w d s σ H (λv f=>v=.int x/\f=H) I {_,t,Xb,Xb}) λv B⟨D,f,o,n,p,r⟩=>?_);subst p r;refine Yi (vH d B σ f (.int x) v (λk g=>g=f) o n {_,Xb,Xb}) λc C⟨g,m,e⟩=>?_;subst e;cases c with
 |true=>exact{.int x,g,m,n,q x}
 |false=>exact rP A d C σ g Q m {_,u,q y}
theorem AB{T:Int->Prop}(k:(∀i,T i)->G)(h:∀i,T i):G:=k h
theorem Cm{F T:Gc->Hp->Prop}(k:(∀a H,F a H->T a H)->G)(h:∀a H,F a H->T a H):G:=k h
theorem AA{A B:Prop}(k:A->B->G)(a:A)(b:B):G:=k a b
theorem z7(a:List V)(h:0<a.length):∃v,atI a (-1)=Ga v/\a[a.length - 1]?=Ga v:=by
 have b:a.length - 1<a.length:=by ext
 refine{_,?_,List.getElem?_eq_getElem b};unfold atI ixN;rw[Gh (by decide),Gn (by ext)];have e:((-1:Int)+(a.length:Int)).toNat=a.length - 1:=by ext
 rw[e];show a[a.length - 1]?=_;exact List.getElem?_eq_getElem b
end L2
namespace Sb
open PySem PySem.Spec PyProof.Rows L2
variable{a f d wk:Gc}{H H':Hp}{D S:List Gc}{m:Nat}{ts:List Th}
def wfl(p:Gc)(n:Int):List (GY×V):=[("places",.ref p),("steps",.int n)]
theorem C7(p:Gc)(n k:Int):Yj "steps" (.int k) (wfl p n)=wfl p k:=by
 have h:¬(("places":GY)="steps"):=by decide+kernel
 simp only[wfl,Yj,Gh h,SD]
theorem B1(p:Gc):Yj "steps" (.int 0) (Yj "places" (.ref p) [])=wfl p 0:=by
 have h:¬(("places":GY)="steps"):=by decide+kernel
 simp only[wfl,Yj,Gh h]
inductive R1(CW:Gc)(H:Hp)(wk p:Gc):Prop
 |mk (dx:_) (n:_) (h0:H wk=Ga (.ins CW dx (wfl p n))):R1 CW H wk p
theorem QI{C b e c p:Gc}{n:Int}:HO.ins C e (Rb a f d)≠HO.ins b c (wfl p n):=by intro z;injection z with _ _ z;have:=congrArg List.length z;simp[Rb,wfl]at this
structure gm(H:Hp)(D S:List Gc)(m:Nat)(ts:List Th):Prop where
 at_:∀dn∈D,∃zw,H dn=Ga (.dT zw)/\zw.length<=m/\∀k v,Yt zw k=Ga v->∃l∈S,v=.ref l
 ls:∀l∈S,∃es,H l=Ga (.lst es)/\es.length<=m/\∀e∈es,∃c v,∃(j:Nat)(t:Th),e=.ref c/\H c=Ga (.tup [v,jv j])/\Z2 H v t/\ts[j]?=Ga t
theorem gm.keep{i:Nat}{a:List Th}(x:gm H D S m ts)(r:∀d∈D,∀o,H d=Ga o->H' d=Ga o)(u:∀l∈S,∀o,H l=Ga o->H' l=Ga o)(k:Qp H H')(b:∀(j:Nat)t,ts[j]?=Ga t->a[j]?=Ga t)(e:m<=i):gm H' D S i a:=by
 refine{λf g=>?_,λl h=>?_}
 .obtain⟨e,n,q,p⟩:=x.at_ f g;exact{e,r f g _ n,by ext,p}
 .obtain⟨q,n,B,p⟩:=x.ls l h;refine{q,u l h _ n,by ext,λe s=>?_};obtain⟨c,v,j,t,w,y,z,A⟩:=p e s;exact{c,v,j,t,w,k _ _ y,z.Ql k,b j t A}
theorem gm.same(g:Qx H H')(x:gm H D S m ts):gm H' D S m ts:=x.keep (λd _=>g d) (λl _=>g l) (Qp.of g) (λ_ _ h=>h) (Gm _)
theorem gm.mono{a:Nat}(x:gm H D S m ts)(h:m<=a):gm H D S a ts:=x.keep (λ_ _ _ h=>h) (λ_ _ _ h=>h) (λ_ _ h=>h) (λ_ _ h=>h) h
theorem gm.more{c:Gc}(x:gm H D S m ts)(d:H c=Ge):gm (zj H c (.dT [])) (c::D) S m ts:=by
 have y:=x.same (Qf d (.dT []));refine{λb a=>?_,y.ls};rcases List.mem_cons.mp a with rfl|a
 .exact{[],Qb,Gw _,λk v e=>by rw[pJ]at e;cases e}
 .exact y.at_ b a
structure gv(a f d wk:Gc)(D D' S S':List Gc)(H H':Hp):Prop where
 keep:∀b o,H b=Ga o->b≠a->b≠f->b≠d->b≠wk->b∉D->b∉S->H' b=Ga o
 Qml:∀b∈D',b∈D\/H b=Ge
 Qha:∀b∈S',b∈S\/H b=Ge
 Qqt:∀b∈D,b∈D'
 Qpz:∀b∈S,b∈S'
 there:∀b,H' b=Ge->H b=Ge
theorem gv.of(g:Qx H H'):gv a f d wk D D S S H H':={λb o e _ _ _ _ _ _=>g b o e,λ_ h=>.inl h,λ_ h=>.inl h,λ_ h=>h,λ_ h=>h,λb h=>g.free h}
theorem gv.trans{g i l m:List Gc}{j k:Hp}(x:gv a f d wk D g S l H j)(y:gv a f d wk g i l m j k):gv a f d wk D i S m H k:=by
 refine{λb o e n p q r s t=>y.keep b o (x.keep b o e n p q r s t) n p q r (λz=>?_) (λz=>?_),λb c=>?_,λb c=>?_,λb h=>y.Qqt b (x.Qqt b h),λb h=>y.Qpz b (x.Qpz b h),λb h=>x.there b (y.there b h)}
 .rcases x.Qml b z with z|z
  .exact s z
  .rw[e]at z;cases z
 .rcases x.Qha b z with z|z
  .exact t z
  .rw[e]at z;cases z
 .rcases y.Qml b c with h|h
  .exact x.Qml b h
  .exact .inr (x.there b h)
 .rcases y.Qha b c with h|h
  .exact x.Qha b h
  .exact .inr (x.there b h)
theorem gv.Ql{P:Gi}{w:Gu}{C g:Gc}{p:Gc}{i j:List Gc}(x:gv a f d wk D i S j H H')(W:R1 g H wk p)(y:Pl P w C H p a f d ts)(z:gm H D S m ts):Qp H H':=λb v e=>by
 obtain⟨t,q,_⟩:=y.th;obtain⟨u,k,_⟩:=y.fo;obtain⟨l,n1,_⟩:=y.kn;obtain⟨r,n,o⟩:=W;refine x.keep b _ e (Zi e q (by intro z;cases z)) (Zi e k (by intro z;cases z)) (Zi e n1.at_ (by intro z;cases z)) (Zi e o (by intro z;cases z)) (λc=>?_) λc=>?_
 .obtain⟨s,h,_⟩:=z.at_ b c;rw[e]at h;cases h
 .obtain⟨s,h,_⟩:=z.ls b c;rw[e]at h;cases h
theorem JJ{j n:Hp}{h q:Gc}{k:List Xm}{l:List (List Xm×V)}{w:V}(x:gm H D S m ts)(L:h∈D)(v:H h=Ga (.dT l))(B:Qx H j)(E:j q=Ge)
  (O:(Yt l k=Ga w/\n=zj j q (.lst []))\/(Yt l k=Ge/\w=.ref q/\n=zj (zj j q (.lst [])) h (.dT (l++[(k,.ref q)])))):
  ∃f p,w=.ref f/\f∈p/\gm n D p (m+1) ts/\(∀b∈S,b∈p)/\(∀b∈p,b∈S\/H b=Ge)/\(∀b s,H b=Ga s->b≠h->n b=Ga s)/\(∀b,n b=Ge->H b=Ge):=by
 have g:=B.trans (Qf E (.lst []));have Q:H q=Ge:=B.free E;obtain⟨aa,n1,n2,n3⟩:=x.at_ h L;rw[v]at n1;cases n1;rcases O with⟨R,rfl⟩|⟨N,rfl,rfl⟩
 .obtain⟨f,i,rfl⟩:=n3 _ _ R;exact{f,S,Xb,i,x.keep (λd _=>g d) (λf _=>g f) (Qp.of g) (λ_ _ e=>e) (EI _),λ_ e=>e,λ_ e=>.inl e,λb s a _=>g _ _ a,λb e=>g.free e}
 .have C:=g _ _ v;have F:(zj j q (.lst [])) q=Ga (.lst []):=Qb;have P:q≠h:=Zi F C (by intro z;cases z);have Y:Qp (zj j q (.lst [])) (zj (zj j q (.lst [])) h (.dT (l++[(k,.ref q)]))):=Zk λI a=>by rw[C]at a;cases a
  have G:Qp H (zj (zj j q (.lst [])) h (.dT (l++[(k,.ref q)]))):=λb I a=>Y b I (g _ _ a);refine{q,q::S,Xb,List.mem_cons_self,{λy M=>?_,λf i=>?_},λb e=>List.mem_cons_of_mem _ e,λb e=>?_,λb s a e=>by rw[Qg e];exact g _ _ a,λb e=>?_}
  .by_cases u:y=h
   .subst u;refine{_,Qb,by rw[List.length_append,List.length_singleton];lia,λo T a=>?_};rw[nr (κ:=List Xm) k o _ l N]at a;by_cases A:o=k
    .rw[Gn A]at a;cases a;exact{q,List.mem_cons_self,Xb}
    .rw[Gh A]at a;obtain⟨f,i,r⟩:=n3 _ _ a;exact{f,List.mem_cons_of_mem _ i,r}
   .obtain⟨K,A,U,J⟩:=x.at_ y M;refine{K,by rw[Qg u];exact g _ _ A,by lia,λo T a=>?_};obtain⟨f,i,r⟩:=J _ _ a;exact{f,List.mem_cons_of_mem _ i,r}
  .rcases List.mem_cons.mp i with rfl|i
   .exact{[],by rw[Qg P];exact F,Gw _,λa u=>nomatch u}
   .obtain⟨K,A,r,J⟩:=x.ls f i;refine{K,?_,by lia,λa u=>?_}
    .rw[Qg (Zi A v (by intro z;cases z))];exact g _ _ A
    .obtain⟨c,Z,T,t,U,o,W,X⟩:=J a u;exact{c,Z,T,t,U,G _ _ o,W.Ql G,X}
  .rcases List.mem_cons.mp e with rfl|e
   .exact .inr Q
   .exact .inl e
  .by_cases u:b=h
   .subst u;rw[Qb]at e;cases e
   .rw[Qg u]at e;exact g.free e
inductive vG(CW:Gc)(vs:List V)(H:Hp)(Q:VK):Prop
 |mk (wk:Gc) (dx:Gc) (p:Gc) (h0:vs=[.ref wk,.ref p]) (h1:H wk=Ga (.ins CW dx [])) (h2:∀H',R1 CW H' wk p->(∀b o,H b=Ga o->b≠wk->H' b=Ga o)->(∀b,H' b=Ge->H b=Ge)->Q .non H'):vG CW vs H Q
def wm(a:Gc):Sp:=λb H Q _=>vG a b H Q
inductive rm(vs:List V)(H:Hp)(Q:VK):Prop
 |mk (l:Gc) (v:V) (t:Th) (es:List V) (ts:List Th) (h0:vs=[.ref l,v]) (h1:H l=Ga (.lst es)) (h2:(∀e∈es,∃c v,∃(j:Nat)(t:Th),e=.ref c/\H c=Ga (.tup [v,jv j])/\Z2 H v t/\ts[j]?=Ga t)) (h3:(∀t∈ts,t.ok=Gg/\t.depth<=50)) (h4:Z2 H v t) (h5:t.ok=Gg) (h6:t.depth<=50) (h7:(∀j:Nat,ts[j]?=Ga t->Q (jv j) H)) (h8:Q .non H):rm vs H Q
def oY:Sp:=λa H Q _=>rm a H Q
inductive xq(vs:List V)(H:Hp)(Q:VK):Prop
 |mk (i:Int) (j:Int) (h0:vs=[.int i,.int j]) (h1:j<1000000) (h2:∀r:Int,Q (.int r) H):xq vs H Q
def mq:Sp:=λa H Q _=>xq a H Q
inductive yx(P:Gi)(w:Gu)(C:Gc)(CW:Gc)(n:Nat)(vs:List V)(H:Hp)(Q:VK):Prop
 |mk (wk:Gc) (p:Gc) (dn:Gc) (v:V) (sp:Int) (t:Th) (a:Gc) (f:Gc) (d:Gc) (D:List Gc) (S:List Gc) (m:Nat) (ts:List Th) (h0:vs=[.ref wk,v,.ref dn,.int sp]) (h1:R1 CW H wk p) (h2:Pl P w C H p a f d ts) (h3:gm H D S m ts) (h4:dn∈D) (h5:a∉S) (h6:f∉S) (h7:Z2 H v t) (h8:t.ok=Gg) (h9:t.depth<=n) (h10:t.depth<=50) (h11:m+2*t.size<=1000000) (h12:ts.length+t.size<=1000000) (h13:∀(j:Nat)(D' S':List Gc)(H':Hp),R1 CW H' wk p->Pl P w C H' p a f d (Yq ts t.inside)->gm H' D' S' (m+2*t.size) (Yq ts t.inside)->(Yq ts t.inside)[j]?=Ga t->gv a f d wk D D' S S' H H'->Q (jv j) H'):yx P w C CW n vs H Q
def je(P:Gi)(w:Gu)(C a:Gc)(n:Nat):Sp:=λb H Q _=>yx P w C a n b H Q
theorem Vc:∀(l:List Th)(i:Nat),Qs (l.take i)<=Qs l
 |[],_=>by simp
 |x::l,0=>by simp[Qs]
 |x::l,i+1=>by have:=Vc l i;simp only[List.take_succ_cons,Qs];lia
theorem An(a:List Th)(i:Nat)(t:Th)(h:a[i]?=Ga t):Zd (a.take (i+1))=Zd (a.take i)++t.inside:=by rw[List.take_add_one,h,Xu,List.flatMap_append,<-Xu];simp
theorem Od:∀(a:List Th)(i:Nat)(t:Th),a[i]?=Ga t->Qs (a.take (i+1))=Qs (a.take i)+t.size
 |[],_,_,h=>by simp at h
 |x::r,0,t,h=>by simp at h;subst h;simp[Qs]
 |x::r,i+1,t,h=>by have:=Od r i t (by simpa using h);simp only[List.take_succ_cons,Qs]at this⊢;lia
theorem nK{a b:List Th}{j:Nat}{t:Th}(h:a[j]?=Ga t):(Yq a b)[j]?=Ga t:=by obtain⟨m,e⟩:=Vo b a;rw[e,List.getElem?_append_left (List.getElem?_eq_some_iff.mp h).1];exact h
end Sb
namespace L2
open PySem PySem.Spec PyProof.Rows
inductive vZ(x:V)(vs:List V)(H:Hp)(Q:VK):Prop
 |mk (d:_) (b:_) (dv:_) (zw:_) (k:_) (h0:x=.ref d) (h1:vs=[.ref b,dv]) (h2:H d=Ga (.dT zw)) (h3:H b=Ga (.tup (k.map kV))) (h4:zw.length<Gj) (h5:∀v H',((Yt zw k=Ga v/\H'=H)\/(Yt zw k=Ge/\v=dv/\H'=zj H d (.dT (zw++[(k,dv)]))))->Q v H'):vZ x vs H Q
def PZ:V->List V->Hp->VK->Prop:=λx a H Q=>vZ x a H Q
theorem Ak{X:Cx}(n:X.A.units+1<DM):ig X "dict.setdefault" PZ:=by intro a s w H x u v t Q I r p h;obtain⟨d,b,e,c,k,f,g,i,j,l,q⟩:=h;exact Bz n a s w H x u v t Q I r p {d,b,e,c,k,f,g,i,j,l,λv o=>q v H (.inl ⟨o,Xb⟩),λm=>q e _ (.inr ⟨m,Xb,Xb⟩)}
end L2
namespace Sb
open PySem L2
abbrev KI(K:Gd)(f:Gc):Prop:=T1 K (.ref f)=Gg
abbrev MG(mg:GY->Option Value)(x:GY)(f:Gc):Prop:=mg x=Ga (.ref f)
abbrev Xf(X:Cx)(s:Db)(n:Nat):=Subtype (Ik X ((X5 s).drop n))
end Sb
namespace K07
open PySem L2 Sb
variable{f C f0 CW:Gc}{fd:Tp}
structure Ii(mg:GY->Option Value):Prop where
 len:mg "len"=Ge
 list:mg "list"=Ge
 tuple:mg "tuple"=Ge
 range:mg "range"=Ge
 reversed:mg "reversed"=Ge
 enumerate:mg "enumerate"=Ge
 zip:mg "zip"=Ge
 sorted:mg "sorted"=Ge
theorem R8(x:V)(a:List V):atI (x::a) (0:Int)=Ga x:=Qz (xs:=x::a) (j:=0) rfl
def lR(t:Th):List Xm:=(mX t).map Sh
theorem CO(t:Th):(lR t).map kV=(mX t).map V.str:=by unfold lR;rw[List.map_map];rfl
inductive uC(vs:List V)(H:Hp)(Q:VK):Prop
 |mk (v:V) (t:Th) (h0:vs=[v]) (h1:Z2 H v t) (h2:t.size<=1000000) (h3:∀(r:Gc)(H':Hp),Qx H H'->H' r=Ga (.tup ((lR t).map kV))->Q (.ref r) H'):uC vs H Q
def pT:Sp:=λa H Q _=>uC a H Q
section
variable{P:Gi}{w:Gu}{K:Gd}{mg:GY->Option Value}{base:Heap}
theorem Km:Qw ["thing"] ["thing"] (Qk lI):=by eq_refl
theorem A6(F:Wj K "top_words" "top_words" lI f fd)(E:Ii mg):Qu P w K mg base Z5 1 f fd ["thing"] pT:=by
 refine F.ok Km (λb v H G e=>?_) (λZ Y ac s v b H G hr e=>?_)
 .obtain⟨W,t,rfl,_⟩:=e;rfl
 obtain⟨W,t,rfl,Q,O,q⟩:=e;obtain⟨a,n,b,k,rfl,rfl,z,B⟩:=Q.inv;exists _,Qh (Qv (Xx Wh rfl E.tuple TR (Qa (Zh Ue (Zl (Qa (Qn Q3 (pv 0) Qj) Qe))
  (V0 (own:=["part"]) (fv:=[]) rfl (S:=(by eq_refl:Wa (Qk lI) _)) .nil (V4 (Yo U1 (pv 0) (Yu Qj) Xt))
   (λ_ _ _ _ _=>Xe (i:=0) (nd1 _) rfl (De Xb) (Ej Xb)) (λ_ _ _ _ _=>We) (λ_ _ _ _ _=>Qn (r:=l8 K) Q3 (pv 0) Qj (λ_ _=>rfl)))) Qe)))
 simp only[Th.size]at O;have aa:=Zj k;have U:=B.length;refine{_,Xb,a,_,_,.str n,Xb,Xb,Zz.of z,R8 _ _,by show 1<=Gj;decide,λy M=>?_};have l:=Qf M (.lst [.str n]);refine{_,Xb,_,Xb,a,_,Xb,Zz.of (l _ _ z),Wz _ _,λr N=>?_};rw[gY];have m:=Qf N (.tup b);refine{r,Xb,{_,Zz.of Qb},λp A=>?_};have C:=Qf A (.lst []);have ad:=(l.trans m).trans C;refine Jd (K:=K) (a:=r) (xs:=b) (small (by lia)) (λi o u g=>(∃D,u=[D])/\Qx (zj (zj v y (.lst [.str n])) r (.tup b)) g/\o=(k.take i).map λt=>V.str t.word)
  {{_,Xb},C,by simp} (λi o u g _ e=>Zz.of (e.2.1 _ _ Qb)) ?_ ?_
 .rintro i x o u g L T ⟨⟨D,rfl⟩,d,rfl⟩ j;obtain⟨t,R,S⟩:=B.get L;obtain⟨I,X,us,qs,rfl,rfl,J,_⟩:=S.inv;exists _,Xb,I,_,_,.str X,Xb,Xb,Zz.of (d _ _ (m _ _ (l _ _ J))),R8 _ _,j,{_,Xb},λc ab h=>?_
  .rw[Qg (Qc h A)];exact d _ _ h
  .rw[List.take_add_one,R,List.map_append];rfl
 .rintro o u g T ⟨_,d,rfl⟩ j;have h:k.take b.length=k:=by rw[U,List.take_length]
  rw[h]at j;have I:=d _ _ (m _ _ (@Qb v y (.lst [.str n])));refine{y,p,_,_,Xb,Xb,I,j,small (by rw[List.length_map,List.length_singleton];lia),λc J=>?_};refine{c,_,Xb,.inl {Zb.of Qb,λR L=>?_}};refine q R _ ((((l.trans m).trans d).trans (Qf J _)).trans (Qf L _)) ?_;rw[Qb,CO];simp[mX,Th.word,Th.parts]
end
theorem n1:¬(("things":GY)="forms"):=by decide+kernel
theorem n2:¬(("things":GY)="known"):=by decide+kernel
theorem n3:¬(("forms":GY)="known"):=by decide+kernel
theorem I2(a f d:Gc):Yj "known" (.ref d) (Yj "forms" (.ref f) (Yj "things" (.ref a) []))=Rb a f d:=by simp only[Yj,Gh n1,Gh n2,Gh n3,Rb]
theorem yl(a f d:Gc):(Rb a f d).lookup ("things":GY)=Ga (.ref a):=by rfl
theorem QB(a f d:Gc):(Rb a f d).lookup ("forms":GY)=Ga (.ref f):=by rfl
theorem O5(a f d:Gc):(Rb a f d).lookup ("known":GY)=Ga (.ref d):=by rfl
theorem OH(a f d:Gc):(Rb a f d).lookup ("place_by_form":GY)=Ge:=by rfl
structure gX(K:Gd)(mg:GY->Option Value)(C:Gc):Prop where
 cl:gC K C
 nT:Yp K C "things"
 nF:Yp K C "forms"
 nN:Yp K C "known"
 mgC:mg "Places"=Ga (.ref C)
section
variable{P:Gi}{w:Gu}{K:Gd}{mg:GY->Option Value}{base:Heap}
theorem HV:Qw ["self"] ["self"] (Qk kg):=by eq_refl
theorem QK(F:Wj K "__init__" "Places.__init__" kg f fd)(T:gX K mg C):Qu P w K mg base Z5 1 f fd ["self"] (sX P w C):=by
 refine F.ok HV (λO H Q E h=>?_) (λM A L s H O Q E U h=>?_)
 .obtain⟨p,x,rfl,_⟩:=h;rfl
 obtain⟨p,x,rfl,G,q⟩:=h;show∃t,Ik ?my _ t/\_;let S:Xf ?my kg 2:={_,Qh (Yw (pv 0) Ip Xb)}
 let R:Xf ?my kg 1:={_,Qd (Yw (pv 0) (Zl Qe) rfl) S.2}
 exists _,Qd (Yw (pv 0) (Zl Qe) rfl) R.2;refine{Gw _,λa I=>?_};have c:p≠a:=Qc G I;refine{_,Xb,p,C,x,[],Xb,(by rw[Qg c];exact G),T.cl,T.nT,by show 0<1000;decide,Gw _,λf u=>?_};have g:p≠f:=Qc Qb u;have i:a≠f:=Qc (o:=.lst []) (by rw[Qg (Gp c),Qb]) u;refine{_,Xb,p,C,x,_,Xb,(by rw[Qg g,Qb]),T.cl,T.nF,by show 1<1000;decide,λd n=>?_};have l:p≠d:=Qc Qb n;have D:f≠d:=Qc (o:=.lst []) (by rw[Qg (Gp g),Qb]) n;have B:a≠d:=Qc (o:=.lst []) (by rw[Qg (Gp c),Qg i,Qg (Gp c),Qb]) n;exists _,Xb,p,C,x,_,Xb,(by rw[Qg l,Qb]),T.cl,T.nN,(by show 2<1000;decide);refine q a f d _ {{x,?_},{[],?_,.nil},{[],?_,.nil},{[],{?_,λp G=>nomatch G},Gm _,λj t e=>?_,λk v e=>?_},i,List.nodup_nil,KW,λt N=>by simp at N} (λb o e r=>?_) I ?_ ?_
 .rw[Qb,I2]
 .rw[Qg (Gp c),Qg B,Qg (Gp c),Qg i,Qg (Gp c),Qb]
 .rw[Qg (Gp g),Qg D,Qg (Gp g),Qb]
 .rw[Qg (Gp l),Qb];rfl
 .simp at e
 .simp[Yf]at e
 .have m:b≠a:=Qc e I;have y:b≠f:=λz=>by subst z;rw[Qg r,Qg m,e]at u;cases u
  have J:b≠d:=λz=>by subst z;rw[Qg r,Qg y,Qg r,Qg m,e]at n;cases n
  rw[Qg r,Qg J,Qg r,Qg y,Qg r,Qg m];exact e
 .rw[Qg (Gp g),Qg (Gp i)]at u;exact u
 .rw[Qg (Gp l),Qg (Gp D),Qg (Gp l),Qg (Gp B)]at n;exact n
theorem HE:Qw ["self","thing","form"] ["self","thing","form"] (Qk nq):=by eq_refl
theorem qE{P:Gi}{w:Gu}{H:Hp}{p a d:Gc}{b:List Th}{c:List KE}{t:Th}(x:Pl P w C H p a f d b)(n:∀q∈t.parts,q∈b)(l:∀(j:Nat)t,b[j]?=Ga t->Yf c (Y1 (fm b t))=Ga (jv j))(m:∀k v,Yf c k=Ga v->∃t∈b,k=Y1 (fm b t)):
  (Yf c (Y1 (fm b t))).isSome=decide (t∈b):=by
 by_cases h:t∈b
 .rw[Tc h,l _ t (Ri h)];rfl
 .rw[GQ h];cases e:Yf c (Y1 (fm b t))with
  |none=>rfl
  |some v=>exfalso;obtain⟨s,g,i⟩:=m _ _ e;exact h (qp n (Xv x.cl g) (Je i)▸g)
theorem KY{P:Gi}{r:Gu}{h:Hp}{p a d c:Gc}{b:List Th}{j:List KE}{B D:List V}{o:V}{t:Th}(x:Pl P r C h p a f d b)(n:DH P r h d j)(i:j.length<=b.length)(H:∀(l:Nat)t,b[l]?=Ga t->Yf j (Y1 (fm b t))=Ga (jv l))(I:∀k o,Yf j k=Ga o->∃t∈b,k=Y1 (fm b t))
  (m:h a=Ga (.lst B))(M:Zp h B b)(hw:h f=Ga (.lst D))(N:Paired (Rn h) D (b.map (fm b)))(U:Z2 h o t)(ok:t.ok=Gg)(R:t.depth<=50)(v:∀q∈t.parts,q∈b)(J:Rn h (.ref c) (fm b t))(E:¬t∈b):
  Pl P r C (zj (zj (zj h d (Vx P r d (Wv j (Y1 (fm b t)) c (jv b.length)))) a (.lst (B++[o]))) f (.lst (D++[.ref c]))) p a f d (b++[t]):=by
 obtain⟨S,w⟩:=x.ob;have O:d≠a:=Zi n.at_ m (by intro z;cases z);have Q:d≠f:=Zi n.at_ hw (by intro z;cases z);have Y:p≠d:=Zi w n.at_ (by intro z;cases z);have X:p≠a:=Zi w m (by intro z;cases z);have Z:p≠f:=Zi w hw (by intro z;cases z);have A:Qp h (zj (zj (zj h d (Vx P r d (Wv j (Y1 (fm b t)) c (jv b.length)))) a (.lst (B++[o]))) f (.lst (D++[.ref c]))):=λaa xs g=>by rw[Qg (Zi g hw (by intro z;cases z)),Qg (Zi g m (by intro z;cases z)),Qg (Zi g n.at_ (by intro z;cases z))];exact g
 have hn:Yf j (Y1 (fm b t))=Ge:=by
  have:=qE x v H I;rw[GQ E]at this;cases g:Yf j (Y1 (fm b t))with
  |none=>rfl
  |some u=>rw[g]at this;cases this
 have W:gJ h c (Y1 (fm b t)):=J.key (by cases t;simp only[Th.ok,Td]at ok;exact ok.1);have G:∀s∈b,fm (b++[t]) s=fm b s:=λs e=>pM (Xv x.cl e);have F:fm (b++[t]) t=fm b t:=pM v;exists {S,?_},{_,?_,(M.append (.one U)).Ql A},{_,Qb,?_},{Wv j (Y1 (fm b t)) c (jv b.length),{?_,Q8 A (n.keys.put W)},?_,λl s g=>?_,λk y g=>?_},x.af,?_,?_
 .rw[Qg Z,Qg X,Qg Y];exact w
 .rw[Qg x.af,Qb]
 .have i:(b++[t]).map (fm (b++[t]))=b.map (fm b)++[fm b t]:=by rw[List.map_append,List.map_congr_left G,List.map_cons,List.map_nil,F]
  rw[i];exact Yh (L2.Paired.Yb N λ_ _ K=>K.Ql A) (.cons (J.Ql A) .nil)
 .rw[Qg Q,Qg O,Qb]
 .have:=Os j (Y1 (fm b t)) c (jv b.length);rw[List.length_append,List.length_singleton];lia
 .rw[Jj];rcases Tn l b.length with i|i
  .rw[List.getElem?_append_left i]at g;have e:=List.mem_of_getElem? g;rw[G s e,Gh (λz=>E (qp (Xv x.cl e) v (Je z)▸e))];exact H l s g
  .rw[List.getElem?_append_right i]at g;have K:l - b.length=0:=by have:=(List.getElem?_eq_some_iff.mp g).1;simp at this;lia
   rw[K]at g;simp at g;subst g;have:l=b.length:=by lia
   subst this;rw[F,Gn rfl]
 .rw[Jj]at g;by_cases i:k=Y1 (fm b t)
  .exact{t,by simp,by rw[F];exact i}
  .rw[Gh i]at g;obtain⟨s,e,K⟩:=I _ _ g;exact{s,List.mem_append_left _ e,by rw[G s e];exact K}
 .rw[List.nodup_append];refine{x.nd,by simp,λs e u m=>?_};simp at m;subst m;exactλz=>E (z▸e)
 .intro s e L i;rcases List.mem_append.mp e with e|e
  .exact List.mem_append_left _ (x.cl s e L i)
  .simp at e;subst e;cases s with
   |mk w0 ps=>
    simp only[Th.inside,List.mem_append,List.mem_singleton]at i;rcases i with i|i
    .rw[Xu,List.mem_flatMap]at i;obtain⟨K,T,i⟩:=i;exact List.mem_append_left _ (x.cl K (v K T) L i)
    .subst i;simp
 .intro s e;rcases List.mem_append.mp e with e|e
  .exact x.ok s e
  .simp at e;subst e;exact⟨ok,R⟩
theorem PN(F:Wj K "place_by_form" "Places.place_by_form" nq f0 fd)(e:gX K mg C)(ac:Ii mg):Qu P w K mg base Z5 1 f0 fd ["self","thing","form"] (oM P w C):=by
 refine F.ok HE (λvs h ae ad L=>?_) (λai ah ak s h vs ae ad hr L=>?_)
 .obtain⟨p,c,D,t,a,f,d,b,rfl,_⟩:=L;rfl
 obtain⟨p,c,D,t,a,f,d,b,rfl,x,hv,ok,dp,N,M,hl,q⟩:=L;have O:=hr.units;exists _,Qd (Zq (Qr (zt O) (pv 2) (Qm (pv 0) rfl) rfl)
   (Qd (Oj (Qo Zg rfl ac.len GX (Qa (Qm (pv 0) rfl) Qe)) (jk (Qm (pv 0) rfl) (pv 2) (jd O)))
   (Qd (Zc (Xk Gs Gy GJ Zr (Qm (pv 0) rfl) (Qa (pv 1) Qe)))
   (Qh (Zc (Xk Gs Gy GJ Zr (Qm (pv 0) rfl) (Qa (pv 2) Qe)))))) Q6)
  (Qh (Qv (Qn (Ui O) (Qm (pv 0) rfl) (pv 2))))
 obtain⟨k,m⟩:=x.ob;obtain⟨g,v,u2⟩:=x.th;obtain⟨H,G,w2⟩:=x.fo;obtain⟨l,n,kl,Q,Y⟩:=x.kn;have R:gJ h c (Y1 (fm b t)):=M.key (by cases t;simp only[Th.ok,Td]at ok;exact ok.1);have ul:=u2.length;have wl:H.length=b.length:=by rw[Gr w2,List.length_map]
 exists _,Xb,_,Xb,p,C,k,_,_,Xb,m,e.cl,e.nN,O5 _ _ _,c,d,Y1 (fm b t),l,Xb,Xb,n,R,_,Xb;rw[qE x N Q Y];by_cases j:t∈b
 .rw[Tc j];refine Zu ?_;have J:=q (b.idxOf t) h (by rw[Gn j];exact x) (by rw[Gn j];exact Ri j) gn.refl;exact{_,Xb,p,C,k,_,_,Xb,m,e.cl,e.nN,O5 _ _ _,_,Xb,d,c,Y1 (fm b t),l,_,Xb,Xb,n,R,Q _ t (Ri j),J}
 .rw[GQ j];refine Y0 ?_;have T:=KY (c:=c) x n kl Q Y v u2 G w2 hv ok dp N M j;have da:d≠a:=Zi n.at_ v (by intro z;cases z);have df:d≠f:=Zi n.at_ G (by intro z;cases z);have pd:p≠d:=Zi m n.at_ (by intro z;cases z);have pa:p≠a:=Zi m v (by intro z;cases z);have pf:p≠f:=Zi m G (by intro z;cases z);have e1:(g.length:Int)=((b.length:Nat):Int):=by rw[ul]
  exists _,Xb,p,C,k,_,_,Xb,m,e.cl,e.nT,yl _ _ _,a,g,Xb,.inl (Zb.of v),_,Xb,p,C,k,_,_,Xb,m,e.cl,e.nN,O5 _ _ _,_,Xb,d,c,Y1 (fm b t),l,Xb,Xb,n,R,(by rw[Gz];lia);have aa:(zj h d (Vx P w d (Wv l (Y1 (fm b t)) c (.int g.length)))) a=Ga (.lst g):=by rw[Qg (Gp da)];exact v
  have Z:(zj h d (Vx P w d (Wv l (Y1 (fm b t)) c (.int g.length)))) p=Ga (.ins C k (Rb a f d)):=by rw[Qg pd];exact m
  exists _,Xb,p,C,k,_,_,Xb,Z,e.cl,e.nT,yl _ _ _,.inl {Xb,_,Zb.of aa},_,Xb,a,g,_,Xb,Xb,aa,(by rw[Gz];lia);have o2:(zj (zj h d (Vx P w d (Wv l (Y1 (fm b t)) c (.int g.length)))) a (.lst (g++[D]))) p=Ga (.ins C k (Rb a f d)):=by rw[Qg pa];exact Z
  have ab:(zj (zj h d (Vx P w d (Wv l (Y1 (fm b t)) c (.int g.length)))) a (.lst (g++[D]))) f=Ga (.lst H):=by rw[Qg (Gp x.af),Qg (Gp df)];exact G
  exists _,Xb,p,C,k,_,_,Xb,o2,e.cl,e.nF,QB _ _ _,.inl {Xb,_,Zb.of ab},_,Xb,f,H,_,Xb,Xb,ab,(by rw[Gz];lia);rw[e1];have B:gn a f d h (zj (zj (zj h d (Vx P w d (Wv l (Y1 (fm b t)) c (jv b.length)))) a (.lst (g++[D]))) f (.lst (H++[.ref c]))):=⟨λA aj J h1 h2 h3=>by rw[Qg h2,Qg h1,Qg h3];exact J,λA i=>by
    by_cases W:A=f
    .subst W;rw[Qb]at i;cases i
    .rw[Qg W]at i;by_cases U:A=a
     .subst U;rw[Qb]at i;cases i
     .rw[Qg U]at i;by_cases V:A=d
      .subst V;rw[Qb]at i;cases i
      .rw[Qg V]at i;exact i⟩
  have tn:fm (b++[t]) t=fm b t:=pM N;have X:(b++[t])[b.length]?=Ga t:=by simp
  have af:∀o,Pl P w C o p a f d (b++[t])->gn a f d h o->∃u r,o p=Ga (.ins C u (Rb a f d))/\DH P w o d r/\gJ o c (Y1 (fm b t))/\Yf r (Y1 (fm b t))=Ga (jv b.length):=λo y B=>by obtain⟨u,S⟩:=y.ob;obtain⟨r,I,_,U,_⟩:=y.kn;have E:=U b.length t X;rw[tn]at E;exact{u,r,S,I,(M.Ql (B.Ql x)).key (by cases t;simp only[Th.ok,Td]at ok;exact ok.1),E}
  obtain⟨u,r,S,I,ag,E⟩:=af _ T B;exact{_,Xb,p,C,u,_,_,Xb,S,e.cl,e.nN,O5 _ _ _,_,Xb,d,c,Y1 (fm b t),r,_,Xb,Xb,I,ag,E,q b.length _ (by rw[Gh j];exact T) (by rw[Gh j];exact X) B}
end
structure jz(K:Gd)(mg:GY->Option Value)(CW:Gc):Prop where
 cl:gC K CW
 nP:Yp K CW "places"
 nS:Yp K CW "steps"
 mgC:mg "Walk"=Ga (.ref CW)
 few:∃u,mg "FEW_PARTS"=Ga u/\zm (.int 4) u
 walks:∃u,mg "WALKS_ANEW"=Ga u/\zm (.int 1024) u
 steps:∃u,mg "STEPS_ANEW"=Ga u/\zm (.int 40000) u
theorem QT(p:Gc)(n:Int):(wfl p n).lookup ("places":GY)=Ga (.ref p):=by rfl
theorem qb(p:Gc)(n:Int):(wfl p n).lookup ("steps":GY)=Ga (.int n):=by rfl
theorem sG(p:Gc)(n:Int):(wfl p n).lookup ("place_within":GY)=Ge:=by rfl
section
variable{P:Gi}{w:Gu}{K:Gd}{mg:GY->Option Value}{base:Heap}
theorem OP:Qw ["spare","inner"] ["spare","inner"] (Qk pL):=by eq_refl
theorem Kv(F:Wj K "share_of" "share_of" pL f0 fd):Qu P w K mg base Z5 1 f0 fd ["spare","inner"] mq:=by
 refine F.ok OP (λe H Q E h=>?_) (λd A a s H e Q E g h=>?_)
 .obtain⟨i,j,rfl,_⟩:=h;rfl
 obtain⟨i,j,rfl,f,q⟩:=h;exists _,Qd (Zq (PW.pt (Rx (Qr Rv (pv 1) Qj (Q4 _)) (Ia (Qr Rv (Zh X0 (pv 0) (pv 1)) (Zh kQ (pv 1) Qj) (Q4 _))))) (Qh (Qv Qj)) Q6)
  (Qh (Qv (Zh X0 (pv 0) (pv 1))))
 exists _,Xb,_,_,Xb,Xb,_,Xb;by_cases b:j<2
 .rw[Tc b];exact Y0 (Y0 (q 0))
 .rw[GQ b];have c:xY i j:={by ext,by ext};refine Zu {_,Xb,_,Xb,_,_,Xb,Xb,c,_,Xb,_,_,Xb,Xb,_,_,Xb,Xb,_,Xb,?_};refine Vu (λ_=>q 0) (λ_=>?_);exact{_,Xb,_,Xb,_,_,Xb,Xb,c,q _}
theorem vu:Qw ["met","thing","twin","place"] ["met","thing"] (Qk oA):=by eq_refl
theorem P9(F:Wj K "place_among" "place_among" oA f0 fd)(B:Ii mg):Qu P w K mg base Z5 1 f0 fd ["met","thing"] oY:=by
 refine F.ok vu (λT H Q E h=>?_) (λz A n s H T Q E I h=>?_)
 .obtain⟨l,v,t,g,R,rfl,_⟩:=h;rfl
 obtain⟨l,v,t,g,R,rfl,p,k,m,J,x,D,M,N⟩:=h;have L:=I.units;have q:=vu.nd;exists _,Qd (Z8 Gv rfl (yn rfl B.reversed (Qa (pv 0) Qe)) (Vv rfl (Zn (Z6 2 q) (Zn (Z6 3 q) Wl)))
   (Qh (Zq (Qr (oE L) (pv 2) (pv 1) (Q4 _)) (Qh (Qv (pv 3))) Q6)))
  (Qh (Qv Ux))
 refine⟨_,Xb,l,g,Xb,Zb.of p,rh (K:=K) (a:=l) (xs:=g) (λi f d=>d=H/\∃r u,f=[Ga (.ref l),Ga v,r,u])
  {Xb,_,_,Xb} (by rintro i f d _ ⟨e,_⟩;rw[e];exact Zb.of p) ?_ ?_⟩
 .rintro i y f d G ⟨rfl,r,u,rfl⟩;obtain⟨c,S,j,O,rfl,C,e,o⟩:=k y (List.mem_reverse.mp (List.mem_of_getElem? G));have b:=m _ (List.mem_of_getElem? o);exists c,_,Xb,Zz.of C,Xb,S,_,Xb,jv j,_,Xb,Xb,_,Xb,_,Xb,_,_,e.dt,J.dt,jf _ b.1,jf _ x,?_,_,Xb
  .rw[V2,V2];have:=b.2;lia
  rw[zh];by_cases a:O=t
  .subst a;rw[Tc rfl];exact Y0 {_,Xb,M j o}
  .rw[GQ a];exact Zu {Xb,_,_,Xb}
 .rintro f d ⟨rfl,_⟩;exact N
theorem K8:Qw ["self","places"] ["self","places"] (Qk ph):=by eq_refl
theorem OY(F:Wj K "__init__" "Walk.__init__" ph f0 fd)(T:jz K mg CW):Qu P w K mg base Z5 1 f0 fd ["self","places"] (wm CW):=by
 refine F.ok K8 (λi H Q E h=>?_) (λg A f s H i Q E j h=>?_)
 .obtain⟨d,c,p,rfl,_⟩:=h;rfl
 obtain⟨d,c,p,rfl,hw,q⟩:=h;exists _,Qd (Yw (pv 0) (pv 1) rfl) (Qh (Yw (pv 0) Qj Xb));exists _,Xb,_,Xb,d,CW,c,[],Xb,hw,T.cl,T.nP,(by show 0<1000;decide);exists _,Xb,d,CW,c,_,Xb,Qb,T.cl,T.nS,(by show 1<1000;decide);refine q _ {c,0,by rw[Qb,B1]} (λb o e a=>by rw[Qg a,Qg a];exact e) λb a=>?_;by_cases h:b=d
 .subst h;rw[Qb]at a;cases a
 .rw[Qg h,Qg h]at a;exact a
end
section
variable{P:Gi}{w:Gu}{K:Gd}{mg:GY->Option Value}{base:Heap}
theorem vN:Qw ["self","thing","near","spare","met","place","inner","share","scope","parts","part"] ["self","thing","near","spare"] (Qk Ys):=by eq_refl
theorem Ao{n:Nat}{fT fA fS fB:Gc}{bo bk bn bm:Tp}(F:Wj K "place_within" "Walk.place_within" Ys f0 fd)(bR:gX K mg C)(X:jz K mg CW)(aF:Ii mg)(mP:Yc K CW "place_within" f0)(bP:zk K fd ["self","thing","near","spare"] [])
  (bQ:Qu P w K mg base Z5 (n+1) f0 fd ["self","thing","near","spare"] (je P w C CW n))(GT:Qu P w K mg base Z5 1 fT bo ["thing"] pT)(kT:KI K fT)(bT:zk K bo ["thing"] [])(mT:MG mg "top_words" fT)
  (GA:Qu P w K mg base Z5 1 fA bk ["met","thing"] oY)(kA:KI K fA)(bA:zk K bk ["met","thing"] [])(mA:MG mg "place_among" fA)
  (GS:Qu P w K mg base Z5 1 fS bn ["spare","inner"] mq)(kS:KI K fS)(bS:zk K bn ["spare","inner"] [])(mS:MG mg "share_of" fS)
  (mB:Yc K C "place_by_form" fB)(GB:Qu P w K mg base Z5 1 fB bm ["self","thing","form"] (oM P w C))(bB:zk K bm ["self","thing","form"] []):
  Qu P w K mg base Z5 (n+2) f0 fd ["self","thing","near","spare"] (je P w C CW (n+1)):=by
 refine F.ok vN (λE aa aU bO o=>?_) (λcJ cH cU s aa E aU bO hr o=>?_)
 .obtain⟨m,p,dn,ar,sp,t,a,v,d,D,S,aj,u,rfl,_⟩:=o;rfl
 obtain⟨m,p,dn,ar,sp,t,a,v,d,D,S,aj,u,rfl,W,x,xn,hD,aS,fS,ht,Zv,ca,bt,hm,ch,q⟩:=o;have hu:=hr.units;have aN:Yd 1 _:=hr.mono (by ext);have nd:=vN.nd;obtain⟨u1,mF,rF⟩:=X.few;obtain⟨u3,mN,rN⟩:=X.steps;show∃t,Ik ?my _ t/\_;let cD:Xf ?my Ys 11:={_,Qh (Qv (pv 5))}
 let cC:Xf ?my Ys 10:={_,Qd (Zc (Xk Gs Gy GJ Zr (pv 4) (Qa (Za (Qa (pv 1) (Qa (pv 5) Qe))) Qe))) cD.2}
 let cB:Xf ?my Ys 9:={_,Qd (Qt 5 nd (Zf (Qm (pv 0) rfl) bR.cl mB GB aN bB .nil Q5 (Qa (pv 1) (Qa (Za (Qa (Qn Q3 (pv 1) Qj) (Qa (Xx Wh rfl aF.tuple TR (Qa (pv 9) Qe)) Qe))) Qe)))) cC.2}
 let w9:Xf ?my Ys 8:=⟨_,Qd (Z8 Gv rfl (V4 (Yo U1 (pv 1) (Yu Qj) Xt)) (Z6 10 nd)
   (Qd (Zq (PW.pt (J9 (Qr lK (pv 7) Qj (Q4 _)) (Uq (PW.pt (Rx (Qr lC (pv 6) (Ot rfl mF rF) (Q4 _)) (Ia (Qr Rv (Qm (pv 0) rfl) (Ot rfl mN rN) (Q4 _))))))))
    (Qh (Qt 8 nd ma))
    (Qh (Zq (PW.pt (J9 (uU (pv 9) (λ_=>rfl)) (Uq (Qr (oE hu) (pv 10) (Qn Q3 (pv 1) (Qo Zg rfl aF.len GX (Qa (pv 9) Qe))) (Q4 _)))))
     (Qd (Zc (Xk Gs Gy GJ Zr (pv 9) (Qa (Qn Ze (pv 9) (Rr Uz Qj)) Qe)))
     (Qh P4)) Q6)))
   (Qh (Zc (Xk Gs Gy GJ Zr (pv 9) (Qa (Zf (pv 0) X.cl mP bQ hr bP .nil Q5 (Qa (pv 10) (Qa (pv 8) (Qa (IH (pv 7) (pv 3)) Qe)))) Qe)))))) cB.2⟩
 let w8:Xf ?my Ys 7:={_,Qd (Qt 9 nd (Zl Qe)) w9.2}
 let w7:Xf ?my Ys 6:={_,Qd (Qt 8 nd (pv 2)) w8.2}
 let w6:Xf ?my Ys 5:={_,Qd (Qt 7 nd (B4 (Qr Rv (Qm (pv 0) rfl) (Ot rfl mN rN) (Q4 _)) (Zs GS aN rfl mS kS bS .nil Q5 (Qa (pv 3) (Qa (pv 6) Qe))) Qj)) w7.2}
 let w5:Xf ?my Ys 4:=⟨_,Qd (Qt 6 nd (Qo Zg rfl aF.len GX (Qa (V0 (own:=["part"]) (fv:=[]) rfl (S:=(by eq_refl:Wa (Qk Ys) _)) .nil (V4 (Yo U1 (pv 1) (Yu Qj) Xt))
   (λ_ _ _ _ _=>Xe (i:=0) (nd1 _) rfl (De Xb) (Ej Xb)) (λ_ _ _ _ _=>y9 (Qr lK (Qo (r:=λxs aa aU=>∃p ys,xs=[.ref p]/\(Zb K aa p ys\/Zz K aa p ys)/\aU (.int ys.length) aa) Zg rfl aF.len GX (Qa (pv 0) Qe)) Qj (Q4 _))) (λ_ _ _ _ _=>pv 0)) Qe))) w6.2⟩
 let w4:Xf ?my Ys 3:={_,Qd (Zq (R7 (rH (pv 5))) (Qh (Qv (pv 5))) Q6) w5.2}
 let w3:Xf ?my Ys 2:={_,Qd (Qt 5 nd (Zs GA aN rfl mA kA bA .nil Q5 (Qa (pv 4) (Qa (pv 1) Qe)))) w4.2}
 let w2:Xf ?my Ys 1:={_,Qd (Qt 4 nd (Xk DS Er Es (Ak (Jg hr)) (pv 2) (Qa (Zs GT aN rfl mT kT bT .nil Q5 (Qa (pv 1) Qe)) (Qa (Zl Qe) Qe)))) w3.2}
 exists _,Qd (Yw (pv 0) (Zh Uw (Qm (pv 0) rfl) Qj) rfl) w2.2;obtain⟨ax,k0,ow⟩:=W;exists _,Xb,m,CW,ax,_,_,Xb,ow,X.cl,X.nS,qb _ _,_,_,Xb,Xb,_,Xb,m,CW,ax,_,Xb,ow,X.cl,X.nS,(by show 2<1000;decide);rw[C7];obtain⟨cK,op⟩:=x.ob;obtain⟨cW,u1,_⟩:=x.th;obtain⟨cY,w1,_⟩:=x.fo;obtain⟨cQ,D1,_⟩:=x.kn;generalize aJ:zj aa m (.ins CW ax (wfl p (k0+1)))=H0;have ai:∀f A,aa f=Ga A->f≠m->H0 f=Ga A:=λf A b o=>by rw[<-aJ,Qg o];exact b
 have bf:H0 m=Ga (.ins CW ax (wfl p (k0+1))):=by rw[<-aJ,Qb]
 have bM:∀f,H0 f=Ge->aa f=Ge:=λf j=>by
  by_cases o:f=m
  .subst o;rw[bf]at j;cases j
  .rw[<-aJ,Qg o]at j;exact j
 clear aJ;have t0:Qp aa H0:=λf xs b=>ai f _ b (Zi b ow (by intro z;cases z));have x0:Pl P w C H0 p a v d u:=x.keep (λA b=>ai _ _ b (Zi op ow QI)) (λA b=>ai _ _ b (Zi u1 ow (by intro z;cases z))) (λA b=>ai _ _ b (Zi w1 ow (by intro z;cases z))) (λA b=>ai _ _ b (Zi D1.at_ ow (by intro z;cases z))) t0;have bN:gm H0 D S aj u:=xn.keep (λf j A b=>by
   obtain⟨kv,o,_⟩:=xn.at_ f j;exact ai _ _ b (Zi o ow (by intro z;cases z))) (λf j A b=>by
   obtain⟨kv,o,_⟩:=xn.ls f j;exact ai _ _ b (Zi o ow (by intro z;cases z))) t0 (λ_ _ o=>o) (Gm _)
 have bD:=ht.Ql t0;have sz:=O3 t;obtain⟨bF,ag,cN,_⟩:=bN.at_ dn hD;refine{_,Xb,.inr (.inr (.inl {Xb,.inr ⟨bF,ag⟩})),_,Xb,ar,t,Xb,bD,by ext,λr H1 g1 R=>{Gw _,λq1 aM=>?_}};have g2:=g1.trans (Qf aM (.lst []));refine{dn,r,.ref q1,bF,lR t,Xb,Xb,g2 _ _ ag,(Qf aM (.lst [])) _ _ R,by rw[Gz];ext,λnv H3 bv=>?_};obtain⟨J,S1,rfl,lS,bh,cw,cr,ao,cy⟩:=JJ bN hD ag g1 aM bv;clear bv g2 R g1 aM;have t3:Qp H0 H3:=λf xs b=>ao f _ b (Zi b ag (by intro z;cases z));have a9:=bD.Ql t3;have bg:H3 m=Ga (.ins CW ax (wfl p (k0+1))):=ao _ _ bf (Zi bf ag (by intro z;cases z));have W3:R1 CW H3 m p:={_,_,bg};have x3:Pl P w C H3 p a v d u:=by obtain⟨dx,o1⟩:=x0.ob;obtain⟨us,u1,_⟩:=x0.th;obtain⟨ws,w1,_⟩:=x0.fo;obtain⟨kv,D,_⟩:=x0.kn;exact x0.keep (λA b=>ao _ _ b (Zi o1 ag (by intro z;cases z))) (λA b=>ao _ _ b (Zi u1 ag (by intro z;cases z))) (λA b=>ao _ _ b (Zi w1 ag (by intro z;cases z))) (λA b=>ao _ _ b (Zi D.at_ ag (by intro z;cases z))) t3
 have F3:gv a v d m D D S S1 aa H3:={λf A b _ _ _ h4 h5 _=>ao f A (ai f A b h4) (λz=>h5 (z▸hD)),λ_ o=>.inl o,λf j=>(cr f j).elim .inl λz=>.inr (bM f z),λ_ o=>o,cw,λf j=>bM f (cy f j)};have bI:∀c,c∉S->aa c≠Ge->c∉S1:=λc R h2 z=>by
  rcases F3.Qha c z with z|z
  .exact R z
  .exact h2 z
 have bU:a∉S1:=bI a aS (by rw[u1];intro z;cases z);have b7:v∉S1:=bI v fS (by rw[w1];intro z;cases z);obtain⟨es,hl,cS,b3⟩:=bh.ls J lS;exists _,Xb,_,Xb,J,ar,t,es,u,Xb,hl,b3,x3.ok,a9,Zv,bt,λl ej=>?_
 .have b:=zc x.cl (List.mem_of_getElem? ej);refine{_,Xb,Gg,by rw[GQ nofun];rfl,Y0 {_,Xb,q l D S1 H3 W3 (by rw[b];exact x3) (by rw[b];exact bh.mono (by ext)) (by rw[b];exact ej) F3}}
 refine{_,Xb,Gq,by rw[Tc rfl];rfl,Zu ?_};obtain⟨Y,wd,E,e,rfl,rfl,bq,a7⟩:=a9.inv;simp only[Th.size,Th.depth]at hm ch ca bt;have ay:okL e=Gg:=by simp only[Th.ok,Td]at Zv;exact Zv.2
 have cl:=a7.length;have cT:=Zj e;refine{_,Xb,_,Xb,Y,_,Xb,Zz.of bq,Wz _ _,λrA bx=>?_};rw[gY];have sA:=Qf bx (.tup E);refine{rA,Xb,{_,Zz.of Qb},λpA a6=>?_};refine HH (K:=K) (a:=rA) (xs:=E) (λi ys ah H2=>(∃x0,ah=[x0])/\Qx (zj H3 rA (.tup E)) H2) (small (by ext)) {{_,Xb},Qf a6 (.lst [])} (λi ys ah H2 _ o=>Zz.of (o.2 _ _ Qb)) ?_ ?_
 .rintro i y ys ah H2 hi ⟨⟨x0,rfl⟩,aZ⟩ gp;obtain⟨ty,Q,hy⟩:=a7.get hi;obtain⟨f,wb,us,qs,rfl,rfl,j,_⟩:=hy.inv;exists _,Xb,f,_,Xb,.inr (Zz.of (aZ _ _ (sA _ _ j))),_,_,Xb,Xb,_,Xb;refine Vu (λ_=>?_) (λ_=>{gp,{_,Xb},aZ});exact{_,Xb,gp,{_,Xb},λc A b=>by rw[Qg (Qc b a6)];exact aZ _ _ b}
 rintro ys ah O cj ⟨_,gA⟩ gp;have ak:Qx H3 O:=sA.trans gA;exists pA,ys,Xb,.inl (Zb.of gp);exists _,Xb,m,CW,ax,_,_,Xb,ak _ _ bg,X.cl,X.nS,qb _ _,_,_,Xb,Xb,_,Xb;refine AB (λX9=>Vu (λ_=>{_,Xb,_,Xb,_,_,Xb,by ext,λr=>X9 r}) (λ_=>X9 0)) (λsh=>?_);have W4:R1 CW O m p:={_,_,ak _ _ bg};have x4:=x3.same ak;have az:=bh.same ak;have F4:gv a v d m D D S S1 aa O:=F3.trans (gv.of ak);have bE:=a9.same ak;have a0:=ak _ _ bq;have a8:=a7.same ak;generalize (ys.length:Int)=ba;clear gA gp cj bx a6;refine{_,Xb,Gw _,λh T=>?_};have s4:=Qf T (.lst []);refine{_,Xb,_,Xb,Y,_,Xb,Zz.of (s4 _ _ a0),Wz _ _,λr2 bw=>?_};rw[gY];have s5:=Qf bw (.tup E);have aR:=s4.trans s5;have q5:=s5 _ _ (@Qb O h (.lst []));have r5:=@Qb (zj O h (.lst [])) r2 (.tup E);have cf:h≠r2:=Qc Qb bw;have x5:=x4.same aR;have cG:=az.same aR;have W5:R1 CW (zj (zj O h (.lst [])) r2 (.tup E)) m p:=by obtain⟨dx,k,A⟩:=W4;exact{dx,k,aR _ _ A}
 generalize cL:zj (zj O h (.lst [])) r2 (.tup E)=H5 at*;obtain⟨cV,cz,cI⟩:=x4.th;obtain⟨cX,b8,_⟩:=x4.fo;obtain⟨cO,D3,_⟩:=x4.kn;obtain⟨bY,k4,o4⟩:=W4;have bJ:h≠a:=λz=>by rw[z,cz]at T;cases T
 have bK:h≠v:=λz=>by rw[z,b8]at T;cases T
 have cv:h≠d:=λz=>by rw[z,D3.at_]at T;cases T
 have bL:h≠m:=λz=>by rw[z,o4]at T;cases T
 have cu:h∉S1:=λz=>by obtain⟨xs,o,_⟩:=az.ls _ z;rw[o]at T;cases T
 have ct:h∉D:=λz=>by obtain⟨xs,o,_⟩:=az.at_ _ z;rw[o]at T;cases T
 have W4:R1 CW O m p:=⟨bY,k4,o4⟩;refine⟨r2,Xb,{_,Zz.of r5},oq (K:=K) (a:=r2) (xs:=E) (λi ah B=>gZ λ(I G:List Gc)(ds:Gc)(g:List Nat)(au:Option V)=>kh (ah=[Ga (.ref m),Ga (.ref Y),Ga (.ref dn),Ga (.int sp),Ga (.ref J),Ga .non,Ga (.int ba),Ga (.int sh),Ga (.ref ds),Ga (.ref h),au]) (R1 CW B m p) (Pl P w C B p a v d (Yq u (Zd (e.take i)))) (gm B I G (aj+1+2*Qs (e.take i)) (Yq u (Zd (e.take i)))) (ds∈I) (gv a v d m D I S1 G O B) (h∉I) (h∉G) (a∉G) (v∉G) (B h=Ga (.lst (g.map jv))) (g.length=i) (∀(k l:Nat),g[k]?=Ga l->∃s,e[k]?=Ga s/\(Yq u (Zd (e.take i)))[l]?=Ga s) (B r2=Ga (.tup E)))
  {D,S1,dn,[],_,Xb,W5,?_,?_,hD,gv.of aR,ct,cu,bU,b7,q5,Xb,λk l o=>by simp at o,r5} (by rintro i ah B _ ⟨_,_,_,_,_,_,_,_,_,_,_,_,_,_,_,_,_,_,o⟩;exact Zz.of o) ?_ ?_⟩
 .simp only[List.take_zero,Zd,Iw];exact x5
 .simp only[List.take_zero,Zd,Qs,Iw,Nat.mul_zero,Fn];exact cG
 .intro i y;have eS:∀ty,e[i]?=Ga ty->Yq (Yq u (Zd (e.take i))) ty.inside=Yq u (Zd (e.take (i+1))):=λty Q=>by rw[An e i ty Q,Ut]
  have bp:∀(ty:Th)(aH:Gc)(D7 U:List Gc)(M:Hp)(g:List Nat)(l:Nat)(au:Option V),e[i]?=Ga ty->g.length=i->(∀(k l:Nat),g[k]?=Ga l->∃s,e[k]?=Ga s/\(Yq u (Zd (e.take i)))[l]?=Ga s)->R1 CW M m p->Pl P w C M p a v d (Yq u (Zd (e.take (i+1))))->gm M D7 U (aj+1+2*Qs (e.take (i+1))) (Yq u (Zd (e.take (i+1))))->aH∈D7->gv a v d m D D7 S1 U O M->h∉D7->h∉U->a∉U->v∉U->M h=Ga (.lst (g.map jv))->M r2=Ga (.tup E)->(Yq u (Zd (e.take (i+1))))[l]?=Ga ty->
    gZ λ(I G:List Gc)(ds:Gc)(bb:List Nat)(cF:Option V)=>kh ([Ga (.ref m),Ga (.ref Y),Ga (.ref dn),Ga (.int sp),Ga (.ref J),Ga .non,Ga (.int ba),Ga (.int sh),Ga (.ref aH),Ga (.ref h),au]=[Ga (.ref m),Ga (.ref Y),Ga (.ref dn),Ga (.int sp),Ga (.ref J),Ga .non,Ga (.int ba),Ga (.int sh),Ga (.ref ds),Ga (.ref h),cF]) (R1 CW (zj M h (.lst (g.map jv++[jv l]))) m p) (Pl P w C (zj M h (.lst (g.map jv++[jv l]))) p a v d (Yq u (Zd (e.take (i+1))))) (gm (zj M h (.lst (g.map jv++[jv l]))) I G (aj+1+2*Qs (e.take (i+1))) (Yq u (Zd (e.take (i+1))))) (ds∈I) (gv a v d m D I S1 G O (zj M h (.lst (g.map jv++[jv l])))) (h∉I) (h∉G) (a∉G) (v∉G) ((zj M h (.lst (g.map jv++[jv l]))) h=Ga (.lst (bb.map jv))) (bb.length=i+1) (∀(k l:Nat),bb[k]?=Ga l->∃s,e[k]?=Ga s/\(Yq u (Zd (e.take (i+1))))[l]?=Ga s) ((zj M h (.lst (g.map jv++[jv l]))) r2=Ga (.tup E)):=by
   intro ty aH D7 U M g l au Q lw ab W7 x7 aE bX H aP aQ aV aY q7 r7 e7;obtain⟨bZ,k7,o7⟩:=W7;exists D7,U,aH,g++[l],au,Xb,{bZ,k7,by rw[Qg (Gp bL)];exact o7},x7.but q7 bJ bK,?_,bX,?_,aP,aQ,aV,aY,?_,by rw[List.length_append,List.length_singleton,lw],λk j' hk=>?_
   .refine aE.keep (λf j A b=>?_) (λf j A b=>?_) (Zk λxs b=>by rw[q7]at b;cases b) (λ_ _ o=>o) (Gm _)
    .rw[Qg (show f≠h fromλz=>aP (by rw[<-z];exact j))];exact b
    .rw[Qg (show f≠h fromλz=>aQ (by rw[<-z];exact j))];exact b
   .refine{λf A b R h2 h3 h4 h5 h6=>?_,H.Qml,H.Qha,H.Qqt,H.Qpz,λf j=>?_}
    .rw[Qg (Qc b T)];exact H.keep f A b R h2 h3 h4 h5 h6
    .by_cases bs:f=h
     .subst bs;rw[Qb]at j;cases j
     .rw[Qg bs]at j;exact H.there f j
   .rw[Qb,List.map_append];rfl
   .rcases Tn k g.length with a4|a4
    .rw[List.getElem?_append_left a4]at hk;obtain⟨s0,R,h2⟩:=ab k j' hk;exists s0,R;rw[<-eS ty Q];exact nK h2
    .rw[List.getElem?_append_right a4]at hk;have h0:k - g.length=0:=by have:=(List.getElem?_eq_some_iff.mp hk).1;simp at this;ext
     rw[h0]at hk;simp at hk;subst hk;have:k=i:=by ext
     subst this;exact⟨ty,Q,e7⟩
   .rw[Qg (Gp cf)];exact r7
  refine' Cm (F:=λbW H'=>E[i]?=Ga y/\∃(D' S':List Gc)(g:List Nat),R1 CW H' m p/\Pl P w C H' p a v d (Yq u (Zd (e.take i)))/\gm H' D' S' (aj+1+2*Qs (e.take i)) (Yq u (Zd (e.take i)))/\bW∈D'/\gv a v d m D D' S1 S' O H'/\h∉D'/\h∉S'/\a∉S'/\v∉S'/\H' h=Ga (.lst (g.map jv))/\g.length=i/\(∀(k l:Nat),g[k]?=Ga l->∃s,e[k]?=Ga s/\(Yq u (Zd (e.take i)))[l]?=Ga s)/\H' r2=Ga (.tup E)) (λX9=>?myk) ?myh
  case myk=>
   rintro ah B hi ⟨I,G,ds,g,au,rfl,W6,L,ac,aw,F6,ap,aq,ad,af,N,lw,ab,r6⟩;have cd:i<E.length:=(List.getElem?_eq_some_iff.mp hi).1;obtain⟨ty,Q,hy⟩:=a8.get hi;have aB:ty∈e:=List.mem_of_getElem? Q;have be:ty.ok=Gg:=by rw[Uv,List.all_eq_true]at ay;exact ay ty aB
   have m2:=X7 aB;have m4:=Od e i ty Q;have t6:Qp O B:=F6.Ql W4 x4 az;have a1:=t6 _ _ a0;obtain⟨ae,k6,Z⟩:=W6;have W6:R1 CW B m p:=⟨ae,k6,Z⟩;have bu:=X9 ds B ⟨hi,I,G,g,W6,L,ac,aw,F6,ap,aq,ad,af,N,lw,ab,r6⟩;dsimp only[Vn,List.set_cons_succ,List.set_cons_zero]
   refine' AA (λYi bi=>?mykk) ?mythn ?myels
   case mykk=>refine{_,Xb,_,_,Xb,Xb,_,Xb,Vu (λ_=>?_) (λ_=>Zu bi)};refine{_,Xb,_,_,Xb,Xb,_,Xb,Vu (λ_=>Y0 Yi) (λ_=>?_)};exact{_,Xb,m,CW,ae,_,_,Xb,Z,X.cl,X.nS,qb _ _,_,_,Xb,Xb,_,Xb,Vu (λ_=>Yi) (λ_=>bi)}
   case myels=>
    by_cases a5:g=[]
    .exact{_,Xb,Gq,.inl {_,Zb.of N,by rw[a5];rfl},Zu (Zu bu)}
    .have cM:0<g.length:=List.length_pos_iff.mpr a5;have bc:(g.map jv).length=g.length:=List.length_map _;obtain⟨vp,bj⟩:∃vp,E[i - 1]?=Ga vp:={_,List.getElem?_eq_getElem (show i - 1<E.length by ext)};obtain⟨tp,aX,ci⟩:=a8.get bj;have cp:tp.ok=Gg:=by rw[Uv,List.all_eq_true]at ay;exact ay tp (List.mem_of_getElem? aX)
     have m3:=X7 (List.mem_of_getElem? aX);have bV:atI (V.str wd::E) (((g.map jv).length:Nat):Int)=Ga vp:=by refine Qz ?_;rw[bc,lw,show i=(i - 1)+1 by ext,List.getElem?_cons_succ];exact bj
     refine{_,Xb,Gg,.inl {_,Zb.of N,by cases g with|nil=>exact absurd rfl a5|cons _ _=>rfl},Y0 ?_};exists _,Xb,_,Xb,_,Xb,h,g.map jv,Xb,.inl (Zb.of N),Y,_,_,vp,Xb,Xb,Zz.of a1,bV,_,_,(hy.Ql t6).dt,(ci.Ql t6).dt,jf _ be,jf _ cp,?_,_,Xb
     .rw[V2,V2];ext
     rw[zh];by_cases a3:ty=tp
     .rw[Tc a3];refine Y0 ?_;obtain⟨vl,al,bl⟩:=z7 (g.map jv) (by ext);rw[List.getElem?_map,bc]at bl;obtain⟨jl,ce,rfl⟩:∃jl,g[g.length - 1]?=Ga jl/\vl=jv jl:=by
       cases b:g[g.length - 1]? with
       |none=>rw[b]at bl;cases bl
       |some jl=>rw[b]at bl;exact{jl,Xb,(To bl).symm}
      obtain⟨sl,bz,bC⟩:=ab _ _ ce;have b6:sl=ty:=by rw[lw,aX]at bz;rw[a3];exact(To bz).symm
      subst b6;have eD:Yq u (Zd (e.take (i+1)))=Yq u (Zd (e.take i)):=by rw[<-eS sl Q];exact zc L.cl (List.mem_of_getElem? bC)
      exists _,Xb,.inl {Xb,_,Zb.of N},_,Xb,_,Xb,h,g.map jv,_,_,Xb,Xb,Zb.of N,al,h,g.map jv,jv jl,Xb,Xb,N,(by rw[bc,Gz];ext);exact bp sl ds I G B g jl _ Q lw ab W6 (by rw[eD];exact L) (by rw[eD];exact ac.mono (by ext)) aw F6 ap aq ad af N r6 (by rw[eD];exact bC)
     .rw[GQ a3];exact Zu bu
   case mythn=>
    intro cc aA;have sc:=Qf aA (.dT []);refine X9 cc (zj B cc (.dT [])) {hi,cc::I,G,g,{ae,k6,sc _ _ Z},L.same sc,ac.more aA,List.mem_cons_self,?_,?_,aq,ad,af,sc _ _ N,lw,ab,sc _ _ r6}
    .have H:=F6.trans (gv.of (D:=I) (S:=G) sc);exact{H.keep,λf j=>(List.mem_cons.mp j).elim (λz=>.inr (by rw[z];exact F6.there _ aA)) (H.Qml f),H.Qha,λf j=>List.mem_cons_of_mem _ (H.Qqt f j),H.Qpz,H.there}
    .intro z;rcases List.mem_cons.mp z with z|z
     .rw[<-z,N]at aA;cases aA
     .exact ap z
  case myh=>
   rintro ds B ⟨hi,I,G,g,W6,L,ac,aw,F6,ap,aq,ad,af,N,lw,ab,r6⟩;have cd:i<E.length:=(List.getElem?_eq_some_iff.mp hi).1;obtain⟨ty,Q,hy⟩:=a8.get hi;have aB:ty∈e:=List.mem_of_getElem? Q;have m1:=Od e i ty Q;have m2:=X7 aB;have m3:=Vc e (i+1);have be:ty.ok=Gg:=by rw[Uv,List.all_eq_true]at ay;exact ay ty aB
   have t6:Qp O B:=F6.Ql W4 x4 az;have an:=mo (Zd (e.take i)) u;rw[Us]at an;obtain⟨ae,k6,Z⟩:=W6;have W6:R1 CW B m p:=⟨ae,k6,Z⟩;refine{_,Xb,.inl {Xb,_,Zb.of N},_,Xb,m,ae,_,Xb,Z,sG _ _,_,Xb,_,Xb,sh,sp,Xb,Xb,λz=>?_};refine{m,p,ds,y,z,ty,a,v,d,I,G,_,_,Xb,W6,L,ac,aw,ad,af,hy.Ql t6,be,by ext,by ext,by ext,by ext,λl D7 U M W7 x7 aE e7 H=>?_};have q7:M h=Ga (.lst (g.map jv)):=H.keep _ _ N bJ bK cv bL ap aq;have bd:∀c,c∉G->B c≠Ge->c∉U:=λc R h2 z=>by
    rcases H.Qha c z with z|z
    .exact R z
    .exact h2 z
   have aQ:h∉U:=bd h aq (by rw[N];intro z;cases z);have aP:h∉D7:=λz=>by
    rcases H.Qml _ z with z|z
    .exact ap z
    .rw[N]at z;cases z
   obtain⟨cA,aT,_⟩:=L.th;obtain⟨cE,aI,_⟩:=L.fo;have aV:a∉U:=bd a ad (by rw[aT];intro z;cases z);have aY:v∉U:=bd v af (by rw[aI];intro z;cases z);exists h,g.map jv,jv l,Xb,Xb,q7,(by rw[List.length_map,Gz];ext);have r7:M r2=Ga (.tup E):=H.Ql W6 L ac _ _ r6;rw[eS ty Q]at x7 aE e7;have eM:aj+1+2*Qs (e.take i)+2*ty.size=aj+1+2*Qs (e.take (i+1)):=by ext
   rw[eM]at aE;exact bp ty ds D7 U M g l _ Q lw ab W7 x7 aE (H.Qqt _ aw) (F6.trans H) aP aQ aV aY q7 r7 e7
 .rintro ah B ⟨I,G,ds,g,au,rfl,W6,L,ac,aw,F6,ap,aq,ad,af,N,lw,ab,r6⟩;have ep:e.take E.length=e:=by rw[cl,List.take_length]
  rw[ep]at L ac ab;have t6:Qp O B:=F6.Ql W4 x4 az;have a1:=t6 _ _ a0;obtain⟨b1,cq⟩:=L.ob;obtain⟨ae,k6,Z⟩:=W6;have ck:=mo (Zd e) u;rw[Us]at ck;have aO:=F6.Qpz J lS;have cs:∀s0∈e,s0∈Yq u (Zd e):=λs0 cg=>(oQ _ _ _).mpr (.inr (by rw[Xu,List.mem_flatMap];exact{s0,cg,si s0}));have b4:g=e.map λs0=>(Yq u (Zd e)).idxOf s0:=by
   refine List.ext_getElem? λk=>?_;rw[List.getElem?_map];cases b:g[k]? with
   |none=>
    have:g.length<=k:=by simpa using b
    rw[List.getElem?_eq_none (by ext)];rfl
   |some j0=>obtain⟨s0,R,h2⟩:=ab k j0 b;rw[R,T3,R6 L.nd h2]
  refine{_,Xb,m,CW,ae,_,_,Xb,Z,X.cl,X.nP,QT _ _,p,b1,_,Xb,cq,OH _ _ _,_,Xb,_,Xb,Y,_,_,.str wd,Xb,Xb,Zz.of a1,R8 _ _,_,Xb,h,_,Xb,.inl {Zb.of N,λe0 cb=>?_}};have s6:=Qf cb (.tup (g.map jv));refine{by show 2<=Gj;decide,λc0 b9=>?_};have s7:=Qf b9 (.tup [.str wd,.ref e0]);have aC:=s6.trans s7;refine{p,c0,.ref Y,.mk wd e,a,v,d,_,Xb,L.same aC,(bE.Ql t6).same aC,Zv,by simp only[Th.depth];ext,cs,{c0,e0,Xb,Qb,?_},by ext,λl H8 x8 e8 F8=>?_}
  .rw[s7 _ _ Qb,b4];rfl
  have eI:(Th.mk wd e).inside=Zd e++[Th.mk wd e]:=by simp[Th.inside]
  have eD:Yq u (Th.mk wd e).inside=if Th.mk wd e∈Yq u (Zd e)then Yq u (Zd e)else Yq u (Zd e)++[Th.mk wd e]:=by rw[eI,IR]
  rw[<-eD]at x8 e8;have cx:Qp B H8:=λf xs b=>(F8.Ql (L.same aC)) f xs (aC _ _ b);have av:gn a v d B H8:=(gn.of aC).trans F8;obtain⟨aW,an,cR,b2⟩:=ac.ls J aO;have bG:J≠a:=λz=>ad (z▸aO);have bH:J≠v:=λz=>af (z▸aO);obtain⟨cA,aT,_⟩:=L.th;obtain⟨cE,aI,_⟩:=L.fo;obtain⟨cP,aG,_⟩:=L.kn;have cn:J≠d:=Zi an aG.at_ (by intro z;cases z);have co:J≠m:=Zi an Z (by intro z;cases z);have aL:=av.keep _ _ an bG bH cn;have o8:=av.keep _ _ Z (Zi Z aT (by intro z;cases z)) (Zi Z aI (by intro z;cases z)) (Zi Z aG.at_ (by intro z;cases z));refine{_,Xb,.inl {Xb,_,Zb.of aL},_,Xb,_,Xb,by show 2<=Gj;decide,λc9 a2=>?_};have s9:=Qf a2 (.tup [.ref Y,jv l]);exists J,aW,.ref c9,Xb,Xb,s9 _ _ aL,(by rw[Gz];ext);have x9:=x8.same s9;have sE:(Th.mk wd e).size=Qs e+1:=by simp[Th.size]
  have aD:Qp B (zj (zj H8 c9 (.tup [.ref Y,jv l])) J (.lst (aW++[.ref c9]))):=λf xs b=>by rw[Qg (Zi b an (by intro z;cases z))];exact s9 _ _ (cx _ _ b)
  have cm:(zj (zj H8 c9 (.tup [.ref Y,jv l])) J (.lst (aW++[.ref c9]))) c9=Ga (.tup [.ref Y,jv l]):=by rw[Qg (λz=>by rw[z,aL]at a2;cases a2),Qb]
  refine{_,Xb,q l I G _ {ae,k6,by rw[Qg (Gp co)];exact s9 _ _ o8} (x9.but (s9 _ _ aL) bG bH) {λf j=>?_,λf j=>?_} e8 ?_}
  .obtain⟨kv,k1,k2,k3⟩:=ac.at_ f j;refine{kv,?_,by rw[sE];ext,k3};rw[Qg (Zi k1 an (by intro z;cases z))];exact s9 _ _ (av.keep _ _ k1 (Zi k1 aT (by intro z;cases z)) (Zi k1 aI (by intro z;cases z)) (Zi k1 aG.at_ (by intro z;cases z)))
  .by_cases aK:f=J
   .subst aK;refine{_,Qb,by rw[List.length_append,List.length_singleton,sE];ext,λb he=>?_};rcases List.mem_append.mp he with he|he
    .obtain⟨c,ar,j0,t0,k1,k2,k3,k4⟩:=b2 b he;exists c,ar,j0,t0,k1,aD _ _ k2,k3.Ql aD;rw[eI,Ut];exact nK k4
    .rw[List.mem_singleton]at he;subst he;exact{c9,.ref Y,l,_,Xb,cm,(bE.Ql t6).Ql aD,e8}
   .obtain⟨b5,k1,k2,k3⟩:=ac.ls f j;refine{b5,?_,by rw[sE];ext,λb he=>?_}
    .rw[Qg aK];exact s9 _ _ (av.keep _ _ k1 (λz=>ad (z▸j)) (λz=>af (z▸j)) (Zi k1 aG.at_ (by intro z;cases z)))
    .obtain⟨c,ar,j0,t0,k4,k5,k6,k7⟩:=k3 b he;exists c,ar,j0,t0,k4,aD _ _ k5,k6.Ql aD;rw[eI,Ut];exact nK k7
  .have am:=F4.trans F6;refine{λf A b R h2 h3 h4 h5 h6=>?_,am.Qml,am.Qha,am.Qqt,am.Qpz,λf j=>?_}
   .have e9:=am.keep f A b R h2 h3 h4 h5 h6;have aK:f≠J:=λz=>by
     rcases am.Qha J aO with w1|w1
     .exact h6 (z▸w1)
     .rw[<-z,b]at w1;cases w1
    rw[Qg aK];exact s9 _ _ (av.keep _ _ e9 R h2 h3)
   .refine am.there f (av.there f ?_);by_cases br:f=J
    .subst br;rw[Qb]at j;cases j
    .rw[Qg br]at j;exact s9.free j
theorem Hz:Qu P w K mg base Z5 1 f fd ["self","thing","near","spare"] (je P w C CW 0):=by
 have g:∀b H Q E,¬je P w C CW 0 b H Q E:=λb H Q E h=>by obtain⟨o,p,i,v,k,t,a,f,d,D,S,m,l,_,_,_,_,_,_,_,_,_,j,_⟩:=h;have:=qg t;lia
 exact{λb H Q E h=>absurd h (g b H Q E),λA c s H e n b Q E _ _ _ _ h=>absurd h (g b H Q E)}
theorem tF{f i g h v C e:Gc}{j d a c b:Tp}(F:Wj K "place_within" "Walk.place_within" Ys f j)(T:gX K mg C)(p:jz K mg e)(B:Ii mg)(E:Yc K e "place_within" f)(s:zk K j ["self","thing","near","spare"] [])
  (o:Qu P w K mg base Z5 1 i d ["thing"] pT)(z:KI K i)(u:zk K d ["thing"] [])(H:MG mg "top_words" i)
  (k:Qu P w K mg base Z5 1 g a ["met","thing"] oY)(x:KI K g)(q:zk K a ["met","thing"] [])(A:MG mg "place_among" g)
  (m:Qu P w K mg base Z5 1 h c ["spare","inner"] mq)(y:KI K h)(t:zk K c ["spare","inner"] [])(G:MG mg "share_of" h)
  (D:Yc K C "place_by_form" v)(l:Qu P w K mg base Z5 1 v b ["self","thing","form"] (oM P w C))(r:zk K b ["self","thing","form"] []):∀n:Nat,Qu P w K mg base Z5 (n+1) f j ["self","thing","near","spare"] (je P w C e n)
 |0=>Hz
 |n+1=>Ao F T p B E s (tF F T p B E s o z u H k x q A m y t G D l r n) o z u H k x q A m y t G D l r
theorem BS:Qw ["self","thing"] ["self","thing"] (Qk nX):=by eq_refl
theorem Cw{B D:Gc}{E G:Tp}(F:Wj K "place_of" "Places.place_of" nX f0 fd)(l:jz K mg CW)(V:Mk K CW B)(S:Qu P w K mg base Z5 1 B E ["self","places"] (wm CW))(Z:zk K E ["self","places"] [])(mW:Yc K CW "place_within" D)(bW:zk K G ["self","thing","near","spare"] [])
  (R:Qu P w K mg base Z5 51 D G ["self","thing","near","spare"] (je P w C CW 50)):Qu P w K mg base Z5 52 f0 fd ["self","thing"] (y0 P w C):=by
 refine F.ok BS (λvs g W Q n=>?_) (λae ad ai s g vs W Q J n=>?_)
 .obtain⟨p,r,t,a,A,d,O,rfl,_⟩:=n;rfl
 obtain⟨p,r,t,a,A,d,O,rfl,x,ht,Y,I,ag,q⟩:=n;obtain⟨u2,mN,rN⟩:=l.walks;have ab:Yd 2 _:=J.mono (by decide);exists _,Qh (Qv (Zf (mQ V S ab rfl l.mgC Z .nil Q5 (Qa (pv 0) Qe)) l.cl mW R J bW .nil Q5 (Qa (pv 1) (Qa ma (Qa (Ot rfl mN rN) Qe)))));refine{_,Xb,λf m o aa af=>?_};have s0:Qx g (zj (zj g m (.own f)) f (.ins CW m [])):=λc e b=>by rw[Qg (Qc b o),Qg (Qc b aa)];exact b
 refine{f,m,p,Xb,Qb,λU X k1 aj=>{Xb,?_}};have M:Qx g U:=λc e b=>k1 c e (s0 c e b) (Qc b o);obtain⟨y,kw,L⟩:=X;refine{f,y,_,Xb,L,sG _ _,_,Xb,λv H=>?_};have N:=Qf H (.dT []);have j:=M.trans N;refine{f,p,v,r,_,t,a,A,d,[v],[],0,O,Xb,{y,kw,N _ _ L},x.same j,{λh i=>?_,λah hl=>nomatch hl},by simp,by simp,by simp,ht.same j,Y,I,I,by lia,by lia,λac D' S' T W' x' n' e' u=>?_}
 .rw[List.mem_singleton]at i;subst i;exact{[],Qb,Gm _,λk r b=>by rw[pJ]at b;cases b}
 .refine q ac T x' e' {λh e b Q W h3=>u.keep h e (j _ _ b) Q W h3 (Qc b o) (λz=>?_) (by simp),λh i=>j.free (u.there h i)};rw[List.mem_singleton]at z;exact Qc (M _ _ b) H z
end
end K07
namespace Nt
variable{up:Nat->Option Nat}{p a b m n q x lo hi:Nat}{l S cl:List Nat}
inductive Ch(up:Nat->Option Nat):Nat->List Nat->Prop
 |top {p:Nat}:up p=Ge->Ch up p [p]
 |step {p q:Nat} {l:List Nat}:up p=Ga q->Ch up q l->Ch up p (p::l)
theorem Ch.uniq{a:Nat->Option Nat}:∀{p:Nat}{l m:List Nat},Ch a p l->Ch a p m->l=m
 |_,_,_,.top e,.top _=>rfl
 |_,_,_,.top e,.step f _=>by rw[e]at f;cases f
 |_,_,_,.step e _,.top f=>by rw[e]at f;cases f
 |_,_,_,.step e h,.step f k=>by rw[e]at f;cases f;rw[Ch.uniq h k]
theorem Ch.ne(h:Ch up p l):l≠[]:=by cases h<;>simp
theorem Ch.head(h:Ch up p l):∃r,l=p::r:=by cases h<;>exact{_,Xb}
theorem Ch.suffix{d:Nat->Option Nat}:∀{p:Nat}{l a:List Nat}{z:Nat}{b:List Nat},Ch d p l->l=a++z::b->Ch d z (z::b)
 |p,_,[],z,b,h,e=>by simp only[List.nil_append]at e;obtain⟨r,c⟩:=h.head;rw[e]at c;cases c;rw[<-e];exact h
 |p,_,x::a,z,b,.top _,e=>by simp at e
 |p,_,x::a,z,b,.step f h,e=>by simp only[List.cons_append,List.cons.injEq]at e;exact Ch.suffix h e.2
theorem Ch.nodup{c:Nat->Option Nat}:∀{p:Nat}{l:List Nat},Ch c p l->l.Nodup
 |_,_,.top _=>by simp
 |p,_,.step (l:=l) e h=>by rw[List.nodup_cons];refine{λg=>?_,h.nodup};obtain⟨a,b,rfl⟩:=List.append_of_mem g;have d:=h.suffix rfl;have f:Ch c p (p::(a++p::b)):=.step e h;have:=congrArg List.length (d.uniq f);simp at this;lia
def Zx(l:List Nat):Nat:=l.getLastD 0
theorem nZ(h:l≠[]):Zx (p::l)=Zx l:=by
 cases l with
 |nil=>exact absurd rfl h
 |cons x r=>simp[Zx,List.getLastD]
theorem K0{a b:List Nat}(h:b≠[]):Zx (a++b)=Zx b:=by
 induction a with
 |nil=>rfl
 |cons x r c=>rw[List.cons_append,nZ (by simp[h]),c]
theorem Ch.lU{z:Nat}(h:Ch up p l)(c:z∈l):∃m,Ch up z m/\Zx m=Zx l:=by obtain⟨a,b,rfl⟩:=List.append_of_mem c;exact{z::b,h.suffix Xb,by rw[K0 (by simp)]}
def gW(up:Nat->Option Nat)(p:Nat)(v:Nat):Nat->Option Nat:=λq=>if q=p then Ga v else up q
def Xs(up:Nat->Option Nat):Nat->List Nat->(Nat->Option Nat)
 |_,[]=>up
 |over,c::r=>Xs (gW up c over) c r
theorem Ja:∀{l:List Nat}{a:Nat->Option Nat}{over q:Nat},q∉l->Xs a over l q=a q
 |[],_,_,_,_=>rfl
 |c::r,a,over,q,h=>by simp only[List.mem_cons,not_or]at h;show Xs (gW a c over) c r q=_;rw[Ja h.2];unfold gW;rw[Gh h.1]
theorem Ch.nh{b:Nat->Option Nat}{a:List Nat}{over:Nat}:∀{p:Nat}{l:List Nat},Ch b p l->(∀z∈l,z∉a)->Ch (Xs b over a) p l
 |p,_,.top e,h=>.top (by rw[Ja (h p (by simp))];exact e)
 |p,_,.step e k,h=>.step (by rw[Ja (h p (by simp))];exact e) (Ch.nh k λz c=>h z (by simp[c]))
theorem nY:∀{low:List Nat}{up:Nat->Option Nat}{over:Nat}{m:List Nat},low.Nodup->Ch (Xs up over low) over m->∀z∈low,∃l,Ch (Xs up over low) z l/\Zx l=Zx m
 |[],_,_,_,_,_,z,a=>by simp at a
 |c::r,up,over,m,b,f,z,a=>by
  rw[List.nodup_cons]at b;have g:Xs up over (c::r) c=Ga over:=by show Xs (gW up c over) c r c=_;rw[Ja b.1];unfold gW;rw[Gn rfl]
  have e:Ch (Xs up over (c::r)) c (c::m):=.step g f;have d:Zx (c::m)=Zx m:=nZ f.ne;rcases List.mem_cons.mp a with rfl|a
  .exact{_,e,d}
  .obtain⟨l,h,i⟩:=nY (low:=r) (up:=gW up c over) (over:=c) (m:=c::m) b.2 e z a;exact{l,h,by rw[i,d]}
theorem JS{a:List Nat}{over:Nat}{m:List Nat}(nd:a.Nodup)(g:Ch (Xs up over a) over m):∀{p:Nat}{l:List Nat},Ch up p l->(∃z∈l,z∈a)->∃d,Ch (Xs up over a) p d/\Zx d=Zx m:=by
 intro p l h;induction h with
 |@top p e=>rintro⟨z,b,c⟩;simp at b;subst b;exact nY nd g _ c
 |@step p q l e k j=>
  rintro⟨z,b,c⟩;by_cases f:p∈a
  .exact nY nd g p f
  .rcases List.mem_cons.mp b with rfl|b
   .exact absurd c f
   .obtain⟨d,i,n⟩:=j ⟨z,b,c⟩;exact{p::d,.step (by rw[Ja f];exact e) i,by rw[nZ i.ne,n]}
theorem q9:∀{l:List Nat}{d:Nat->Option Nat}{over p q:Nat},l.Nodup->Xs d over l p=Ga q->d p=Ga q\/(∃r,l=p::r/\q=over)\/∃a b,l=a++q::p::b
 |[],_,_,_,_,_,h=>.inl h
 |c::r,d,over,p,q,f,h=>by
  rw[List.nodup_cons]at f;have h:Xs (gW d c over) c r p=Ga q:=h;rcases q9 f.2 h with h|⟨g,rfl,rfl⟩|⟨a,b,rfl⟩
  .unfold gW at h;by_cases e:p=c
   .rw[Gn e]at h;cases h;subst e;exact .inr (.inl ⟨r,Xb,Xb⟩)
   .rw[Gh e]at h;exact .inl h
  .exact .inr (.inr {[],g,Xb})
  .exact .inr (.inr {c::a,b,Xb})
theorem Ch.g9{c:Nat->Option Nat}:∀{a:List Nat}{p x y:Nat}{b l:List Nat},Ch c p l->l=a++x::y::b->c x=Ga y
 |[],p,x,y,b,_,.top _,e=>by simp at e
 |[],p,x,y,b,_,.step f h,e=>by simp only[List.nil_append,List.cons.injEq]at e;obtain⟨rfl,rfl⟩:=e;obtain⟨r,d⟩:=h.head;cases d;exact f
 |z::a,p,x,y,b,_,.top _,e=>by simp at e
 |z::a,p,x,y,b,_,.step f h,e=>by simp only[List.cons_append,List.cons.injEq]at e;exact Ch.g9 h e.2
variable{α:Type}
inductive Cn(ls:List (Nat×Nat×α)):Nat->Nat->Prop
 |refl (p:Nat):Cn ls p p
 |symm {p q:Nat}:Cn ls p q->Cn ls q p
 |trans {p q r:Nat}:Cn ls p q->Cn ls q r->Cn ls p r
 |link {p q:Nat} {r:α}:(p,q,r)∈ls->Cn ls p q
theorem Cn.mono{a b:List (Nat×Nat×α)}(h:∀x∈a,x∈b):∀{p q:Nat},Cn a p q->Cn b p q:=by
 intro p q c;induction c with
 |refl p=>exact .refl p
 |symm _ d=>exact .symm d
 |trans _ _ d e=>exact .trans d e
 |link m=>exact .link (h _ m)
theorem Cn.Ho{a:List (Nat×Nat×α)}(h:m<=n)(c:Cn (a.take m) p q):Cn (a.take n) p q:=
 c.mono λx b=>by
  have:a.take m=(a.take n).take m:=by rw[List.take_take,E8 h]
  rw[this]at b;exact List.mem_of_mem_take b
structure gw(S:List Nat)(ls:List (Nat×Nat×α))(Xg:Nat->Nat->Option Nat)(up:Nat->Option Nat):Prop where
 g9:∀p q,up p=Ga q->∃n,Xg p q=Ga n
 Qhc:∀p q n,Xg p q=Ga n->∃r,ls[n]?=Ga (p,q,r)\/ls[n]?=Ga (q,p,r)
 all:∀(n p q:Nat)r,ls[n]?=Ga (p,q,r)->Xg p q=Ga n/\Xg q p=Ga n
 sep:∀(n p q:Nat)r,ls[n]?=Ga (p,q,r)->¬Cn (ls.take n) p q
 chain:∀p∈S,∃l,Ch up p l
 inS:∀p q,up p=Ga q->p∈S/\q∈S
theorem gw.pk{a:List (Nat×Nat×α)}{Xg:Nat->Nat->Option Nat}(F:gw S a Xg up)(h:Xg p q=Ga n):Xg q p=Ga n:=by
 obtain⟨r,h|h⟩:=F.Qhc p q n h
 .exact(F.all _ _ _ _ h).2
 .exact(F.all _ _ _ _ h).1
inductive gr(Xg:Nat->Nat->Option Nat):Nat->List Nat->Nat->Prop
 |nil (p:Nat):gr Xg p [] p
 |cons {p q r n:Nat} {ns:List Nat}:Xg p q=Ga n->gr Xg q ns r->gr Xg p (n::ns) r
theorem gr.app{Xg:Nat->Nat->Option Nat}:∀{p q r:Nat}{a b:List Nat},gr Xg p a q->gr Xg q b r->gr Xg p (a++b) r
 |_,_,_,_,_,.nil _,k=>k
 |_,_,_,_,_,.cons e h,k=>.cons e (h.app k)
theorem gr.rev{Xg:Nat->Nat->Option Nat}(b:∀p q n,Xg p q=Ga n->Xg q p=Ga n):∀{p q:Nat}{a:List Nat},gr Xg p a q->gr Xg q a.reverse p
 |_,_,_,.nil _=>.nil _
 |_,_,_,.cons e h=>by rw[List.reverse_cons];exact(h.rev b).app (.cons (b _ _ _ e) (.nil _))
theorem gr.split{Xg:Nat->Nat->Option Nat}{n:Nat}{b:List Nat}:∀{a:List Nat}{p q:Nat}{l:List Nat},gr Xg p l q->l=a++n::b->∃x y,gr Xg p a x/\Xg x y=Ga n/\gr Xg y b q
 |a,p,_,_,.nil _,e=>by simp at e
 |[],p,q,_,.cons f h,e=>by simp only[List.nil_append,List.cons.injEq]at e;obtain⟨rfl,rfl⟩:=e;exact{p,_,.nil p,f,h}
 |z::a,p,q,_,.cons f h,e=>by simp only[List.cons_append,List.cons.injEq]at e;obtain⟨rfl,e⟩:=e;obtain⟨x,y,c,d,g⟩:=h.split e;exact{x,y,.cons f c,d,g}
theorem tD:∀{l:List Nat},l≠[]->∃m∈l,∀k∈l,k<=m
 |[x],_=>{x,by simp,λk a=>by simp at a;lia}
 |x::y::r,_=>by
  obtain⟨m,c,b⟩:=tD (l:=y::r) (by simp);by_cases e:x<=m
  .refine{m,List.mem_cons_of_mem _ c,λk a=>?_};rcases List.mem_cons.mp a with rfl|a
   .exact e
   .exact b k a
  .refine{x,List.mem_cons_self,λk a=>?_};rcases List.mem_cons.mp a with rfl|a
   .exact Gm _
   .have:=b k a;lia
section
variable{S:List Nat}{ls:List (Nat×Nat×α)}{Xg:Nat->Nat->Option Nat}{up:Nat->Option Nat}
theorem gw.mz(F:gw S ls Xg up){M:Nat}:∀{p q:Nat}{a:List Nat},gr Xg p a q->(∀k∈a,k<M)->Cn (ls.take M) p q
 |_,_,_,.nil _,_=>.refl _
 |p,_,_,.cons (n:=n) e h,c=>by
  refine .trans ?_ (F.mz h λk f=>c k (List.mem_cons_of_mem _ f));have d:=c n List.mem_cons_self;obtain⟨r,b|b⟩:=F.Qhc _ _ _ e
  .exact .link (r:=r) (List.mem_of_getElem? (i:=n) (by rw[List.getElem?_take,Gn d];exact b))
  .exact .symm (.link (r:=r) (List.mem_of_getElem? (i:=n) (by rw[List.getElem?_take,Gn d];exact b)))
theorem gw.early(F:gw S ls Xg up){a:List Nat}(h:gr Xg p a q)(nd:a.Nodup)(c:Cn (ls.take n) p q):∀k∈a,k<n:=by
 intro k g;obtain⟨M,A,f⟩:=tD (l:=a) (by intro z;rw[z]at g;simp at g);by_cases i:M<n
 .exact DG (f k g) i
 exfalso;obtain⟨b,d,rfl⟩:=List.append_of_mem A;obtain⟨x,y,u,v,w⟩:=h.split rfl;rw[List.nodup_append]at nd;obtain⟨n1,n2,n3⟩:=nd;rw[List.nodup_cons]at n2;have l:∀k∈b,k<M:=λk g=>by have:=f k (List.mem_append_left _ g);have:=n3 k g M List.mem_cons_self;lia
 have t:∀k∈d,k<M:=λk g=>by have:=f k (List.mem_append_right _ (List.mem_cons_of_mem _ g));have:k≠M:=λz=>n2.1 (z▸g);lia
 have m:=F.mz u l;have o:=F.mz w t;have s:Cn (ls.take M) p q:=c.Ho (by lia);have j:Cn (ls.take M) x y:=.trans (.symm m) (.trans s (.symm o));obtain⟨r,e|e⟩:=F.Qhc _ _ _ v
 .exact F.sep _ _ _ _ e j
 .exact F.sep _ _ _ _ e (.symm j)
def num(Xg:Nat->Nat->Option Nat)(up:Nat->Option Nat)(x:Nat):Nat:=((up x).bind (Xg x)).getD 0
theorem gw.j6(F:gw S ls Xg up){y:Nat}(h:up x=Ga y):Xg x y=Ga (num Xg up x):=by obtain⟨n,a⟩:=F.g9 x y h;unfold num;rw[h];simp[a]
theorem gw.Ar(F:gw S ls Xg up){y n o:Nat}(h:up x=Ga n)(k:up y=Ga o)(e:num Xg up x=num Xg up y):x=y:=by
 have j:=F.j6 h;have q:=F.j6 k;rw[e]at j;obtain⟨r,d⟩:=F.Qhc _ _ _ j;obtain⟨v,a⟩:=F.Qhc _ _ _ q;have b:x=o->n=y->x=y:=λt u=>by
  subst t u;exfalso;obtain⟨l,m⟩:=F.chain x (F.inS _ _ h).1;have s:=m.nodup;cases m with
  |top f=>rw[h]at f;cases f
  |step f g=>
   rw[h]at f;cases f;cases g with
   |top c=>rw[k]at c;cases c
   |step c p=>rw[k]at c;cases c;obtain⟨w,i⟩:=p.head;subst i;simp at s
 rcases d with d|d<;>rcases a with a|a<;>rw[d]at a<;>simp only[RQ,TX]at a
 .exact a.1
 .exact b a.1 a.2.1
 .exact b a.2.1 a.1
 .exact a.2.1
theorem gw.ot(F:gw S ls Xg up){m:Nat}{s:List Nat}:∀{P:List Nat}{p:Nat}{l:List Nat},Ch up p l->l=P++m::s->gr Xg p (P.map (num Xg up)) m
 |[],p,_,h,e=>by obtain⟨r,a⟩:=h.head;rw[e]at a;simp only[List.nil_append,List.cons.injEq]at a;rw[a.1];exact .nil _
 |z::P,p,_,.top _,e=>by simp at e
 |z::P,p,_,.step (q:=q) f h,e=>by simp only[List.cons_append,List.cons.injEq]at e;obtain⟨rfl,e⟩:=e;rw[List.map_cons];exact .cons (F.j6 f) (F.ot h e)
theorem Ch.tj{P:List Nat}{s:List Nat}(h:Ch up p l)(e:l=P++m::s)(c:x∈P):∃y,up x=Ga y:=by
 obtain⟨a,b,rfl⟩:=List.append_of_mem c;cases b with
 |nil=>exact{m,h.g9 (a:=a) (b:=s) (by rw[e];simp)}
 |cons y b=>exact{y,h.g9 (a:=a) (b:=b++m::s) (by rw[e];simp)}
theorem O9{f:Nat->Nat}:∀{l:List Nat},l.Nodup->(∀x∈l,∀y∈l,f x=f y->x=y)->(l.map f).Nodup
 |[],_,_=>by simp
 |x::r,c,h=>by rw[List.nodup_cons]at c;rw[List.map_cons,List.nodup_cons];refine{λz=>?_,O9 c.2 λa g b i=>h a (List.mem_cons_of_mem _ g) b (List.mem_cons_of_mem _ i)};obtain⟨y,d,e⟩:=List.mem_map.mp z;exact c.1 (h y (List.mem_cons_of_mem _ d) x List.mem_cons_self e▸d)
theorem Oy{x y:Nat}:∀{l:List Nat},(x,y)∈l.zip (l.drop 1)->∃a b,l=a++x::y::b
 |[],h=>by simp at h
 |[z],h=>by simp at h
 |z::w::r,h=>by
  simp only[List.drop_succ_cons,List.drop_zero,List.zip_cons_cons,List.mem_cons,TX]at h;rcases h with⟨rfl,rfl⟩|h
  .exact{[],r,Xb}
  .obtain⟨a,b,e⟩:=Oy (l:=w::r) (by simpa using h);exact{z::a,b,by rw[e];rfl}
theorem gw.way(F:gw S ls Xg up){j f:Nat}{O R P Q s:List Nat}(u:Ch up j O)(v:Ch up f R)(l:O=P++m::s)(o:R=Q++m::s)(G:P=[]\/Q=[]\/P.getLast?≠Q.getLast?):
  ∀x y,(x,y)∈(P++m::Q.reverse).zip ((P++m::Q.reverse).drop 1)->∃k,Xg x y=Ga k/\∀n,Cn (ls.take n) j f->k<n:=by
 have dis:∀z∈P,z∉Q:=λz U V=>by
  obtain⟨r,g,rfl⟩:=List.append_of_mem U;obtain⟨w,D,rfl⟩:=List.append_of_mem V;have E:=u.suffix (a:=r) (z:=z) (b:=g++m::s) (by rw[l];simp);have N:=v.suffix (a:=w) (z:=z) (b:=D++m::s) (by rw[o];simp);have e:=E.uniq N;simp only[List.cons.injEq,true_and]at e;have e:=List.append_cancel_right e;subst e;rcases G with h|h|h
  .simp at h
  .simp at h
  .refine h ?_;rw[List.getLast?_append,List.getLast?_append];have:(z::g).getLast?=Ga ((z::g).getLast (by simp)):=List.getLast?_eq_some_getLast (by simp);rw[this];rfl
 have J:P.Nodup:=by have:=u.nodup;rw[l,List.nodup_append]at this;exact this.1
 have K:Q.Nodup:=by have:=v.nodup;rw[o,List.nodup_append]at this;exact this.1
 have B:∀x∈P++Q.reverse,∃y,up x=Ga y:=λx i=>by
  rcases List.mem_append.mp i with i|i
  .exact u.tj l i
  .exact v.tj o (List.mem_reverse.mp i)
 have X:(P++Q.reverse).Nodup:=by rw[List.nodup_append];refine{J,by rw[List.Nodup,List.pairwise_reverse];exact K.imp λh=>Gp h,λa g b r z=>?_};subst z;exact dis a g (List.mem_reverse.mp r)
 have L:((P++Q.reverse).map (num Xg up)).Nodup:=O9 X λx i y I e=>by obtain⟨w,g⟩:=B x i;obtain⟨D,r⟩:=B y I;exact F.Ar g r e
 have M:gr Xg j ((P++Q.reverse).map (num Xg up)) f:=by rw[List.map_append,List.map_reverse];exact(F.ot u l).app ((F.ot v o).rev λ_ _ _=>F.pk)
 intro x y H;obtain⟨a,b,e⟩:=Oy H;have p:∀z T,up z=Ga T->z∈P++Q.reverse->Xg x y=Ga (num Xg up z)->∃k,Xg x y=Ga k/\∀n,Cn (ls.take n) j f->k<n:=λz T _ C W=>{_,W,λn c=>F.early M L c _ (List.mem_map.mpr ⟨z,C,Xb⟩)}
 have q:(∃z,z∈P/\x=z/\up z=Ga y)\/(∃z,z∈Q/\y=z/\up z=Ga x):=by
  rcases Tn a.length P.length with E|D
  .left;have i:P[a.length]?=Ga x:=by
    have:(P++m::Q.reverse)[a.length]?=(a++x::y::b)[a.length]?:=by rw[e]
    rw[List.getElem?_append_left E,List.getElem?_append_right (Gm _)]at this;simpa using this
   exists x,List.mem_of_getElem? i,Xb;have g:P++[m]=a++x::y::(P++[m]).drop (a.length+2):=by
    have t:=congrArg (List.take (P.length+1)) e;have w:(P++m::Q.reverse).take (P.length+1)=P++[m]:=by rw[show P++m::Q.reverse=(P++[m])++Q.reverse by simp,List.take_left' (by simp)]
    rw[w]at t;have N:(a++x::y::b).take (P.length+1)=a++x::y::b.take (P.length+1 - a.length - 2):=by rw[List.take_append,List.take_of_length_le (by lia)];congr 1;obtain⟨d,r⟩:∃d,P.length+1 - a.length=d+2:={P.length+1 - a.length - 2,by lia};rw[r];simp
    rw[N]at t;rw[t];congr 3;rw[List.drop_append];simp
   exact u.g9 (a:=a) (b:=(P++[m]).drop (a.length+2)++s) (by rw[l,show P++m::s=(P++[m])++s by simp,g];simp[List.append_assoc])
  .right;obtain⟨g,rfl⟩:∃g,a=P++g:=by exists a.drop P.length;have t:=congrArg (List.take P.length) e;rw[List.take_left' Xb,List.take_append_of_le_length D]at t;exact(List.take_append_drop P.length a).symm.trans (by rw[<-t])
   rw[List.append_assoc]at e;have e:=List.append_cancel_left e;have r:=congrArg List.reverse e;rw[List.reverse_cons,List.reverse_reverse]at r;simp only[List.reverse_append,List.reverse_cons,List.append_assoc,List.cons_append,List.nil_append]at r;have N:Q++m::s=b.reverse++y::x::(g.reverse++s):=by rw[show Q++m::s=(Q++[m])++s by simp,r];simp
   refine{y,?_,Xb,v.g9 (a:=b.reverse) (b:=g.reverse++s) (by rw[o,N])};have w:b.reverse.length<Q.length:=by have:=congrArg List.length r;simp at this;simp;lia
   have I:Q[b.reverse.length]?=Ga y:=by
    have:(Q++m::s)[b.reverse.length]?=(b.reverse++y::x::(g.reverse++s))[b.reverse.length]?:=by rw[N]
    rw[List.getElem?_append_left w,List.getElem?_append_right (Gm _)]at this;simpa using this
   exact List.mem_of_getElem? I
 rcases q with⟨z,C,rfl,A⟩|⟨z,C,rfl,A⟩
 .exact p x y A (List.mem_append_left _ C) (F.j6 A)
 .exact p y x A (List.mem_append_right _ (List.mem_reverse.mpr C)) (F.pk (F.j6 A))
end
variable{W ρ:Type}[DecidableEq W]
structure gB(W ρ:Type) where
 S:List Nat
 lead:Nat->Nat
 mem:Nat->List Nat
 Xl:Nat->List Nat
 tab:W×List Nat->Option Nat
 links:List (Nat×Nat×Option ρ)
 Xg:Nat->Nat->Option Nat
 up:Nat->Option Nat
def Zm(wd:Nat->W)(pt:Nat->List Nat)(ld:Nat->Nat)(p:Nat):W×List Nat:=(wd p,(pt p).map ld)
inductive Cj(S:List Nat)(ld:Nat->Nat)(pend:List (Nat×Nat×Option ρ)):Nat->Nat->Prop
 |lead {p q:Nat}:p∈S->q∈S->ld p=ld q->Cj S ld pend p q
 |wait {p q:Nat} {r:Option ρ}:(p,q,r)∈pend->Cj S ld pend p q
 |symm {p q:Nat}:Cj S ld pend p q->Cj S ld pend q p
 |trans {p q r:Nat}:Cj S ld pend p q->Cj S ld pend q r->Cj S ld pend p r
theorem Cj.map{ld g:Nat->Nat}{f d:List (Nat×Nat×Option ρ)}(h:∀p∈S,∀q∈S,ld p=ld q->Cj S g d p q)(i:∀p q r,(p,q,r)∈f->Cj S g d p q):∀{p q:Nat},Cj S ld f p q->Cj S g d p q:=by
 intro p q c;induction c with
 |lead a b e=>exact h _ a _ b e
 |wait m=>exact i _ _ _ m
 |symm _ b=>exact .symm b
 |trans _ _ b e=>exact .trans b e
theorem Cj.nil{ld:Nat->Nat}(c:Cj (ρ:=ρ) S ld [] p q):ld p=ld q:=by
 induction c with
 |lead _ _ e=>exact e
 |wait m=>simp at m
 |symm _ a=>exact a.symm
 |trans _ _ a b=>exact a.trans b
def kX(F:Nat->Nat->Prop)(ps a:List Nat):Prop:=ps.length=a.length/\∀(i p q:Nat),ps[i]?=Ga p->a[i]?=Ga q->F p q
theorem lA{f:Nat->Nat}{a b:List Nat}:a.map f=b.map f↔kX (λp q=>f p=f q) a b:=by
 constructor
 .intro h;have d:=congrArg List.length h;simp at d;refine{d,λi p q c e=>?_};have:(a.map f)[i]?=(b.map f)[i]?:=by rw[h]
  simpa[c,e]using this
 .rintro⟨d,h⟩;refine List.ext_getElem? λi=>?_;rw[List.getElem?_map,List.getElem?_map];rcases Tn i a.length with c|c
  .have e:=List.getElem?_eq_getElem c;have g:=List.getElem?_eq_getElem (show i<b.length by lia);rw[e,g,T3,T3,h i _ _ e g]
  .rw[List.getElem?_eq_none c,List.getElem?_eq_none (by lia)]
structure Wc(wd:Nat->W)(pt:Nat->List Nat)(x:gB W ρ)(pend:List (Nat×Nat×Option ρ)):Prop where
 nd:x.S.Nodup
 pt_:∀p∈x.S,∀q∈pt p,q∈x.S
 ld:∀p∈x.S,x.lead p∈x.S
 idem:∀p∈x.S,x.lead (x.lead p)=x.lead p
 Qcj:∀l∈x.S,x.lead l=l->∀p,p∈x.mem l↔p∈x.S/\x.lead p=l
 Qlq:∀l∈x.S,x.lead l=l->(x.mem l).Nodup
 Qjj:∀l∈x.S,∀p∈x.Xl l,p∈x.S
 Qxo:∀p∈x.S,∀q∈pt p,p∈x.Xl (x.lead q)
 tabS:∀k u,x.tab k=Ga u->u∈x.S/\wd u=k.1/\(∀q∈k.2,q∈x.S)/\(pt u).map x.lead=k.2.map x.lead
 Qug:∀p∈x.S,∃u,x.tab (Zm wd pt x.lead p)=Ga u/\Cj x.S x.lead pend u p
 pnd:∀a b r,(a,b,r)∈pend->a∈x.S/\b∈x.S/\(r=Ge->wd a=wd b/\(pt a).map x.lead=(pt b).map x.lead)
 fst:gw x.S x.links x.Xg x.up
 lnk:∀(n a b:Nat)r,x.links[n]?=Ga (a,b,r)->a∈x.S/\b∈x.S/\(r=Ge->wd a=wd b/\kX (Cn (x.links.take n)) (pt a) (pt b))
 conn:∀p∈x.S,∀q∈x.S,(x.lead p=x.lead q↔Cn x.links p q)
 root:∀p q l m,p∈x.S->q∈x.S->Ch x.up p l->Ch x.up q m->(x.lead p=x.lead q↔Zx l=Zx m)
def zg(a:Nat->W×List Nat):List Nat->(W×List Nat->Option Nat)->List (Nat×Nat×Option ρ)->(W×List Nat->Option Nat)×List (Nat×Nat×Option ρ)
 |[],t,f=>(t,f)
 |u::r,t,f=>match t (a u)with
  |some v=>zg a r t (if v=u then f else f++[(u,v,Ge)])
  |none=>zg a r (λk=>if k=a u then Ga u else t k) f
theorem Jc{a:Nat->W×List Nat}:∀{l:List Nat}{t:W×List Nat->Option Nat}{f:List (Nat×Nat×Option ρ)}{k:W×List Nat}{v:Nat},t k=Ga v->(zg a l t f).1 k=Ga v
 |[],_,_,_,_,h=>h
 |u::r,t,f,k,v,h=>by
  unfold zg;cases e:t (a u)with
  |some w=>exact Jc h
  |none=>
   refine Jc ?_;have:k≠a u:=λz=>by rw[z,e]at h;cases h
   simp only[Gh this];exact h
theorem scan_keep{a:Nat->W×List Nat}:∀{l:List Nat}{t:W×List Nat->Option Nat}{f:List (Nat×Nat×Option ρ)}{y},y∈f->y∈(zg a l t f).2
 |[],_,_,_,h=>h
 |u::r,t,f,y,h=>by
  unfold zg;cases e:t (a u)with
  |some w=>
   refine scan_keep ?_;split
   .exact h
   .exact List.mem_append_left _ h
  |none=>exact scan_keep h
theorem pH{ky:Nat->W×List Nat}:∀{l:List Nat}{t:W×List Nat->Option Nat}{f:List (Nat×Nat×Option ρ)}{u:Nat},u∈l->∃v,(zg ky l t f).1 (ky u)=Ga v/\(v=u\/(u,v,Ge)∈(zg ky l t f).2)
 |[],_,_,_,h=>by simp at h
 |z::r,t,f,u,h=>by
  unfold zg;rcases List.mem_cons.mp h with rfl|h
  .cases e:t (ky u)with
   |some w=>
    exists w,Jc e;by_cases hw:w=u
    .exact .inl hw
    .right;refine scan_keep ?_;rw[Gh hw];simp
   |none=>exact{u,Jc (by simp),.inl Xb}
  .cases e:t (ky z)with
   |some w=>exact pH h
   |none=>exact pH h
theorem pz{a:Nat->W×List Nat}:∀{l:List Nat}{t:W×List Nat->Option Nat}{f:List (Nat×Nat×Option ρ)}{k:W×List Nat}{v:Nat},(zg a l t f).1 k=Ga v->t k=Ga v\/(v∈l/\k=a v)
 |[],_,_,_,_,h=>.inl h
 |u::r,t,f,k,v,h=>by
  unfold zg at h;cases e:t (a u)with
  |some w=>
   rw[e]at h;rcases pz h with h|⟨b,c⟩
   .exact .inl h
   .exact .inr {List.mem_cons_of_mem _ b,c}
  |none=>
   rw[e]at h;rcases pz h with h|⟨b,c⟩
   .by_cases d:k=a u
    .simp only[Gn d]at h;cases h;exact .inr {List.mem_cons_self,d}
    .simp only[Gh d]at h;exact .inl h
   .exact .inr {List.mem_cons_of_mem _ b,c}
theorem Ug{c:Nat->W×List Nat}:∀{l:List Nat}{t:W×List Nat->Option Nat}{f:List (Nat×Nat×Option ρ)}{a b:Nat}{r:Option ρ},(a,b,r)∈(zg c l t f).2->(a,b,r)∈f\/(r=Ge/\a∈l/\(zg c l t f).1 (c a)=Ga b)
 |[],_,_,_,_,_,h=>.inl h
 |u::l,t,f,a,b,r,h=>by
  unfold zg at h⊢;cases e:t (c u)with
  |some w=>
   rw[e]at h;rcases Ug h with h|⟨d,g,i⟩
   .split at h
    .exact .inl h
    .rcases List.mem_append.mp h with h|h
     .exact .inl h
     .simp at h;obtain⟨rfl,rfl,rfl⟩:=h;exact .inr {Xb,List.mem_cons_self,Jc e}
   .exact .inr {d,List.mem_cons_of_mem _ g,i}
  |none=>
   rw[e]at h;rcases Ug h with h|⟨d,g,i⟩
   .exact .inl h
   .exact .inr {d,List.mem_cons_of_mem _ g,i}
theorem scan_len{ky:Nat->W×List Nat}:∀{l:List Nat}{t:W×List Nat->Option Nat}{f:List (Nat×Nat×Option ρ)},(zg ky l t f).2.length<=f.length+l.length
 |[],_,_=>by simp[zg]
 |u::l,t,f=>by
  unfold zg;cases e:t (ky u)with
  |some w=>
   have:=scan_len (ky:=ky) (l:=l) (t:=t) (f:=if w=u then f else f++[(u,w,Ge)]);simp only[List.length_cons];split at this
   .rename_i h
    simp only[Gn h];lia
   .rename_i h
    simp only[Gh h];rw[List.length_append,List.length_singleton]at this;lia
  |none=>have:=scan_len (ky:=ky) (l:=l) (t:=λk=>if k=ky u then Ga u else t k) (f:=f);simp only[List.length_cons];lia
def Q9(x:gB W ρ)(a b:Nat):Nat->Nat:=λp=>if p∈x.mem a then b else x.lead p
def V3(wd:Nat->W)(pt:Nat->List Nat)(x:gB W ρ)(a b:Nat):gB W ρ×List (Nat×Nat×Option ρ):=
 ({x with lead:=Q9 x a b,mem:=(λp=>if p=b then x.mem b++x.mem a else x.mem p),Xl:=(λp=>if p=b then x.Xl b++x.Xl a else x.Xl p),tab:=(zg (ρ:=ρ) (Zm wd pt (Q9 x a b)) (x.Xl a) x.tab []).1},(zg (Zm wd pt (Q9 x a b)) (x.Xl a) x.tab []).2)
def gN(Xg:Nat->Nat->Option Nat)(a b n:Nat):Nat->Nat->Option Nat:=λp q=>if(p=a/\q=b)\/(p=b/\q=a)then Ga n else Xg p q
def Yk(wd:Nat->W)(pt:Nat->List Nat)(x:gB W ρ)(a b:Nat)(r:Option ρ)(lo hi:Nat)(c:List Nat):gB W ρ×List (Nat×Nat×Option ρ):=
 V3 wd pt {x with links:=x.links++[(a,b,r)],Xg:=gN x.Xg a b x.links.length,up:=Xs x.up hi c} (x.lead lo) (x.lead hi)
section
variable{wd:Nat->W}{pt:Nat->List Nat}{x:gB W ρ}{pend:List (Nat×Nat×Option ρ)}
theorem QO{g:List (Nat×Nat×Option ρ)}{r:Option ρ}(c:Cn (g++[(a,b,r)]) p q):Cn g p q\/(Cn g p a/\Cn g b q)\/(Cn g p b/\Cn g a q):=by
 induction c with
 |refl p=>exact .inl (.refl p)
 |symm _ f=>
  rcases f with h|⟨d,e⟩|⟨d,e⟩
  .exact .inl (.symm h)
  .exact .inr (.inr {.symm e,.symm d})
  .exact .inr (.inl {.symm e,.symm d})
 |trans _ _ j l=>
  rcases j with h|⟨d,e⟩|⟨d,e⟩<;>rcases l with k|⟨i,f⟩|⟨i,f⟩
  .exact .inl (.trans h k)
  .exact .inr (.inl {.trans h i,f})
  .exact .inr (.inr {.trans h i,f})
  .exact .inr (.inl {d,.trans e k})
  .exact .inr (.inl ⟨d,f⟩)
  .exact .inl (.trans d f)
  .exact .inr (.inr {d,.trans e k})
  .exact .inl (.trans d f)
  .exact .inr (.inr ⟨d,f⟩)
 |link m=>
  rcases List.mem_append.mp m with m|m
  .exact .inl (.link m)
  .simp at m;obtain⟨rfl,rfl,rfl⟩:=m;exact .inr (.inl {.refl _,.refl _})
theorem Wc.Ks(I:Wc wd pt x pend){g k:Nat}(b:g∈x.S)(a:x.lead g=g)(c:p∈x.S):Q9 x g k p=if x.lead p=g then k else x.lead p:=by
 unfold Q9;by_cases h:x.lead p=g
 .rw[Gn h,Gn ((I.Qcj g b a p).mpr ⟨c,h⟩)]
 .rw[Gh h,Gh λz=>h ((I.Qcj g b a p).mp z).2]
end
variable{W ρ:Type}[DecidableEq W]
section
variable{wd:Nat->W}{pt:Nat->List Nat}{x:gB W ρ}{pend:List (Nat×Nat×Option ρ)}
theorem Wc.join(e:Wc wd pt x (pend++[(a,b,r)]))(ah:x.lead a≠x.lead b)(ad:(lo=a/\hi=b)\/(lo=b/\hi=a))(Q:Ch x.up lo cl):
  Wc wd pt (Yk wd pt x a b r lo hi cl).1 (pend++(Yk wd pt x a b r lo hi cl).2)/\(∀p∈x.S,(Yk wd pt x a b r lo hi cl).1.lead p=if x.lead p=x.lead lo then x.lead hi else x.lead p):=by
 obtain⟨K,L,ai⟩:=e.pnd a b r (by simp);have ac:lo∈x.S:=by rcases ad with⟨d,_⟩|⟨d,_⟩<;>rw[d]<;>assumption
 have aa:hi∈x.S:=by rcases ad with⟨_,d⟩|⟨_,d⟩<;>rw[d]<;>assumption
 have W:x.lead lo≠x.lead hi:=by
  rcases ad with⟨g,h⟩|⟨g,h⟩<;>rw[g,h]
  .exact ah
  .exact Gp ah
 obtain⟨lh,ae⟩:=e.fst.chain hi aa;have gS:=e.ld lo ac;have gg:=e.idem lo ac;have kS:=e.ld hi aa;have kk:=e.idem hi aa;generalize hG:x.lead lo=f at*;generalize hK:x.lead hi=k at*;have ab:(x.lead a=f/\x.lead b=k)\/(x.lead a=k/\x.lead b=f):=by
  rcases ad with⟨g,h⟩|⟨g,h⟩
  .left;rw[<-g,<-h];exact⟨hG,hK⟩
  .right;rw[<-g,<-h];exact⟨hK,hG⟩
 have s:∀p∈x.S,Q9 x f k p=if x.lead p=f then k else x.lead p:=λp j=>e.Ks gS gg j;have eJ:Yk wd pt x a b r lo hi cl=V3 wd pt {x with links:=x.links++[(a,b,r)],Xg:=gN x.Xg a b x.links.length,up:=Xs x.up hi cl} f k:=by unfold Yk;rw[hG,hK]
 rw[eJ];have nC:¬Cn x.links a b:=λc=>ah ((e.conn a K b L).mpr c);have V:∀p∈x.S,∀q∈x.S,x.lead p=x.lead q->Q9 x f k p=Q9 x f k q:=λp j q o l=>by rw[s p j,s q o,l]
 have LS:∀p∈x.S,Q9 x f k p∈x.S:=λp j=>by
  rw[s p j];split
  .exact kS
  .exact e.ld p j
 have Lk:Q9 x f k k=k:=by rw[s k kS,kk,Gh (Gp W)]
 have Li:∀p∈x.S,Q9 x f k (Q9 x f k p)=Q9 x f k p:=λp j=>by
  by_cases d:x.lead p=f
  .rw[s p j,Gn d,Lk]
  .rw[s p j,Gh d,s _ (e.ld p j),e.idem p j,Gh d]
 have Mp:∀p∈x.S,∀q∈x.S,(pt p).map x.lead=(pt q).map x.lead->(pt p).map (Q9 x f k)=(pt q).map (Q9 x f k):=λp j q o l=>by rw[lA]at l⊢;exact{l.1,λi u w D J=>V u (e.pt_ p j u (List.mem_of_getElem? D)) w (e.pt_ q o w (List.mem_of_getElem? J)) (l.2 i u w D J)}
 have TS:∀ky u,(zg (ρ:=ρ) (Zm wd pt (Q9 x f k)) (x.Xl f) x.tab []).1 ky=Ga u->u∈x.S/\wd u=ky.1/\(∀q∈ky.2,q∈x.S)/\(pt u).map (Q9 x f k)=ky.2.map (Q9 x f k):=λky u d=>by
  rcases pz d with d|⟨g,h⟩
  .obtain⟨k1,k2,k3,k4⟩:=e.tabS ky u d;exists k1,k2,k3;rw[lA]at k4⊢;exact{k4.1,λi F w D J=>V F (e.pt_ u k1 F (List.mem_of_getElem? D)) w (k3 w (List.mem_of_getElem? J)) (k4.2 i F w D J)}
  .have G:=e.Qjj f gS u g;subst h;exists G,Xb,λq o=>?_
   .obtain⟨F,S,rfl⟩:=List.mem_map.mp o;exact LS F (e.pt_ u G F S)
   .show(pt u).map (Q9 x f k)=((pt u).map (Q9 x f k)).map (Q9 x f k);rw[List.map_map];refine List.map_congr_left λq o=>?_;exact(Li q (e.pt_ u G q o)).symm
 have dis:∀z∈lh,z∉cl:=λz hz af=>by
  obtain⟨m1,Y,N⟩:=ae.lU hz;obtain⟨m2,Z,I⟩:=Q.lU af;have:Zx lh=Zx cl:=by rw[<-N,<-I,Y.uniq Z]
  exact W ((e.root lo hi cl lh ac aa Q ae).mpr this.symm|>λl=>by rw[hG,hK]at l;exact l)
 have hh:Ch (Xs x.up hi cl) hi lh:=ae.nh dis;have R:∀p∈x.S,∀B,Ch x.up p B->∃m,Ch (Xs x.up hi cl) p m/\(x.lead p=f->Zx m=Zx lh)/\(x.lead p≠f->Zx m=Zx B):=λp j B M=>by
  by_cases d:∃z∈B,z∈cl
  .obtain⟨m,g,h⟩:=JS Q.nodup hh M d;refine{m,g,λ_=>h,λv=>?_};exfalso;obtain⟨z,hz,af⟩:=d;obtain⟨m1,Y,N⟩:=M.lU hz;obtain⟨m2,Z,I⟩:=Q.lU af;have:Zx B=Zx cl:=by rw[<-N,<-I,Y.uniq Z]
   exact v (by rw[<-hG];exact(e.root p lo B cl j ac M Q).mpr this)
  .have g:Ch (Xs x.up hi cl) p B:=M.nh λz hz af=>d ⟨z,hz,af⟩;refine{B,g,λl=>?_,λ_=>rfl};exfalso;have:=(e.root p lo B cl j ac M Q).mp (by rw[hG];exact l);have m1:Zx B∈B:=by have:=M.ne;unfold Zx;rw[List.getLastD_eq_getLast?,List.getLast?_eq_some_getLast this];exact List.getLast_mem this
   have m2:Zx cl∈cl:=by have:=Q.ne;unfold Zx;rw[List.getLastD_eq_getLast?,List.getLast?_eq_some_getLast this];exact List.getLast_mem this
   exact d {_,m1,by rw[this];exact m2}
 have C1:∀p∈x.S,∀q∈x.S,(Q9 x f k p=Q9 x f k q↔Cn (x.links++[(a,b,r)]) p q):=λp j q o=>by
  have mono:∀{u w:Nat},Cn x.links u w->Cn (x.links++[(a,b,r)]) u w:=λc=>c.mono λy hy=>List.mem_append_left _ hy;have X:Cn (x.links++[(a,b,r)]) a b:=.link (r:=r) (by simp);have G:∀u∈x.S,∀w∈x.S,x.lead u=f->x.lead w=k->Cn (x.links++[(a,b,r)]) u w:=λu D w J N I=>by
   rcases ab with⟨g,h⟩|⟨g,h⟩
   .exact .trans (mono ((e.conn u D a K).mp (N.trans g.symm))) (.trans X (mono ((e.conn b L w J).mp (h.trans I.symm))))
   .exact .trans (mono ((e.conn u D b L).mp (N.trans h.symm))) (.trans (.symm X) (mono ((e.conn a K w J).mp (g.trans I.symm))))
  constructor
  .intro l;rw[s p j,s q o]at l;by_cases g:x.lead p=f<;>by_cases h:x.lead q=f
   .exact mono ((e.conn p j q o).mp (g.trans h.symm))
   .rw[Gn g,Gh h]at l;exact G p j q o g l.symm
   .rw[Gh g,Gn h]at l;exact .symm (G q o p j h l)
   .rw[Gh g,Gh h]at l;exact mono ((e.conn p j q o).mp l)
  .intro c;have F:Q9 x f k a=Q9 x f k b:=by
    rw[s a K,s b L];rcases ab with⟨g,h⟩|⟨g,h⟩
    .rw[Gn g,Gh (by rw[h];exact Gp W),h]
    .rw[Gn h,Gh (by rw[g];exact Gp W),g]
   rcases QO c with c|⟨Y,Z⟩|⟨Y,Z⟩
   .exact V p j q o ((e.conn p j q o).mpr c)
   .exact(V p j a K ((e.conn p j a K).mpr Y)).trans (F.trans (V b L q o ((e.conn b L q o).mpr Z)))
   .exact(V p j b L ((e.conn p j b L).mpr Y)).trans (F.symm.trans (V a K q o ((e.conn a K q o).mpr Z)))
 have tk:∀{n:Nat},n<=x.links.length->(x.links++[(a,b,r)]).take n=x.links.take n:=λd=>List.take_append_of_le_length d;have gl:∀{n:Nat}{y},(x.links++[(a,b,r)])[n]?=Ga y->(n<x.links.length/\x.links[n]?=Ga y)\/(n=x.links.length/\y=(a,b,r)):=λ{n y}d=>by
  rcases Tn n x.links.length with v|v
  .rw[List.getElem?_append_left v]at d;exact .inl ⟨v,d⟩
  .rw[List.getElem?_append_right v]at d;have:n - x.links.length=0:=by have:=(List.getElem?_eq_some_iff.mp d).1;simp at this;lia
   rw[this]at d;simp at d;exact .inr {by lia,d.symm}
 have aj:∀p q,Xs x.up hi cl p=Ga q->x.up p=Ga q\/(p=lo/\q=hi)\/x.up q=Ga p:=λp q d=>by
  rcases q9 Q.nodup d with d|⟨A,l,I⟩|⟨H,O,l⟩
  .exact .inl d
  .obtain⟨G,F⟩:=Q.head;rw[l]at F;cases F;exact .inr (.inl ⟨Xb,I⟩)
  .exact .inr (.inr (Q.g9 l))
 refine{{e.nd,e.pt_,LS,Li,λm T l p=>?_,λm T l=>?_,λm T p j=>?_,λp j q o=>?_,TS,λp j=>?_,λH O A d=>?_,{λp q d=>?_,λp q n d=>?_,λn p q A d=>?_,λn p q A d=>?_,λp j=>?_,λp q d=>?_},λn H O A d=>?_,C1,λp q m U j o g h=>?_},λp j=>s p j}
 ·
  have l:Q9 x f k m=m:=l;have lg:x.lead m≠f:=λz=>by rw[s m T,Gn z]at l;rw[<-l,kk]at z;exact W z.symm
  have ll:x.lead m=m:=by rw[s m T,Gh lg]at l;exact l
  show p∈(if m=k then x.mem k++x.mem f else x.mem m)↔p∈x.S/\Q9 x f k p=m;by_cases C:m=k
  .rw[Gn C,List.mem_append,e.Qcj k kS kk,e.Qcj f gS gg];constructor
   .rintro(⟨g,h⟩|⟨g,h⟩)
    .exact{g,by rw[s p g,h,Gh (Gp W),C]}
    .exact{g,by rw[s p g,Gn h,C]}
   .rintro⟨g,h⟩;rw[s p g]at h;by_cases P:x.lead p=f
    .exact .inr ⟨g,P⟩
    .rw[Gh P]at h;exact .inl {g,h.trans C}
  .rw[Gh C,e.Qcj m T ll];constructor
   .rintro⟨g,h⟩;exact{g,by rw[s p g,Gh (by rw[h,<-ll];exact lg),h]}
   .rintro⟨g,h⟩;rw[s p g]at h;by_cases P:x.lead p=f
    .rw[Gn P]at h;exact absurd h.symm C
    .rw[Gh P]at h;exact⟨g,h⟩
 .have l:Q9 x f k m=m:=l;have lg:x.lead m≠f:=λz=>by rw[s m T,Gn z]at l;rw[<-l,kk]at z;exact W z.symm
  have ll:x.lead m=m:=by rw[s m T,Gh lg]at l;exact l
  show(if m=k then x.mem k++x.mem f else x.mem m).Nodup;by_cases C:m=k
  .rw[Gn C,List.nodup_append];refine{e.Qlq k kS kk,e.Qlq f gS gg,λu D w J z=>?_};subst z;have g:=((e.Qcj k kS kk u).mp D).2;have h:=((e.Qcj f gS gg u).mp J).2;exact W (h.symm.trans g)
  .rw[Gh C];exact e.Qlq m T ll
 .have j:p∈(if m=k then x.Xl k++x.Xl f else x.Xl m):=j;by_cases C:m=k
  .rw[Gn C]at j;rcases List.mem_append.mp j with d|d
   .exact e.Qjj k kS p d
   .exact e.Qjj f gS p d
  .rw[Gh C]at j;exact e.Qjj m T p j
 .show p∈(if Q9 x f k q=k then x.Xl k++x.Xl f else x.Xl (Q9 x f k q));have E:=e.Qxo p j q o;have F:=e.pt_ p j q o;by_cases d:x.lead q=f
  .rw[s q F,Gn d,Gn rfl];rw[d]at E;exact List.mem_append_right _ E
  .rw[s q F,Gh d];by_cases C:x.lead q=k
   .rw[Gn C];rw[C]at E;exact List.mem_append_left _ E
   .rw[Gh C];exact E
 ·
  show∃u,(zg (ρ:=ρ) (Zm wd pt (Q9 x f k)) (x.Xl f) x.tab []).1 (Zm wd pt (Q9 x f k) p)=Ga u/\Cj x.S (Q9 x f k) (pend++(zg (Zm wd pt (Q9 x f k)) (x.Xl f) x.tab []).2) u p;by_cases d:∃q∈pt p,x.lead q=f
  .obtain⟨q,o,l⟩:=d;have D:=e.Qxo p j q o;rw[l]at D;obtain⟨w,g,h⟩:=pH (ρ:=ρ) (ky:=Zm wd pt (Q9 x f k)) (t:=x.tab) (f:=[]) D;exists w,g;rcases h with rfl|h
   .exact .lead j j rfl
   .exact .symm (.wait (r:=Ge) (List.mem_append_right _ h))
  .obtain⟨u,g,h⟩:=e.Qug p j;have F:Zm wd pt (Q9 x f k) p=Zm wd pt x.lead p:=by unfold Zm;refine Fh rfl (List.map_congr_left λq o=>?_);rw[s q (e.pt_ p j q o),Gh λz=>d ⟨q,o,z⟩]
   refine{u,by rw[F];exact Jc g,h.map (λp j q o l=>.lead j o (V p j q o l)) λp q A U=>?_};rcases List.mem_append.mp U with U|U
   .exact .wait (List.mem_append_left _ U)
   .simp at U;obtain⟨rfl,rfl,rfl⟩:=U;exact .lead K L ((C1 _ K _ L).mpr (.link (r:=A) (by simp)))
 ·
  rcases List.mem_append.mp d with d|d
  .obtain⟨g,h,P⟩:=e.pnd H O A (List.mem_append_left _ d);exact{g,h,λl=>{(P l).1,Mp H g O h (P l).2}}
  .rcases Ug (show(H,O,A)∈(zg (Zm wd pt (Q9 x f k)) (x.Xl f) x.tab []).2 from d)with d|⟨g,h,P⟩
   .simp at d
   .have F:=e.Qjj f gS H h;obtain⟨k1,k2,k3,k4⟩:=TS _ _ P;refine{F,k1,λ_=>{k2.symm,?_}};show(pt H).map (Q9 x f k)=(pt O).map (Q9 x f k);rw[k4];show _=((pt H).map (Q9 x f k)).map (Q9 x f k);rw[List.map_map];exact List.map_congr_left λq o=>(Li q (e.pt_ H F q o)).symm
 ·
  show∃n,gN x.Xg a b x.links.length p q=Ga n;unfold gN;by_cases v:(p=a/\q=b)\/(p=b/\q=a)
  .exact{_,Gn v}
  .rw[Gh v];rcases aj p q d with d|⟨N,I⟩|d
   .exact e.fst.g9 p q d
   .exfalso;apply v;rcases ad with⟨g,h⟩|⟨g,h⟩
    .exact .inl {N.trans g,I.trans h}
    .exact .inr {N.trans g,I.trans h}
   .obtain⟨n,v⟩:=e.fst.g9 q p d;exact{n,e.fst.pk v}
 .have d:gN x.Xg a b x.links.length p q=Ga n:=d;unfold gN at d;show∃A,(x.links++[(a,b,r)])[n]?=Ga (p,q,A)\/(x.links++[(a,b,r)])[n]?=Ga (q,p,A);by_cases v:(p=a/\q=b)\/(p=b/\q=a)
  .rw[Gn v]at d;cases d;exists r;rcases v with⟨rfl,rfl⟩|⟨rfl,rfl⟩
   .left;simp
   .right;simp
  .rw[Gh v]at d;obtain⟨A,d|d⟩:=e.fst.Qhc p q n d
   .exact{A,.inl (by rw[List.getElem?_append_left (List.getElem?_eq_some_iff.mp d).1];exact d)}
   .exact{A,.inr (by rw[List.getElem?_append_left (List.getElem?_eq_some_iff.mp d).1];exact d)}
 .show gN x.Xg a b x.links.length p q=Ga n/\gN x.Xg a b x.links.length q p=Ga n;rcases gl d with⟨v,X⟩|⟨v,d⟩
  .have no:¬((p=a/\q=b)\/(p=b/\q=a)):=by
    rintro(⟨rfl,rfl⟩|⟨rfl,rfl⟩)
    .exact nC (.link (List.mem_of_getElem? X))
    .exact nC (.symm (.link (List.mem_of_getElem? X)))
   have ag:¬((q=a/\p=b)\/(q=b/\p=a)):=λz=>no (z.elim (λ⟨F,G⟩=>.inr ⟨G,F⟩) λ⟨F,G⟩=>.inl ⟨G,F⟩);unfold gN;rw[Gh no,Gh ag];exact e.fst.all n p q A X
  .simp only[TX]at d;obtain⟨rfl,rfl,rfl⟩:=d;subst v;unfold gN;exact{Gn (.inl ⟨Xb,Xb⟩),Gn (.inr ⟨Xb,Xb⟩)}
 .show¬Cn ((x.links++[(a,b,r)]).take n) p q;rcases gl d with⟨v,d⟩|⟨v,d⟩
  .rw[tk (by lia)];exact e.fst.sep n p q A d
  .simp only[TX]at d;obtain⟨rfl,rfl,rfl⟩:=d;rw[tk (by lia),v,List.take_length];exact nC
 .obtain⟨B,M⟩:=e.fst.chain p j;obtain⟨m,g,_⟩:=R p j B M;exact⟨m,g⟩
 .rcases aj p q d with d|⟨N,I⟩|d
  .exact e.fst.inS p q d
  .rw[N,I];exact⟨ac,aa⟩
  .exact(e.fst.inS q p d).symm
 .show H∈x.S/\O∈x.S/\(A=Ge->wd H=wd O/\kX (Cn ((x.links++[(a,b,r)]).take n)) (pt H) (pt O));rcases gl d with⟨v,d⟩|⟨v,d⟩
  .rw[tk (by lia)];exact e.lnk n H O A d
  .simp only[TX]at d;obtain⟨rfl,rfl,rfl⟩:=d;rw[tk (by lia),v,List.take_length];refine{K,L,λl=>{(ai l).1,?_}};have t:=lA.mp (ai l).2;exact{t.1,λi u w D J=>(e.conn u (e.pt_ _ K u (List.mem_of_getElem? D)) w (e.pt_ _ L w (List.mem_of_getElem? J))).mp (t.2 i u w D J)}
 .show Q9 x f k p=Q9 x f k q↔Zx m=Zx U;obtain⟨B,M⟩:=e.fst.chain p j;obtain⟨G,F⟩:=e.fst.chain q o;obtain⟨l',p1,p2,p3⟩:=R p j B M;obtain⟨m',q1,q2,q3⟩:=R q o G F;have el:=Ch.uniq (show Ch (Xs x.up hi cl) p m from g) p1;have em:=Ch.uniq (show Ch (Xs x.up hi cl) q U from h) q1;subst el em;have rp:=e.root p hi B lh j aa M ae;have X:=e.root q hi G lh o aa F ae;rw[hK]at rp X;rw[s p j,s q o];by_cases E:x.lead p=f<;>by_cases S:x.lead q=f
  .rw[Gn E,Gn S,p2 E,q2 S];exact{λ_=>rfl,λ_=>rfl}
  .rw[Gn E,Gh S,p2 E,q3 S];exact{λl=>(X.mp l.symm).symm,λl=>(X.mpr l.symm).symm}
  .rw[Gh E,Gn S,p3 E,q2 S];exact rp
  .rw[Gh E,Gh S,p3 E,q3 S];exact e.root p q B G j o M F
end
variable{W ρ:Type}[DecidableEq W]
section
variable{wd:Nat->W}{pt:Nat->List Nat}{x:gB W ρ}{pend pend':List (Nat×Nat×Option ρ)}
theorem Wc.rM(I:Wc wd pt x pend)(f:∀p q r,(p,q,r)∈pend->Cj x.S x.lead pend' p q)(g:∀a b r,(a,b,r)∈pend'->a∈x.S/\b∈x.S/\(r=Ge->wd a=wd b/\(pt a).map x.lead=(pt b).map x.lead)):Wc wd pt x pend':=
 {I.nd,I.pt_,I.ld,I.idem,I.Qcj,I.Qlq,I.Qjj,I.Qxo,I.tabS,λp d=>by obtain⟨u,e,c⟩:=I.Qug p d;exact{u,e,c.map (λp d q b e=>.lead d b e) f},g,I.fst,I.lnk,I.conn,I.root}
theorem Wc.drop{r:Option ρ}(I:Wc wd pt x (pend++[(a,b,r)]))(e:x.lead a=x.lead b):Wc wd pt x pend:=by
 obtain⟨f,h,_⟩:=I.pnd a b r (by simp);refine I.rM (λp q c m=>?_) λd g c m=>I.pnd d g c (List.mem_append_left _ m);rcases List.mem_append.mp m with m|m
 .exact .wait m
 .simp at m;obtain⟨rfl,rfl,rfl⟩:=m;exact .lead f h e
theorem Wc.cong(I:Wc wd pt x [])(c:p∈x.S)(d:q∈x.S)(e:Zm wd pt x.lead p=Zm wd pt x.lead q):x.lead p=x.lead q:=by obtain⟨u,a,b⟩:=I.Qug p c;obtain⟨v,f,g⟩:=I.Qug q d;rw[e,f]at a;cases a;exact b.nil.symm.trans g.nil
structure Ec(wd:Nat->W)(pt:Nat->List Nat)(S:List Nat)(E:Nat->Nat->Prop):Prop where
 refl:∀p,E p p
 symm:∀p q,E p q->E q p
 trans:∀p q r,E p q->E q r->E p r
 cong:∀p∈S,∀q∈S,wd p=wd q->kX E (pt p) (pt q)->E p q
def gF(E:Nat->Nat->Prop)(x:gB W ρ)(pend:List (Nat×Nat×Option ρ)):Prop:=(∀p∈x.S,∀q∈x.S,x.lead p=x.lead q->E p q)/\∀a b r,(a,b,r)∈pend->E a b
theorem gF.join{E:Nat->Nat->Prop}{a b:Nat}{r:Option ρ}(H:gF E x (pend++[(a,b,r)]))(X:Ec wd pt x.S E)(I:Wc wd pt x (pend++[(a,b,r)]))(G:x.lead a≠x.lead b){d g:Nat}{n:List Nat}(j:(d=a/\g=b)\/(d=b/\g=a))(P:Ch x.up d n):
  gF E (Yk wd pt x a b r d g n).1 (pend++(Yk wd pt x a b r d g n).2):=by
 obtain⟨J,L⟩:=I.join G j P;obtain⟨Q,R,_⟩:=I.pnd a b r (by simp);have o:E a b:=H.2 a b r (by simp);have K:d∈x.S:=by rcases j with⟨h,_⟩|⟨h,_⟩<;>rw[h]<;>assumption
 have F:g∈x.S:=by rcases j with⟨_,h⟩|⟨_,h⟩<;>rw[h]<;>assumption
 have D:E d g:=by
  rcases j with⟨c,f⟩|⟨c,f⟩<;>rw[c,f]
  .exact o
  .exact X.symm _ _ o
 have N:∀u∈x.S,∀v∈x.S,x.lead u=x.lead d->x.lead v=x.lead g->E u v:=λu y v z B C=>X.trans _ _ _ (H.1 u y d K B) (X.trans _ _ _ D (H.1 g F v z C.symm));have M:∀p∈x.S,∀q∈x.S,(Yk wd pt x a b r d g n).1.lead p=(Yk wd pt x a b r d g n).1.lead q->E p q:=λp s q w e=>by
  rw[L p s,L q w]at e;by_cases c:x.lead p=x.lead d<;>by_cases f:x.lead q=x.lead d
  .exact H.1 p s q w (c.trans f.symm)
  .rw[Gn c,Gh f]at e;exact N p s q w c e.symm
  .rw[Gh c,Gn f]at e;exact X.symm _ _ (N q w p s f e)
  .rw[Gh c,Gh f]at e;exact H.1 p s q w e
 refine{M,λk l A m=>?_};rcases List.mem_append.mp m with h|h
 .exact H.2 k l A (List.mem_append_left _ h)
 .obtain⟨c,f,O⟩:=J.pnd k l A m;have rn:A=Ge:=by
   rcases Ug (show(k,l,A)∈(zg _ _ _ []).2 from h)with h|⟨c,_⟩
   .simp at h
   .exact c
  obtain⟨B,C⟩:=O rn;have t:=lA.mp C;exact X.cong k c l f B {t.1,λi u v y z=>M u (I.pt_ k c u (List.mem_of_getElem? y)) v (I.pt_ l f v (List.mem_of_getElem? z)) (t.2 i u v y z)}
theorem HL{r:Option ρ}{d e:Nat}{c:Option ρ}(h:(d,e,c)∈(Yk wd pt x a b r lo hi cl).2):c=Ge:=by
 rcases Ug (show(d,e,c)∈(zg _ _ _ []).2 from h)with h|⟨f,_⟩
 .simp at h
 .exact f
def cls(x:gB W ρ):Nat:=x.S.countP λp=>decide (x.lead p=p)
def Ud(x:gB W ρ):Nat:=(x.S.map λp=>if x.lead p=p then(x.Xl p).length else 0).sum
theorem sd{a:Type}{p q:a->Bool}:∀{l:List a},(∀x∈l,p x=Gg->q x=Gg)->l.countP p<=l.countP q
 |[],_=>by simp
 |x::r,h=>by
  have d:=sd (l:=r) (λy c=>h y (List.mem_cons_of_mem _ c));have b:=h x List.mem_cons_self;rw[List.countP_cons,List.countP_cons];cases e:p x with
  |true=>rw[b e];simp;exact d
  |false=>simp;ext
theorem wJ{d:Type}{p q:d->Bool}:∀{l:List d},(∀x∈l,p x=Gg->q x=Gg)->(∃x∈l,q x=Gg/\p x=Gq)->l.countP p<l.countP q
 |[],_,h=>by obtain⟨x,a,_⟩:=h;simp at a
 |x::r,h,⟨y,a,b,c⟩=>by
  rw[List.countP_cons,List.countP_cons];rcases List.mem_cons.mp a with rfl|a
  .have:=sd (l:=r) (λy a=>h y (List.mem_cons_of_mem _ a));rw[b,c];simp;lia
  .have g:=wJ (l:=r) (λy a=>h y (List.mem_cons_of_mem _ a)) ⟨y,a,b,c⟩;have f:=h x List.mem_cons_self;cases e:p x with
   |true=>rw[f e];simp;exact g
   |false=>simp;lia
theorem AF{f a:Nat->Nat}:∀{S:List Nat},(∀p∈S,f p=a p)->(S.map f).sum=(S.map a).sum:=λh=>by rw[List.map_congr_left h]
theorem zN{f c:Nat->Nat}{g k:Nat}(i:g≠k):∀{S:List Nat},S.Nodup->g∈S->k∈S->c g+c k=f g+f k->(∀p∈S,p≠g->p≠k->c p=f p)->(S.map c).sum=(S.map f).sum
 |[],_,h,_,_,_=>by simp at h
 |x::r,b,w,A,e,h=>by
  rw[List.nodup_cons]at b;have n:∀{u v:Nat}{S:List Nat},S.Nodup->v∈S->u∉S->(∀p∈S,p≠u->p≠v->c p=f p)->(S.map c).sum+f v=(S.map f).sum+c v:=by
   intro u v S;induction S with
   |nil=>intro _ h;simp at h
   |cons z s B=>
    intro b m d t;rw[List.nodup_cons]at b;simp only[List.mem_cons,not_or]at d;simp only[List.map_cons,List.sum_cons];rcases List.mem_cons.mp m with rfl|m
    .have:(s.map c).sum=(s.map f).sum:=AF λp a=>t p (List.mem_cons_of_mem _ a) (λz=>d.2 (z▸a)) (λz=>b.1 (z▸a));lia
    .have:=B b.2 m d.2 λp a=>t p (List.mem_cons_of_mem _ a);have C:=t z List.mem_cons_self (Gp d.1) (λy=>b.1 (y▸m));lia
  simp only[List.map_cons,List.sum_cons];by_cases l:x=g
  .subst l;have j:k∈r:=(List.mem_cons.mp A).resolve_left (Gp i);have:=n (u:=x) b.2 j b.1 λp a o q=>h p (List.mem_cons_of_mem _ a) o q;lia
  .by_cases m:x=k
   .subst m;have d:g∈r:=(List.mem_cons.mp w).resolve_left i;have:=n (u:=x) b.2 d b.1 λp a o q=>h p (List.mem_cons_of_mem _ a) q o;lia
   .have d:g∈r:=(List.mem_cons.mp w).resolve_left (Gp l);have j:k∈r:=(List.mem_cons.mp A).resolve_left (Gp m);have:=zN i b.2 d j e λp a=>h p (List.mem_cons_of_mem _ a);have:=h x List.mem_cons_self l m;lia
theorem Jw{f:Nat->Nat}:∀{S:List Nat}{p:Nat},p∈S->f p<=(S.map f).sum
 |x::r,p,h=>by
  simp only[List.map_cons,List.sum_cons];rcases List.mem_cons.mp h with rfl|h
  .lia
  .have:=Jw (f:=f) h;lia
theorem Wc.less{r:Option ρ}(I:Wc wd pt x (pend++[(a,b,r)]))(i:x.lead a≠x.lead b)(d:(lo=a/\hi=b)\/(lo=b/\hi=a))(v:Ch x.up lo cl):
  cls (Yk wd pt x a b r lo hi cl).1<cls x/\Ud (Yk wd pt x a b r lo hi cl).1=Ud x/\(Yk wd pt x a b r lo hi cl).2.length<=Ud x/\(Yk wd pt x a b r lo hi cl).1.links.length=x.links.length+1:=by
 obtain⟨J,L⟩:=I.join i d v;obtain⟨w,y,_⟩:=I.pnd a b r (by simp);have n:lo∈x.S:=by rcases d with⟨h,_⟩|⟨h,_⟩<;>rw[h]<;>assumption
 have m:hi∈x.S:=by rcases d with⟨_,h⟩|⟨_,h⟩<;>rw[h]<;>assumption
 have c:x.lead lo≠x.lead hi:=by
  rcases d with⟨j,g⟩|⟨j,g⟩<;>rw[j,g]
  .exact i
  .exact Gp i
 have l:=I.ld lo n;have q:=I.idem lo n;have t:=I.ld hi m;have s:=I.idem hi m;have f:∀p∈x.S,(Yk wd pt x a b r lo hi cl).1.lead p=p->x.lead p=p/\p≠x.lead lo:=λp k e=>by
  rw[L p k]at e;by_cases h:x.lead p=x.lead lo
  .rw[Gn h]at e;rw[<-e,s]at h;exact absurd h.symm c
  .rw[Gh h]at e;exact{e,λz=>h (by rw[e];exact z)}
 refine{wJ (λp k e=>Tc (f p k (TU e)).1) {x.lead lo,l,Tc q,GQ λz=>(f _ l z).2 Xb},?_,?_,by simp[Yk,V3]}
 .refine zN c I.nd l t ?_ λp k j g=>?_
  .have o:¬(Yk wd pt x a b r lo hi cl).1.lead (x.lead lo)=x.lead lo:=λz=>(f _ l z).2 rfl;have u:(Yk wd pt x a b r lo hi cl).1.lead (x.lead hi)=x.lead hi:=by rw[L _ t,s,Gh (Gp c)]
   rw[Gh o,Gn u,Gn q,Gn s];have:(Yk wd pt x a b r lo hi cl).1.Xl (x.lead hi)=x.Xl (x.lead hi)++x.Xl (x.lead lo):=by simp[Yk,V3]
   rw[this,List.length_append];lia
  .have:(Yk wd pt x a b r lo hi cl).1.Xl p=x.Xl p:=by simp[Yk,V3,g]
   rw[this];by_cases e:x.lead p=p
   .have o:(Yk wd pt x a b r lo hi cl).1.lead p=p:=by rw[L p k,Gh (by rw[e];exact j),e]
    rw[Gn e,Gn o]
   .have o:¬(Yk wd pt x a b r lo hi cl).1.lead p=p:=λz=>e (f p k z).1;rw[Gh e,Gh o]
 .have j:=scan_len (ρ:=ρ) (ky:=Zm wd pt (Q9 {x with links:=x.links++[(a,b,r)],Xg:=gN x.Xg a b x.links.length,up:=Xs x.up hi cl} (x.lead lo) (x.lead hi))) (l:=x.Xl (x.lead lo)) (t:=x.tab) (f:=[]);have g:=Jw (f:=λp=>if x.lead p=p then(x.Xl p).length else 0) l;simp only[q,Gn]at g;refine Tw j (by simpa[Ud]using g)
end
variable{W ρ:Type}[DecidableEq W]
def Yy(pt:Nat->List Nat)(S:List Nat)(q:Nat):List Nat:=S.flatMap λp=>List.replicate ((pt p).count q) p
def iz(wd:Nat->W)(pt:Nat->List Nat)(S:List Nat)(k:W×List Nat):Option Nat:=S.find? λp=>decide (Zm wd pt id p=k)
def fresh(wd:Nat->W)(pt:Nat->List Nat)(S:List Nat):gB W ρ:={S,id,λp=>[p],Yy pt S,iz wd pt S,[],λ_ _=>Ge,λ_=>Ge}
theorem CF{α:Type}(c:Cn (α:=α) [] p q):p=q:=by
 induction c with
 |refl _=>rfl
 |symm _ a=>exact a.symm
 |trans _ _ a b=>exact a.trans b
 |link m=>simp at m
theorem PR{b:Nat->W}{a:Nat->List Nat}(nd:S.Nodup)(j:∀p∈S,∀q∈a p,q∈S)(inj:∀p∈S,∀q∈S,b p=b q->a p=a q->p=q):Wc (ρ:=ρ) b a (fresh b a S) [] where
 nd:=nd
 pt_:=j
 ld:=λp h=>h
 idem:=λ_ _=>rfl
 Qcj:=λl r _ p=>by show p∈[l]↔p∈S/\p=l;simp only[List.mem_singleton];exact{λe=>{e▸r,e},λe=>e.2}
 Qlq:=λl _ _=>by simp[fresh]
 Qjj:=λl _ p g=>by obtain⟨u,n,h⟩:=List.mem_flatMap.mp g;rw[List.mem_replicate]at h;rw[h.2];exact n
 Qxo:=λp g q i=>List.mem_flatMap.mpr {p,g,List.mem_replicate.mpr {by have:=List.count_pos_iff.mpr i;show(a p).count q≠0;lia,Xb}}
 tabS:=λk u h=>by
  have h:S.find? (λp=>decide (Zm b a id p=k))=Ga u:=h;have d:=List.mem_of_find?_eq_some h;have f:Zm b a id u=k:=TU (by simpa using List.find?_some h);subst f;exists d,Xb,λq i=>?_
  .simp only[Zm,List.map_id]at i;exact j u d q i
  .simp[Zm,fresh]
 Qug:=λp g=>by
  show∃u,S.find? (λq=>decide (Zm b a id q=Zm b a id p))=Ga u/\_;cases e:S.find? (λq=>decide (Zm b a id q=Zm b a id p))with
  |none=>have:=List.find?_eq_none.mp e p g;simp at this
  |some u=>have d:=List.mem_of_find?_eq_some e;have f:Zm b a id u=Zm b a id p:=TU (by simpa using List.find?_some e);simp only[Zm,List.map_id,TX]at f;exact{u,Xb,.lead d g (inj u d p g f.1 f.2)}
 pnd:=λ_ _ _ h=>by simp at h
 fst:={λ_ _ h=>by simp[fresh]at h,λ_ _ _ h=>by simp[fresh]at h,λ_ _ _ _ h=>by simp[fresh]at h,λ_ _ _ _ h=>by simp[fresh]at h,λp _=>{[p],.top Xb},λ_ _ h=>by simp[fresh]at h}
 lnk:=λ_ _ _ _ h=>by simp[fresh]at h
 conn:=λp _ q _=>{λ(e:p=q)=>by subst e;exact .refl _,λc=>CF c}
 root:=λp q l m _ _ d f=>by have n:l=[p]:=d.uniq (.top Xb);have o:m=[q]:=f.uniq (.top Xb);subst n o;simp[Zx,fresh]
theorem CD(a:Nat->List Nat)(S:List Nat)(p q:Nat):Yy a (S++[p]) q=Yy a S q++List.replicate ((a p).count q) p:=by simp[Yy]
theorem OW(b:Nat->W)(a:Nat->List Nat)(c:∀q∈S,Zm b a id q≠Zm b a id p)(k:W×List Nat):iz b a (S++[p]) k=if k=Zm b a id p then Ga p else iz b a S k:=by
 unfold iz;rw[List.find?_append];by_cases h:k=Zm b a id p
 .rw[Gn h];have:S.find? (λp=>decide (Zm b a id p=k))=Ge:=List.find?_eq_none.mpr λq d=>by have:=c q d;simp[h,this]
  rw[this];simp[h]
 .rw[Gh h];have:[p].find? (λp=>decide (Zm b a id p=k))=Ge:=by simp[Gp h]
  rw[this,Option.or_none]
end Nt
namespace Sb
open PySem PySem.Spec PyProof.Rows L2 Nt
variable{p:Nat}{S:List Nat}{f:Nat->V}{b:Gc}
def ki(p:Nat):Xm:=.inl (p:Int)
def dS(S:List Nat)(f:Nat->V):List (Xm×V):=S.map λp=>(ki p,f p)
theorem Jq{q:Nat}(h:ki p=ki q):p=q:=by unfold ki at h;injection h with h;lia
theorem Ky(p:Nat):kV (ki p)=jv p:=rfl
theorem iW(h:p∈S):Yt (dS S f) (ki p)=Ga (f p):=by
 induction S with
 |nil=>simp at h
 |cons q r b=>
  by_cases e:q=p
  .subst e;exact Xw (p:=(ki q,f q)) rfl
  .have a:¬(ki q=ki p):=λz=>e (Jq z);show Yt ((ki q,f q)::dS r f) (ki p)=_;rw[Xr (p:=(ki q,f q)) a];exact b ((List.mem_cons.mp h).resolve_left λz=>e z.symm)
theorem qm(h:p∉S):Yt (dS S f) (ki p)=Ge:=by
 induction S with
 |nil=>exact pJ
 |cons q r b=>simp only[List.mem_cons,not_or]at h;have a:¬(ki q=ki p):=λz=>h.1 (Jq z).symm;show Yt ((ki q,f q)::dS r f) (ki p)=_;rw[Xr (p:=(ki q,f q)) a];exact b h.2
theorem sZ:(Yt (dS S f) (ki p)).isSome=decide (p∈S):=by
 by_cases h:p∈S
 .rw[iW h,Tc h];rfl
 .rw[qm h,GQ h];rfl
theorem Vi(S:List Nat)(f:Nat->V):(dS S f).length=S.length:=by simp[dS]
theorem nQ{v:V}(h:p∈S):Wm (dS S f) (ki p) v=dS S (λq=>if q=p then v else f q):=by
 unfold Wm;have a:((dS S f).any λb=>decide (b.1=ki p))=Gg:=by rw[Jb,iW h];rfl
 rw[Gn a];unfold dS;rw[List.map_map];refine List.map_congr_left λq _=>?_;show(if ki q=ki p then(ki q,v)else(ki q,f q))=(ki q,if q=p then v else f q);by_cases e:q=p
 .subst e;rw[Gn Xb,Gn rfl]
 .rw[Gh (λz=>e (Jq z)),Gh e]
theorem ja{v:V}(h:p∉S):Wm (dS S f) (ki p) v=dS (S++[p]) (λq=>if q=p then v else f q):=by rw[A2 _ (qm h)];unfold dS;rw[List.map_append,List.map_cons,List.map_nil];show _=_++[(ki p,if p=p then v else f p)];rw[Gn rfl];congr 1;refine List.map_congr_left λq a=>?_;show _=(ki q,if q=p then v else f q);rw[Gh (λz:q=p=>h (z▸a))]
theorem Wu{g:Nat->V}(h:∀p∈S,f p=g p):dS S f=dS S g:=List.map_congr_left λp a=>by rw[h p a]
inductive Jl where
 |told (n:Nat)
 |asked
def jh(H:Hp)(v:V):Option Jl->Prop
 |none=>v=.non
 |some (.told n)=>∃c,v=.ref c/\H c=Ga (.tup [.str "told",jv n])
 |some .asked=>∃c,v=.ref c/\H c=Ga (.tup [.str "asked"])
theorem jh.Ql{H d:Hp}(e:Qp H d){v:V}:∀{r:Option Jl},jh H v r->jh d v r
 |none,h=>h
 |some (.told n),⟨c,a,b⟩=>{c,a,e _ _ b}
 |some .asked,⟨c,a,b⟩=>{c,a,e _ _ b}
abbrev Lk:=Nat×Nat×Option Jl
inductive Rm(H:Hp)(v:V)(l:Lk):Prop
 |mk (c:_) (r:_) (h0:v=.ref c) (h1:H c=Ga (.tup [jv l.1,jv l.2.1,r])) (h2:jh H r l.2.2):Rm H v l
theorem Rm.Ql{H a:Hp}(e:Qp H a){v:V}{l:Lk}(h:Rm H v l):Rm a v l:=by obtain⟨c,r,b,d,f⟩:=h;exact{c,r,b,e _ _ d,f.Ql e}
abbrev Nn:=gB GY Jl
def Yg(fs:List Fm)(p:Nat):GY:=(fs.getD p (Et,[])).1
def Zo(fs:List Fm)(p:Nat):List Nat:=(fs.getD p (Et,[])).2
theorem js{a:List Fm}(h:p<a.length):a[p]?=Ga (Yg a p,Zo a p):=by unfold Yg Zo;rw[List.getD_eq_getElem?_getD,List.getElem?_eq_getElem h];rfl
structure Na where
 f:Gc
 l:Gc
 m:Gc
 u:Gc
 t:Gc
 k:Gc
 a:Gc
 v:Gc
 ml:Nat->Gc
 ul:Nat->Gc
def Y9(A:Na):List (GY×V):=[("forms",.ref A.f),("leads",.ref A.l),("members",.ref A.m),("users",.ref A.u),("table",.ref A.t),("links",.ref A.k),("link_at",.ref A.a),("above",.ref A.v)]
def ov:Option Nat->V
 |none=>.non
 |some p=>jv p
structure Ap(A:Na)(S:List Nat):Prop where
 lm:A.l≠A.m
 lu:A.l≠A.u
 lv:A.l≠A.v
 mu:A.m≠A.u
 mv:A.m≠A.v
 uv:A.u≠A.v
 kf:A.k≠A.f
 mm:∀p∈S,∀q∈S,A.ml p=A.ml q->p=q
 uu:∀p∈S,∀q∈S,A.ul p=A.ul q->p=q
 mul:∀p∈S,∀q∈S,A.ml p≠A.ul q
 mkf:∀p∈S,A.ml p≠A.k/\A.ml p≠A.f
 ukf:∀p∈S,A.ul p≠A.k/\A.ul p≠A.f
structure Z7(P:Gi)(w:Gu)(C:Gc)(H:Hp)(n:Gc)(A:Na)(fs:List Fm)(tb:Nat)(x:Nn):Prop where
 ob:∃dx,H n=Ga (.ins C dx (Y9 A))
 fo:∃ws,H A.f=Ga (.lst ws)/\Paired (Rn H) ws fs
 le:H A.l=Ga (.dK (dS x.S λp=>jv (x.lead p)))
 me:H A.m=Ga (.dK (dS x.S λp=>.ref (A.ml p)))
 us:H A.u=Ga (.dK (dS x.S λp=>.ref (A.ul p)))
 ta:∃zw,DH P w H A.t zw/\zw.length<=tb/\∀k:Fm,Yf zw (Y1 k)=(x.tab k).map jv
 li:∃ls,H A.k=Ga (.lst ls)/\Paired (Rm H) ls x.links
 at_:∃zw,H A.a=Ga (.dT zw)/\zw.length<=2*x.links.length/\∀i j:Nat,Yt zw [ki i,ki j]=(x.Xg i j).map jv
 ab:H A.v=Ga (.dK (dS x.S λp=>ov (x.up p)))
 ml:∀p∈x.S,H (A.ml p)=Ga (.lst ((x.mem p).map jv))
 ul:∀p∈x.S,H (A.ul p)=Ga (.lst ((x.Xl p).map jv))
 ap:Ap A x.S
def gu(A:Na)(S:List Nat)(b:Gc):Prop:=b=A.l\/b=A.m\/b=A.u\/b=A.t\/b=A.k\/b=A.a\/b=A.v\/∃p∈S,b=A.ml p\/b=A.ul p
structure Oc(A:Na)(S:List Nat)(H H':Hp):Prop where
 keep:∀b o,H b=Ga o->¬gu A S b->H' b=Ga o
 there:∀b,H' b=Ge->H b=Ge
theorem Oc.trans{A:Na}{H a c:Hp}(x:Oc A S H a)(y:Oc A S a c):Oc A S H c:={λb o e h=>y.keep b o (x.keep b o e h) h,λb h=>x.there b (y.there b h)}
theorem Oc.of{A:Na}{H a:Hp}(g:Qx H a):Oc A S H a:={λb o e _=>g b o e,λb h=>g.free h}
theorem Oc.zj{A:Na}{S:List Nat}{H:Hp}{b:Gc}{o:HO}(h:gu A S b):Oc A S H (zj H b o):=⟨λc u e a=>by rw[Qg (show c≠b fromλz=>a (by rw[z];exact h))];exact e,λc a=>by
 by_cases e:c=b
 .subst e;rw[Qb]at a;cases a
 .rw[Qg e]at a;exact a⟩
section
variable{P:Gi}{w:Gu}{C:Gc}{H H':Hp}{n:Gc}{A:Na}{fs:List Fm}{tb:Nat}{x:Nn}
theorem Z7.own(X:Z7 P w C H n A fs tb x)(h:gu A x.S b):(∃a,H b=Ga (.dK a))\/(∃a,H b=Ga (.dT a))\/(∃o,H b=Ga (.ext o))\/∃d,H b=Ga (.lst d):=by
 obtain⟨a,D,_⟩:=X.ta;obtain⟨f,L,_⟩:=X.li;obtain⟨e,T,_⟩:=X.at_;rcases h with rfl|rfl|rfl|rfl|rfl|rfl|rfl|⟨p,c,rfl|rfl⟩
 .exact .inl {_,X.le}
 .exact .inl {_,X.me}
 .exact .inl {_,X.us}
 .exact .inr (.inr (.inl {_,D.at_}))
 .exact .inr (.inr (.inr {_,L}))
 .exact .inr (.inl {_,T})
 .exact .inl {_,X.ab}
 .exact .inr (.inr (.inr {_,X.ml p c}))
 .exact .inr (.inr (.inr {_,X.ul p c}))
theorem Z7.qu(X:Z7 P w C H n A fs tb x){a:List V}(h:H b=Ga (.tup a)):¬gu A x.S b:=λz=>by rcases X.own z with⟨_,e⟩|⟨_,e⟩|⟨_,e⟩|⟨_,e⟩<;>rw[h]at e<;>cases e
theorem Z7.OU(X:Z7 P w C H n A fs tb x)(h:H b=Ge):¬gu A x.S b:=λz=>by rcases X.own z with⟨_,e⟩|⟨_,e⟩|⟨_,e⟩|⟨_,e⟩<;>rw[h]at e<;>cases e
theorem Z7.same(g:Qx H H')(X:Z7 P w C H n A fs tb x):Z7 P w C H' n A fs tb x:=by obtain⟨j,s⟩:=X.ob;obtain⟨t,k,l⟩:=X.fo;obtain⟨b,D,f,i⟩:=X.ta;obtain⟨r,o,q⟩:=X.li;obtain⟨m,d,e⟩:=X.at_;have c:=Qp.of g;exact{{j,g _ _ s},{t,g _ _ k,L2.Paired.Yb l λ_ _ h=>h.Ql c},g _ _ X.le,g _ _ X.me,g _ _ X.us,{b,{g _ _ D.at_,Q8 c D.keys},f,i},{r,g _ _ o,L2.Paired.Yb q λ_ _ h=>h.Ql c},{m,g _ _ d,e},g _ _ X.ab,λp a=>g _ _ (X.ml p a),λp a=>g _ _ (X.ul p a),X.ap}
theorem Z7.keep(X:Z7 P w C H n A fs tb x)(a:∀b o,H b=Ga o->(gu A x.S b\/b=A.f\/b=n)->H' b=Ga o)(d:Qp H H'):Z7 P w C H' n A fs tb x:=by
 obtain⟨j,s⟩:=X.ob;obtain⟨t,k,l⟩:=X.fo;obtain⟨c,D,g,i⟩:=X.ta;obtain⟨r,o,q⟩:=X.li;obtain⟨m,e,f⟩:=X.at_;refine⟨{j,a _ _ s (.inr (.inr Xb))},{t,a _ _ k (.inr (.inl Xb)),L2.Paired.Yb l λ_ _ h=>h.Ql d},a _ _ X.le (.inl (.inl Xb)),a _ _ X.me (.inl (.inr (.inl Xb))),a _ _ X.us (.inl (.inr (.inr (.inl Xb)))),{c,{a _ _ D.at_ (.inl (.inr (.inr (.inr (.inl Xb))))),Q8 d D.keys},g,i},
  {r,a _ _ o (.inl (.inr (.inr (.inr (.inr (.inl Xb)))))),L2.Paired.Yb q λ_ _ h=>h.Ql d},{m,a _ _ e (.inl (.inr (.inr (.inr (.inr (.inr (.inl Xb))))))),f},a _ _ X.ab (.inl (.inr (.inr (.inr (.inr (.inr (.inr (.inl Xb)))))))),λp b=>?_,λp b=>?_,X.ap⟩
 .exact a _ _ (X.ml p b) (.inl (.inr (.inr (.inr (.inr (.inr (.inr (.inr {p,b,.inl Xb}))))))))
 .exact a _ _ (X.ul p b) (.inl (.inr (.inr (.inr (.inr (.inr (.inr (.inr {p,b,.inr Xb}))))))))
theorem Z7.mono{a:Nat}(h:tb<=a)(X:Z7 P w C H n A fs tb x):Z7 P w C H n A fs a x:=by obtain⟨b,D,d,c⟩:=X.ta;exact{X.ob,X.fo,X.le,X.me,X.us,{b,D,by ext,c},X.li,X.at_,X.ab,X.ml,X.ul,X.ap}
end
end Sb
namespace L2
open PySem PySem.Spec PyProof.Rows
variable{X:Cx}{σ:St}{H:Hp}
inductive xB(P:Gi)(w:Gu)(x:V)(vs:List V)(H:Hp)(Q:VK):Prop
 |mk (d:_) (b:_) (dv:_) (zw:_) (k:_) (h0:x=.ref d) (h1:vs=[.ref b,dv]) (h2:DH P w H d zw) (h3:gJ H b k) (h4:zw.length<Gj) (h5:(∀v,Yf zw k=Ga v->Q v H)) (h6:(Yf zw k=Ge->Q dv (zj H d (Vx P w d (zw++[(k,b,dv)]))))):xB P w x vs H Q
def HW(P:Gi)(w:Gu):V->List V->Hp->VK->Prop:=λx a H Q=>xB P w x a H Q
theorem FB(a:X.A.units+64<DM):ig X "dict.setdefault" (HW X.prog X.w):=by
 intro o s Z H x Y v W Q I S R h;obtain⟨d,b,i,a,k,rfl,rfl,D,G,V,N,O⟩:=h;cases(show v=Value.ref d from S);obtain⟨T,t,rfl,P,r⟩:=vals2 R;cases(show T=Value.ref b from P);obtain⟨z,m,j,c,l⟩:=jM I D.at_ D.keys;have M:a.length=j.length:=Gr c;refine Si F.slot_dict_setdefault l.typeIs F.entry_dict_setdefault (F.args_dict_setdefault_3 _ _ _) (W8 (Vs X.prog X.w) d b m t) {by first|(show X.A.units+1+10<DM;lia)|(show X.A.units+1+1+10<DM;lia),k,j,G.is I,l,by lia,λp K=>?_,λJ U g L=>?_}
 .have e:=c.val k;rw[K]at e;cases q:Yf a k with
  |none=>rw[q]at e;exact(show False from e).elim
  |some y=>rw[q]at e;exact{y,H,I.tok _,e,N y q}
 .have e:=c.val k;rw[J]at e;cases q:Yf a k with
  |some y=>rw[q]at e;exact(show False from e).elim
  |none=>obtain⟨ob,w,u,n,A,B,C,_,E⟩:=g;have f:KX (a++[(k,b,i)]) (j++[(k,b,t)]):=DN c ⟨Xb,Xb,r⟩;refine{i,_,Jr (ob:=Vx X.prog X.w d (a++[(k,b,i)])) I (by rw[D.at_];exact Tu) L ⟨ob,n⟩ (nL {by rw[List.length_append,List.length_singleton];lia,m,_,f,ob,w,u,n,A,B,C,E}),r,O q}
section
variable{X:Cx}{o e:TY}{es:List TY}{to:TE}{t:TA}{name:GY}{apos cpos:SX}{id:String}{r:V->List V->Hp->VK->Prop}
theorem zL{b:List (Gc×Ek)}{s:Gk}{d:Gc}{c:List KE}(I:zu X b σ H s)(e:H d=Ga (Vx X.prog X.w d c)):
  s.TypeIs (.ref d) "dict"/\∀a,Value.ref d=.ref a->∃h,s.heap.get? a=Ga h/\h.dict=Ge:=by
 obtain⟨z,y,n,r,o,j,i,f,g,k,l,m⟩:=jb I e;exact{{o,f,g.1},λa e=>by cases e;exact{o,f,g.2.1}}
def OA(P:Gi)(w:Gu)(r:V->List V->Hp->VK->Prop)(to:TE)(t:TA):TE:=λσ H Q=>to σ H λx H1=>(∃d zw,x=.ref d/\H1 d=Ga (Vx P w d zw))/\t σ H1 λxs H2=>r x xs H2 Q
theorem K7(slot:Slot "dict" name id)(i:typeOf (.builtin id)=pure (.type "method_descriptor"))(z:ig X id r)(A:PE X o to)(y:PA X (e::es) t)
  (c:attributeBase o name X.env (eval o X.env)=eval o X.env:=by rfl)
  (g:((DX cpos (Ti (e::es) X.env)).all (λx=>!x.1)&&(backToKw cpos (keywordEach [] X.env)).all (λx=>x.1.isSome)
   &&decide ((e::es).length+([]:List Fi).length+(if([]:List Fi).isEmpty then 0 else 1)<30))=Gg:=by rfl)
  (f:(apos.endLine==cpos.line)=Gg:=by rfl)(B:Ti (e::es) X.env=(Gq,eval e X.env)::Ti es X.env:=by rfl)(b:(DX cpos (Ti es X.env)).any (·.1)=Gq:=by rfl):
  PE X (.Call (.Attribute o name apos) (e::es) [] cpos) (OA X.prog X.w r to t):=by
 intro a s j H Q I h;refine Lc c g f rfl (Yi (A a s j H _ I h) λv J⟨x,m,k,F,ty,D⟩=>?_);obtain⟨d,C,rfl,q⟩:=ty;cases(show v=Value.ref d from F);obtain⟨u,w⟩:=zL k q;exists "dict",id,DS,slot,i,u,w;have l:=y cpos a J j m _ k D;rw[B]at l⊢;refine DY (by show(Gq||(DX cpos (Ti es X.env)).any (·.1))=Gq;rw[b]<;>rfl) (E2 ?_);exact Yi l λL K⟨M,n,p,G,E⟩=>z a K j n (.ref d) M _ L Q p rfl G E
end
theorem pI{c:TT}{f:TS}{D:Ends}(d:Nat->St->Hp->Prop)(g:∃m,d m σ H)
  (i:∀m σ H,d m σ H->c σ H λb H1=>if b=Gg then f {D with nx:=λa H'=>∃e,e<m/\d e a H',ct:=λa H'=>∃e,e<m/\d e a H',bk:=D.nx} σ H1 else D.nx σ H1)
  (mono:∀σ H Q e,(∀b H1,Q b H1->e b H1)->c σ H Q->c σ H e):xJ c f D σ H:=by
 refine{d,g,λm σ H p=>mono σ H _ _ (λb H1 q=>?_) (i m σ H p)};cases b with
 |true=>exact{_,λa H' h=>h,q}
 |false=>exact q
theorem zu.turns{a:List (Gc×Ek)}{h:List (Option V)}{s:Gk}{h':Heap}{t':Nat}{fp:List Gc}(I:zu X a h H s)(k:∀b o,b∉fp->s.heap.get? b=Ga o->h'.get? b=Ga o)(g:∀b∈fp,gL X a H b):
  zu X a h H {s with heap:=h',toks:=t'}:=by
 have f:∀b u,H b=Ga u->b∉fp:=λb u e z=>by rw[(g b z).1]at e;cases e
 refine I.step (g':=s.gens) (d':=s.drawn) (ch:=fp) (λb t=>?_) (λb o _ _ d e _=>k b o d e) (λb o _ _ d e _=>{o.slots,k b o d e}) (λ_ _ _ _ n=>n)
  (λb o d e=>{o,k b o d e}) (λ_ _ e=>e) (λ_ _ _ e=>e) (λb i e=>{#[],by rw[e];simp}) (λm w=>?_) (λb u e=>?_) I.bare
 .obtain⟨r,i,v,j,l,p⟩:=g b t;exact⟨j,i,l,p⟩
 .obtain⟨o,j,i,l,r⟩:=w;exact{o,j,i,k _ o (λz=>(g _ z).2.1 Xb) l,r}
 .refine(I.Zv b u e).iF (λc v d q=>k c v ?_ q) (λ_ q=>q) λ_ _ q=>q;rcases d with z|z
  .rw[z];exact f b u e
  .exact f c _ z
def j5(K:Gd)(a:Gc):It:=
 {λi H=>∃xs x,Zb K H a xs/\xs[i]?=Ga x,λi H v H'=>∃c x,v=.ref c/\H c=Ge/\(∀xs,Zb K H a xs->xs[i]?=Ga x)/\H'=zj H c (.tup [.int (i:Int),x]),λi H=>∃xs,Zb K H a xs/\xs.length<=i}
theorem Cr{P:Gi}{ae:Gu}{K:Gd}{V:List TY}{k:Nat}{ad:SX}(a e d:Gc)(N:e≠d):iq P ae K (.Tuple V k ad) (j5 K a) [e,d] e (λi h=>(∃l,IsEnum h e d i l)/\h.IsListIter d a i) where
 mem:=by simp
 obj:=λi h g b c=>by
  obtain⟨⟨l,f⟩,o,E,C,F⟩:=g;rcases List.mem_cons.mp c with rfl|c
  .exact{_,f,λI z=>nomatch z}
  .have:b=d:=by simpa using c
   subst this;exact{o,E,λI z=>by rw[F]at z;cases z}
 keep:=λi h h' g k=>by obtain⟨⟨l,f⟩,m⟩:=g;exact{{l,k e (by simp) _ f},m.at λo x=>k d (by simp) o x}
 item:=by
  intro X B hw A C i G s Q n R j r g D;subst B hw A;obtain⟨⟨l,f⟩,m⟩:=g;obtain⟨xs,x,t,v⟩:=D;obtain⟨ac,H,p,hz⟩:=j.list t;obtain⟨u,hu,ru⟩:=H.get v;refine wpAny_pyNext_enum_item f m p.isList (x:=u) (by simpa using hu) N λh' E aa L ag hk=>{_,Xb,?_};refine wpAny_letOwnedTupleGo_enum E λJ Y F=>?_;have O:e<s.heap.objs.size:=Heap.lt_size f;have Z:d<s.heap.objs.size:=by obtain⟨_,x,_⟩:=m;exact Heap.lt_size x
  have af:J.get? s.heap.objs.size=Ga {cls:=.type "tuple",data:=.seq #[.int i s.toks,u]}:=(F.2 _ (Tx O)).trans L;have ab:n s.heap.objs.size=Ge:=j.Zv.fresh (Gm _);have S:zu X G Q (zj n s.heap.objs.size (.tup [.int (i:Int),x])) {s with heap:=s.heap.push {cls:=.type "tuple",data:=.seq #[.int i s.toks,u]},toks:=s.toks}:=
   j.laid (a:=s.heap.objs.size) (o:=.tup [.int (i:Int),x]) (t':=s.toks) (λ_ _ q=>Heap.get?_push_of_some _ q) (Gm _) {by show 2<=Gj;decide,[.int i s.toks,u],.cons {_,Xb} (.cons ru .nil),_,Heap.get?_push_size _ Xb,Xb,_,Xb}
  have I:∀b∈[e,d],gL X G (zj n s.heap.objs.size (.tup [.int (i:Int),x])) b:=λb c=>by
   have M:b<s.heap.objs.size:=by
    rcases List.mem_cons.mp c with rfl|c
    .exact O
    .have:b=d:=by simpa using c
     subst this;exact Z
   refine{?_,(r b c).2};rw[Qg (Tg M)];exact(r b c).1
  have T:=S.turns (h':=J) (t':=s.toks+1) (fp:=[e,d]) (λb o c w=>?_) I
  .refine{.ref s.heap.objs.size,_,T,Xb,{_,x,Xb,ab,λU M=>by rw[j.qr M t];exact v,Xb},{{u,by simpa using Y},aa.at λo y=>(F.2 d N.symm).trans y},λb c=>(I b c).1}
  .have M:b≠e:=λz=>c (by simp[z]);have W:b≠d:=λz=>c (by simp[z]);refine(F.2 b M).trans ?_;rcases Heap.get?_push_cases (show(s.heap.push {cls:=.type "tuple",data:=.seq #[.int i s.toks,u]}).get? b=Ga o from w)with⟨rfl,rfl⟩|U
   .exact L
   .exact hk b o M W U
 done:=by intro X B hw A C i G s Q n R j r g D;subst B hw A;obtain⟨⟨l,f⟩,m⟩:=g;obtain⟨xs,t,I⟩:=D;obtain⟨ac,H,p,hz⟩:=j.list t;have F:=H.length;refine wpAny_pyNext_enum_end (j.ok.hd C) f m p.isList (Di (by rw[List.size_toArray];lia)) λh' v=>{Xb,?_};exact j.turns (t':=s.toks) (fp:=[e,d]) (λb o c w=>v b o (λz=>c (by simp[z])) w) r
 self:=λ_ _ _ _ _ g h=>by obtain⟨⟨l,f⟩,_⟩:=g;exact Fo f h
inductive xg(K:Gd)(R:It->Hp->Prop)(vs:List V)(H1:Hp):Prop
 |mk (a:_) (xs:_) (h0:vs=[.ref a]) (h1:Zb K H1 a xs) (h2:R (j5 K a) H1):xg K R vs H1
def Kf(K:Gd)(ta:TA):TI:=λσ H R=>ta σ H λa H1=>xg K R a H1
theorem sD{g:List TY}{k:Nat}{l:SX}{a:TY}{w:TA}{p j:SX}(B:Gl X "enumerate")(D:X.mg "enumerate"=Ge)(A:PA X [a] w)(F:Ti [a] X.env=[(Gq,eval a X.env)]:=by rfl):PI X (.Tuple g k l) (.Call (.Name "enumerate" p) [a] [] j) (Kf X.K w):=by
 intro f s x H R I h;refine Bp (V6 I B D boot_enumerate (Dq (Yi (A j f s x H _ I h) λQ d⟨S,t,m,M,L⟩=>?_) F Xb));obtain⟨b,T,e,E,q⟩:=L;subst e;obtain⟨u,rfl,N⟩:=vals1 M;cases(show u=Value.ref b from N);obtain⟨J,P,K,O⟩:=m.list E;refine call_enumerate_list K.isList λz v r G C=>?_;have y:zu X f x t {d with heap:=z,toks:=d.toks}:=m.kept λb o e=>C b o e;refine Fo v {d.heap.objs.size+1,[d.heap.objs.size+1,d.heap.objs.size],_,_,t,Xb,y,Cr b (d.heap.objs.size+1) d.heap.objs.size (FH _),{{_,v},r},λc n=>?_,q};have i:d.heap.objs.size<=c:=by
  rcases List.mem_cons.mp n with e|n
  .rw[e];exact EI _
  .have:c=d.heap.objs.size:=by simpa using n
   rw[this];exact Gm _
 exact m.iD i (m.Zv.fresh i)
theorem wj{K:Gd}{a:Gc}{xs:List V}{g:TG}{k:TS}{D:Ends}(b:Nat->St->Hp->Prop)(l:b 0 σ H)
  (p:∀i σ H,i<=xs.length->b i σ H->Zb K H a xs)
  (r:∀i x c σ H,xs[i]?=Ga x->b i σ H->H c=Ge->g (.ref c) σ (zj H c (.tup [.int (i:Int),x])) λh H2=>k {D with nx:=b (i+1),ct:=b (i+1),bk:=D.nx} h H2)
  (n:∀σ H,b xs.length σ H->D.nx σ H):
  ∃W:Nat->Nat->St->Hp->Prop,(∃m,W 0 m σ H)/\∀i m σ H,W i m σ H->((j5 K a).stop i H/\D.nx σ H)\/((j5 K a).go i H/\∃N:St->Hp->Prop,(∀f d,N f d->∃e,e<m/\W (i+1) e f d)/\∀x d,(j5 K a).yld i H x d->g x σ d λh H2=>k {D with nx:=N,ct:=N,bk:=D.nx} h H2):=by
 exists λi m σ H=>m=xs.length - i/\i<=xs.length/\b i σ H,{_,Xb,Gw _,l};rintro i m σ H ⟨rfl,o,pv⟩;have q:=p i σ H o pv;by_cases j:i<xs.length
 .refine .inr {{xs,xs[i],q,by simp[j]},b (i+1),λf d t=>{xs.length - (i+1),by ext,Xb,j,t},λv d y=>?_};obtain⟨c,x,rfl,e,s,rfl⟩:=y;exact r i x c σ H (s xs q) pv e
 .have e:i=xs.length:=by ext
  subst e;exact .inl {{xs,q,Gm _},n σ H pv}
end L2
namespace K07
open PySem L2 Sb Nt
variable{f C:Gc}{fd:Tp}
structure Um(K:Gd)(mg:GY->Option Value)(C:Gc):Prop where
 cl:gC K C
 Qc7:Yp K C "forms"
 W9:Yp K C "leads"
 members:Yp K C "members"
 Qfm:Yp K C "users"
 table:Yp K C "table"
 links:Yp K C "links"
 Qcm:Yp K C "link_at"
 above:Yp K C "above"
 mgC:mg "Net"=Ga (.ref C)
theorem U5(A:Na):(Y9 A).lookup ("forms":GY)=Ga (.ref A.f):=by rfl
theorem Yn(A:Na):(Y9 A).lookup ("leads":GY)=Ga (.ref A.l):=by rfl
theorem Vb(A:Na):(Y9 A).lookup ("members":GY)=Ga (.ref A.m):=by rfl
theorem Rc(A:Na):(Y9 A).lookup ("users":GY)=Ga (.ref A.u):=by rfl
theorem uZ(A:Na):(Y9 A).lookup ("table":GY)=Ga (.ref A.t):=by rfl
theorem Jh(A:Na):(Y9 A).lookup ("links":GY)=Ga (.ref A.k):=by rfl
theorem mj(A:Na):(Y9 A).lookup ("link_at":GY)=Ga (.ref A.a):=by rfl
theorem Ov(A:Na):(Y9 A).lookup ("above":GY)=Ga (.ref A.v):=by rfl
theorem oj(A:Na):(Y9 A).lookup ("take_in":GY)=Ge:=by rfl
theorem nB(A:Na):(Y9 A).lookup ("key_of":GY)=Ge:=by rfl
theorem oV(A:Na):(Y9 A).lookup ("equal":GY)=Ge:=by rfl
theorem qB(A:Na):(Y9 A).lookup ("merge":GY)=Ge:=by rfl
theorem IF(A:Na):(Y9 A).lookup ("merge_link":GY)=Ge:=by rfl
theorem xj(A:Na):(Y9 A).lookup ("hang":GY)=Ge:=by rfl
theorem rX(A:Na):(Y9 A).lookup ("give_over":GY)=Ge:=by rfl
theorem pG(A:Na):(Y9 A).lookup ("way":GY)=Ge:=by rfl
theorem se(A:Na):(Y9 A).lookup ("way_up":GY)=Ge:=by rfl
theorem ri(A:Na):(Y9 A).lookup ("rows":GY)=Ge:=by rfl
theorem Xq{H:Hp}{a:Gc}{S:List Nat}{f:Nat->V}{p:Nat}(h:H a=Ga (.dK (dS S f)))(b:p∈S):Wn H a (jv p) (Ga (f p)):=by have:=Wn.k (k:=ki p) h;rw[iW b,Ky]at this;exact this
theorem kz{i j:Nat}:decide (jv i=jv j)=decide (i=j):=by
 by_cases h:i=j
 .subst h;simp
 .rw[GQ h,GQ λz=>h (K1 z)]
inductive vJ(P:Gi)(w:Gu)(C:Gc)(vs:List V)(H:Hp)(Q:VK):Prop
 |mk (n:Gc) (A:Na) (fs:List Fm) (tb:Nat) (x:Nn) (p:Nat) (q:Nat) (h0:vs=[.ref n,jv p,jv q]) (h1:Z7 P w C H n A fs tb x) (h2:p∈x.S) (h3:q∈x.S) (h4:Q (.bl (decide (x.lead p=x.lead q))) H):vJ P w C vs H Q
def lM(P:Gi)(w:Gu)(C:Gc):Sp:=λa H Q _=>vJ P w C a H Q
inductive zb(P:Gi)(w:Gu)(C:Gc)(vs:List V)(H:Hp)(Q:VK):Prop
 |mk (n:Gc) (A:Na) (fs:List Fm) (tb:Nat) (x:Nn) (p:Nat) (h0:vs=[.ref n,jv p]) (h1:Z7 P w C H n A fs tb x) (h2:p<fs.length) (h3:(∀q∈Zo fs p,q∈x.S)) (h4:(Zo fs p).length<=1000000) (h5:∀(c:Gc)(H':Hp),Qx H H'->H c=Ge->Rn H' (.ref c) (Zm (Yg fs) (Zo fs) x.lead p)->Q (.ref c) H'):zb P w C vs H Q
def kI(P:Gi)(w:Gu)(C:Gc):Sp:=λa H Q _=>zb P w C a H Q
inductive yu(P:Gi)(w:Gu)(C:Gc)(vs:List V)(H:Hp)(Q:VK):Prop
 |mk (n:Gc) (A:Na) (fs:List Fm) (tb:Nat) (x:Nn) (lo:Nat) (hi:Nat) (cl:List Nat) (h0:vs=[.ref n,jv lo,jv hi]) (h1:Z7 P w C H n A fs tb x) (h2:Ch x.up lo cl) (h3:(∀p∈cl,p∈x.S)) (h4:x.S.length<=1000000) (h5:∀(H':Hp),Z7 P w C H' n A fs tb {x with up:=Xs x.up hi cl}->(∀b o,H b=Ga o->b≠A.v->H' b=Ga o)->(∀b,H' b=Ge->H b=Ge)->Q .non H'):yu P w C vs H Q
def qa(P:Gi)(w:Gu)(C:Gc):Sp:=λa H Q _=>yu P w C a H Q
inductive tK(P:Gi)(w:Gu)(C:Gc)(vs:List V)(H:Hp)(Q:VK):Prop
 |mk (n:Gc) (A:Na) (fs:List Fm) (tb:Nat) (x:Nn) (p:Nat) (l:List Nat) (h0:vs=[.ref n,jv p]) (h1:Z7 P w C H n A fs tb x) (h2:Ch x.up p l) (h3:(∀q∈l,q∈x.S)) (h4:l.length<=1000000) (h5:∀(r:Gc)(H':Hp),Qx H H'->H r=Ge->H' r=Ga (.lst (l.map jv))->Q (.ref r) H'):tK P w C vs H Q
def yO(P:Gi)(w:Gu)(C:Gc):Sp:=λa H Q _=>tK P w C a H Q
section
variable{P:Gi}{w:Gu}{K:Gd}{mg:GY->Option Value}{base:Heap}
theorem Pz:Qw ["self","one","other"] ["self","one","other"] (Qk oD):=by eq_refl
theorem Kt(F:Wj K "equal" "Net.equal" oD f fd)(T:Um K mg C):Qu P w K mg base Z5 1 f fd ["self","one","other"] (lM P w C):=by
 refine F.ok Pz (λo H Q E h=>?_) (λe A a s H o Q E l h=>?_)
 .obtain⟨n,A,i,m,x,p,q,rfl,_⟩:=h;rfl
 obtain⟨n,A,i,m,x,p,q,rfl,X,j,k,g⟩:=h;have c:=Jg l;exists _,Qh (Qv (QQ Va (Zw c (Qm (pv 0) rfl) (pv 1) (λ_ _=>rfl)) (Zw c (Qm (pv 0) rfl) (pv 2) (λ_ _=>rfl)) (Q4 _)));obtain⟨b,d⟩:=X.ob;exists _,Xb,n,C,b,_,_,Xb,d,T.cl,T.W9,Yn _,_,Xb,A.l,_,Xb,Xq X.le j,_,Xb,n,C,b,_,_,Xb,d,T.cl,T.W9,Yn _,_,Xb,A.l,_,Xb,Xq X.le k,Xb;rw[kz];exact g
theorem kK:Qw ["self","place","form"] ["self","place"] (Qk jx):=by eq_refl
theorem yT:(["part","self"]:List GY).Nodup:=by decide+kernel
theorem A5(F:Wj K "key_of" "Net.key_of" jx f fd)(j:Um K mg C)(M:Ii mg):Qu P w K mg base Z5 1 f fd ["self","place"] (kI P w C):=by
 refine F.ok kK (λvs r O N d=>?_) (λac g ad s r vs O N Y d=>?_)
 .obtain⟨n,g,a,tb,x,p,rfl,_⟩:=d;rfl
 obtain⟨n,g,a,tb,x,p,rfl,X,B,W,hl,T⟩:=d;have Z:=Jg Y;have nd:=kK.nd;exists _,Qd (Qt 2 nd (Qn Ze (Qm (pv 0) rfl) (pv 1)))
  (Qh (Qv (Za (Qa (Qn Q3 (pv 2) Qj) (Qa (Xx Wh rfl M.tuple TR (Qa
   (V0 (te:=jQ (kU K (Vw 1) "leads") (Vw 0)) (own:=["part"]) (fv:=[(0,"self")]) rfl (S:=(by eq_refl:Wa (Qk jx) _)) (.cons rfl (De Xb) rfl .nil) (V4 (Qn Q3 (pv 2) Qj))
    (λ_ _ _ _ _=>Xe (i:=0) yT rfl (De Xb) (Ej Xb)) (λ_ _ _ _ _=>We) (λ_ _ _ _ _=>Zw Z (Qm (pv 1) rfl) (pv 0) (λ_ _=>rfl))) Qe)) Qe)))))
 obtain⟨t,H⟩:=X.ob;obtain⟨J,S,v⟩:=X.fo;have hw:p<J.length:=by rw[Gr v];exact B
 obtain⟨y,E,c,k,R,z,A⟩:=Qy v (List.getElem?_eq_getElem hw);rw[js B]at E;cases E;have Q:atI [V.str (Yg a p),V.ref k] (1:Int)=Ga (.ref k):=Qz (j:=1) rfl;exists _,Xb,n,C,t,_,_,Xb,H,j.cl,j.Qc7,U5 _,_,Xb,g.f,J,_,_,Xb,Xb,Zb.of S,Qz (List.getElem?_eq_getElem hw);rw[R];refine{_,Xb,c,_,_,_,Xb,Xb,Zz.of z,R8 _ _,_,Xb,c,_,_,_,Xb,Xb,Zz.of z,Q,k,Xb,{_,Zz.of A},λab D=>?_};have s3:=Qf D (.lst []);refine Jd (K:=K) (a:=k) (xs:=(Zo a p).map jv) (small (by rw[List.length_map];lia)) (λi m o h=>(∃L,o=[L,Ga (.ref n)])/\Qx r h/\m=((Zo a p).take i).map λq=>jv (x.lead q))
  {{_,Xb},s3,by simp} (λi m o h _ d=>Zz.of (d.2.1 _ _ A)) ?_ ?_
 .rintro i y m o h e aa ⟨⟨L,rfl⟩,b,rfl⟩ l;rw[List.getElem?_map]at e;cases eq:(Zo a p)[i]? with
  |none=>rw[eq]at e;cases e
  |some q=>
   rw[eq]at e;cases e;exists _,Xb,n,C,t,_,_,Xb,b _ _ H,j.cl,j.W9,Yn _,_,Xb,g.l,_,Xb,Xq (b _ _ X.le) (W q (List.mem_of_getElem? eq)),l,{_,Xb},λG I u=>?_
   .rw[Qg (Qc u D)];exact b _ _ u
   .rw[List.take_add_one,eq,List.map_append];rfl
 .rintro m o h aa ⟨_,b,rfl⟩ l;rw[List.length_map,List.take_length]at l;refine{ab,_,Xb,.inl {Zb.of l,λG U=>?_}};have s4:=Qf U (.tup ((Zo a p).map λq=>jv (x.lead q)));refine{by show 2<=Gj;decide,λe u=>?_};have I:=Qf u (.tup [.str (Yg a p),.ref G]);refine T e _ ((b.trans s4).trans I) (b.free (s4.free u)) {e,G,Xb,Qb,?_};rw[I _ _ Qb];simp only[Zm,List.map_map];rfl
theorem yH:Qw ["self","place","found","stop"] ["self","place"] (Qk jw):=by eq_refl
theorem lb{o:Option Nat}:decide (ov o=V.non)= !o.isSome:=by
 cases o with
 |none=>rfl
 |some p=>rfl
theorem rV{b:Nat->Option Nat}{p:Nat}{l:List Nat}(h:Ch b p l){i:Nat}(a:i<l.length):b l[i]=l[i+1]?:=by
 induction h generalizing i with
 |@top p e=>
  have:i=0:=by simpa using a
  subst this;simpa using e
 |@step p q l e k d=>
  cases i with
  |zero=>obtain⟨r,c⟩:=k.head;subst c;simpa using e
  |succ j=>simp only[List.length_cons]at a;simpa using d (i:=j) (by lia)
theorem CJ(F:Wj K "way_up" "Net.way_up" jw f fd)(q:Um K mg C):Qu P w K mg base Z5 1 f fd ["self","place"] (yO P w C):=by
 refine F.ok yH (λU d o y e=>?_) (λaa j ac s d U o y N e=>?_)
 .obtain⟨n,j,G,S,x,p,a,rfl,_⟩:=e;rfl
 obtain⟨n,j,G,S,x,p,a,rfl,X,r,M,ab,H⟩:=e;have O:=Jg N;have k:=yH.nd;show∃t,Ik ?my _ t/\_;let Y:Xf ?my jw 3:={_,Qh (Qv (pv 2))}
 let W:Xf ?my jw 2:=⟨_,Qd (Ws Gv (Qr jy (pv 3) Ux (Q4 _))
   (Qd (Zc (Xk Gs Gy GJ Zr (pv 2) (Qa (pv 3) Qe)))
   (Qh (Qt 3 k (Zw O (Qm (pv 0) rfl) (pv 3) (λ_ _=>rfl)))))) Y.2⟩
 let V:Xf ?my jw 1:={_,Qd (Qt 3 k (pv 1)) W.2}
 exists _,Qd (Qt 2 k (Zl Qe)) V.2;obtain⟨z,Q⟩:=X.ob;refine{Gw _,λc h=>{_,Xb,?_}};have s0:=Qf h (.lst []);obtain⟨l',E⟩:=r.head;have I:a[0]?=Ga p:=by rw[E];rfl
 let R:Nat->St->Hp->Prop:=λu l m=>iV λi=>iA (u=a.length+1 - i) (i<=a.length) (l=[Ga (.ref n),Ga (jv p),Ga (.ref c),Ga (ov a[i]?)]) (m=zj d c (.lst ((a.take i).map jv)))
 refine pI R
  {_,0,Xb,Gw _,by rw[I];rfl,by simp} ?_ (λl d o Z J=>λe=>by obtain⟨T,b,v,A,B,D⟩:=e;exact{T,b,v,A,B,J _ _ D})
 rintro u l m ⟨i,rfl,hi,rfl,rfl⟩;exists _,Xb,Xb,_,Xb;rw[lb];rcases Tn i a.length with g|L
 .have b:a[i]?=Ga a[i]:=List.getElem?_eq_getElem g;have A:a[i]∈a:=List.getElem_mem g;rw[b];refine Y0 ?_;exists _,Xb,.inl {Xb,_,Zb.of Qb},_,Xb,c,_,_,Xb,Xb,Qb,(by rw[List.length_map,List.length_take,Gz];ext);have v:Qx d (zj (zj d c (.lst ((a.take i).map jv))) c (.lst ((a.take i).map jv++[jv a[i]]))):=by rw[Vz];exact Qf h _
  exists _,Xb,n,C,z,_,_,Xb,v _ _ Q,q.cl,q.above,Ov _,_,Xb,j.v,_,Xb,Xq (v _ _ X.ab) (M _ A),_,by ext,i+1,Xb,g,?_
  .rw[rV r g];rfl
  .rw[Vz,List.take_add_one,b,List.map_append];rfl
 .have b:a[i]?=Ge:=List.getElem?_eq_none L;have v:i=a.length:=by ext
  subst v;rw[b];refine Zu ?_;rw[List.take_length];exact{_,Xb,H c _ (Qf h _) h Qb}
theorem sv:Qw ["self","low","high","over","place","old_over"] ["self","low","high"] (Qk j8):=by eq_refl
theorem Pv(F:Wj K "hang" "Net.hang" j8 f fd)(k:Um K mg C):Qu P w K mg base Z5 1 f fd ["self","low","high"] (qa P w C):=by
 refine F.ok sv (λvs h J aa d=>?_) (λaf b ai s h vs J aa hr d=>?_)
 .obtain⟨n,b,fs,tb,x,U,o,y,rfl,_⟩:=d;rfl
 obtain⟨n,b,fs,tb,x,U,o,y,rfl,X,B,ac,ah,ab⟩:=d;have Q:=Jg hr;have j:=sv.nd;show∃t,Ik ?my _ t/\_;let w3:Xf ?my j8 2:=⟨_,Qh (Ws Gv (Qr jy (pv 4) Ux (Q4 _))
   (Qd (Qt 5 j (Zw Q (Qm (pv 0) rfl) (pv 4) (λ_ _=>rfl)))
   (Qd (Wt Q (Qm (pv 0) rfl) (pv 4) (pv 3) rfl)
   (Qd (Qt 3 j (pv 4))
   (Qh (Qt 4 j (pv 5)))))))⟩
 let w2:Xf ?my j8 1:={_,Qd (Qt 4 j (pv 1)) w3.2}
 exists _,Qd (Qt 3 j (pv 2)) w2.2;obtain⟨m,E⟩:=X.ob;obtain⟨ag,M⟩:=B.head;exists _,Xb,_,Xb;have Y:n≠b.v:=Zi E X.ab (by intro z;cases z);let ae:Nat->St->Hp->Prop:=λW H I=>gV λ(u:Nat->Option Nat)(over:Nat)(X9:List Nat)(Z:Option V)=>gP (W=X9.length) (∀q∈X9,u q=x.up q) (∀c g,X9=c::g->Ch x.up c X9) (X9.Nodup) (∀q∈X9,q∈x.S) (Xs u over X9=Xs x.up o y) (H=[Ga (.ref n),Ga (jv U),Ga (jv o),Ga (jv over),Ga (ov X9.head?),Z]) (I=zj h b.v (.dK (dS x.S λp=>ov (u p))))
 refine pI ae
  {_,x.up,o,y,Ge,Xb,λ_ _=>rfl,λc g a=>?_,B.nodup,ac,Xb,?_,?_} ?_ (λH h J T N=>λd=>by obtain⟨v,i,A,r,G,L⟩:=d;exact{v,i,A,r,G,N _ _ L})
 .rw[M]at a;cases a;exact B
 .rw[M];rfl
 .funext l
  by_cases e:l=b.v
  .subst e;rw[Qb];exact X.ab
  .rw[Qg e]
 rintro W H I ⟨u,over,X9,Z,rfl,R,S,nd2,O,D,rfl,rfl⟩;exists _,Xb,Xb,_,Xb;rw[lb];cases X9 with
 |nil=>
  refine Zu ?_;have a:Xs u over []=u:=rfl;rw[a]at D;refine ab _ ?_ (λl r i e=>by rw[Qg e];exact i) (λl e=>?_)
  .rw[<-D];have G:Qp h (zj h b.v (.dK (dS x.S λp=>ov (u p)))):=Zk λxs a=>by rw[X.ab]at a;cases a
   obtain⟨ws,N,f2⟩:=X.fo;obtain⟨ad,r,d2,d3⟩:=X.ta;obtain⟨ls,T,l2⟩:=X.li;obtain⟨kv,L,a2⟩:=X.at_;refine⟨{m,by rw[Qg Y];exact E},{ws,by rw[Qg (Zi N X.ab (by intro z;cases z))];exact N,L2.Paired.Yb f2 λ_ _ d=>d.Ql G},by rw[Qg X.ap.lv];exact X.le,by rw[Qg X.ap.mv];exact X.me,by rw[Qg X.ap.uv];exact X.us,
    {ad,{by rw[Qg (Zi r.at_ X.ab (by intro z;cases z))];exact r.at_,Q8 G r.keys},d2,d3},{ls,by rw[Qg (Zi T X.ab (by intro z;cases z))];exact T,L2.Paired.Yb l2 λ_ _ d=>d.Ql G},{kv,by rw[Qg (Zi L X.ab (by intro z;cases z))];exact L,a2},Qb,
    λp i=>by rw[Qg (Zi (X.ml p i) X.ab (by intro z;cases z))];exact X.ml p i,λp i=>by rw[Qg (Zi (X.ul p i) X.ab (by intro z;cases z))];exact X.ul p i,X.ap⟩
  .by_cases a:l=b.v
   .subst a;rw[Qb]at e;cases e
   .rw[Qg a]at e;exact e
 |cons c g=>
  refine Y0 ?_;have r:=O c (by simp);have L:(zj h b.v (.dK (dS x.S λp=>ov (u p)))) n=Ga (.ins C m (Y9 b)):=by rw[Qg Y];exact E
  have N:u c=g.head?:=by rw[R c (by simp)];have:=rV (S c g Xb) (i:=0) (by simp);simp only[List.getElem_cons_zero]at this;rw[this];cases g<;>rfl
  rw[List.nodup_cons]at nd2;have G:=Rp.k (k:=ki c) (v:=jv over) (@Qb h b.v (.dK (dS x.S λp=>ov (u p)))) (by rw[Vi,Gz];ext);rw[Vz,nQ r]at G;exists _,Xb,n,C,m,_,_,Xb,L,k.cl,k.above,Ov _,_,Xb,b.v,_,Xb,Xq Qb r,_,Xb,_,Xb,n,C,m,_,_,Xb,L,k.cl,k.above,Ov _,_,Xb,b.v,_,Xb,G,_,Xb,_,Xb,g.length,by simp,gW u c over,c,g,Ga (ov (u c)),Xb,λq i=>?_,λT r2 A=>?_,nd2.2,λq i=>O q (by simp[i]),D,?_
  .unfold gW;rw[Gh (λz:q=c=>nd2.1 (z▸i))];exact R q (by simp[i])
  .have:=S c g rfl;subst A;exact this.suffix (a:=[c]) rfl
  .rw[N];rfl
  .congr 2;refine Wu λq _=>?_;unfold gW;by_cases a:q=c
   .rw[Gn a,Gn a];rfl
   .rw[Gh a,Gh a]
end
end K07
namespace Sb
open PySem PySem.Spec PyProof.Rows L2 Nt
theorem Ye{H:Hp}{a b:Gc}{o u:HO}(h:H a=Ga o)(k:H b=Ga u)(d:∀z:o=u,False):a≠b:=λz=>by subst z;rw[h]at k;exact d (To k)
section
variable{P:Gi}{w:Gu}{C:Gc}{H:Hp}{n:Gc}{A:Na}{fs:List Fm}{tb:Nat}{x:Nn}
theorem Z7.IW(X:Z7 P w C H n A fs tb x)(ld:Nat->Nat):Z7 P w C (zj H A.l (.dK (dS x.S λp=>jv (ld p)))) n A fs tb {x with lead:=ld}:=by
 obtain⟨q,j⟩:=X.ob;obtain⟨y,g,r⟩:=X.fo;obtain⟨c,D,l,m⟩:=X.ta;obtain⟨v,i,t⟩:=X.li;obtain⟨s,f,k⟩:=X.at_;have d:Qp H (zj H A.l (.dK (dS x.S λp=>jv (ld p)))):=Zk λz e=>by rw[X.le]at e;cases e
 have u:∀{b o},H b=Ga o->b≠A.l->(zj H A.l (.dK (dS x.S λp=>jv (ld p)))) b=Ga o:=λe h=>by rw[Qg h];exact e
 exact⟨{q,u j (Ye j X.le nofun)},{y,u g (Ye g X.le nofun),L2.Paired.Yb r λ_ _ h=>h.Ql d},Qb,u X.me (Gp X.ap.lm),u X.us (Gp X.ap.lu),{c,{u D.at_ (Ye D.at_ X.le nofun),Q8 d D.keys},l,m},
  {v,u i (Ye i X.le nofun),L2.Paired.Yb t λ_ _ h=>h.Ql d},{s,u f (Ye f X.le nofun),k},u X.ab (Gp X.ap.lv),λp a=>u (X.ml p a) (Ye (X.ml p a) X.le nofun),λp a=>u (X.ul p a) (Ye (X.ul p a) X.le nofun),X.ap⟩
theorem Z7.HZ(X:Z7 P w C H n A fs tb x){k:Nat}(a:k∈x.S)(l:List Nat):Z7 P w C (zj H (A.ml k) (.lst (l.map jv))) n A fs tb {x with mem:=λp=>if p=k then l else x.mem p}:=by
 obtain⟨s,i⟩:=X.ob;obtain⟨G,t,v⟩:=X.fo;obtain⟨d,D,q,r⟩:=X.ta;obtain⟨F,B,E⟩:=X.li;obtain⟨y,g,j⟩:=X.at_;have m:=X.ml k a;have f:Qp H (zj H (A.ml k) (.lst (l.map jv))):=Zk λI e=>by rw[m]at e;cases e
 have u:∀{b o},H b=Ga o->b≠A.ml k->(zj H (A.ml k) (.lst (l.map jv))) b=Ga o:=λe h=>by rw[Qg h];exact e
 refine⟨{s,u i (Ye i m nofun)},{G,u t (Gp (X.ap.mkf k a).2),L2.Paired.Yb v λ_ _ h=>h.Ql f},u X.le (Ye X.le m nofun),u X.me (Ye X.me m nofun),u X.us (Ye X.us m nofun),{d,{u D.at_ (Ye D.at_ m nofun),Q8 f D.keys},q,r},
  {F,u B (Gp (X.ap.mkf k a).1),L2.Paired.Yb E λ_ _ h=>h.Ql f},{y,u g (Ye g m nofun),j},u X.ab (Ye X.ab m nofun),λp c=>?_,λp c=>u (X.ul p c) (Gp (X.ap.mul k a p c)),X.ap⟩
 by_cases e:p=k
 .subst e;show _=Ga (HO.lst ((if p=p then l else x.mem p).map jv));rw[Qb,Gn rfl]
 .show _=Ga (HO.lst ((if p=k then l else x.mem p).map jv));rw[Gh e];exact u (X.ml p c) (λz=>e (X.ap.mm p c k a z))
theorem Z7.xt(X:Z7 P w C H n A fs tb x){k:Nat}(a:k∈x.S)(l:List Nat):Z7 P w C (zj H (A.ul k) (.lst (l.map jv))) n A fs tb {x with Xl:=λp=>if p=k then l else x.Xl p}:=by
 obtain⟨s,i⟩:=X.ob;obtain⟨G,t,v⟩:=X.fo;obtain⟨d,D,q,r⟩:=X.ta;obtain⟨F,B,E⟩:=X.li;obtain⟨y,g,j⟩:=X.at_;have m:=X.ul k a;have f:Qp H (zj H (A.ul k) (.lst (l.map jv))):=Zk λI e=>by rw[m]at e;cases e
 have u:∀{b o},H b=Ga o->b≠A.ul k->(zj H (A.ul k) (.lst (l.map jv))) b=Ga o:=λe h=>by rw[Qg h];exact e
 refine⟨{s,u i (Ye i m nofun)},{G,u t (Gp (X.ap.ukf k a).2),L2.Paired.Yb v λ_ _ h=>h.Ql f},u X.le (Ye X.le m nofun),u X.me (Ye X.me m nofun),u X.us (Ye X.us m nofun),{d,{u D.at_ (Ye D.at_ m nofun),Q8 f D.keys},q,r},
  {F,u B (Gp (X.ap.ukf k a).1),L2.Paired.Yb E λ_ _ h=>h.Ql f},{y,u g (Ye g m nofun),j},u X.ab (Ye X.ab m nofun),λp c=>u (X.ml p c) (X.ap.mul p c k a),λp c=>?_,X.ap⟩
 by_cases e:p=k
 .subst e;show _=Ga (HO.lst ((if p=p then l else x.Xl p).map jv));rw[Qb,Gn rfl]
 .show _=Ga (HO.lst ((if p=k then l else x.Xl p).map jv));rw[Gh e];exact u (X.ul p c) (λz=>e (X.ap.uu p c k a z))
theorem Z7.yt(X:Z7 P w C H n A fs tb x){c kvs':List KE}(D:DH P w H A.t c)(t:kvs'.length<=tb+1)(l:Vd H kvs'){t':Fm->Option Nat}(v:∀k:Fm,Yf kvs' (Y1 k)=(t' k).map jv):Z7 P w C (zj H A.t (Vx P w A.t kvs')) n A fs (tb+1) {x with tab:=t'}:=by
 obtain⟨r,j⟩:=X.ob;obtain⟨E,g,s⟩:=X.fo;obtain⟨B,i,z⟩:=X.li;obtain⟨y,f,q⟩:=X.at_;have m:=D.at_;have d:Qp H (zj H A.t (Vx P w A.t kvs')):=Zk λF e=>by rw[m]at e;cases e
 have u:∀{b o},H b=Ga o->b≠A.t->(zj H A.t (Vx P w A.t kvs')) b=Ga o:=λe h=>by rw[Qg h];exact e
 exact⟨{r,u j (Ye j m nofun)},{E,u g (Ye g m nofun),L2.Paired.Yb s λ_ _ h=>h.Ql d},u X.le (Ye X.le m nofun),u X.me (Ye X.me m nofun),u X.us (Ye X.us m nofun),{kvs',{Qb,Q8 d l},t,v},
  {B,u i (Ye i m nofun),L2.Paired.Yb z λ_ _ h=>h.Ql d},{y,u f (Ye f m nofun),q},u X.ab (Ye X.ab m nofun),λp a=>u (X.ml p a) (Ye (X.ml p a) m nofun),λp a=>u (X.ul p a) (Ye (X.ul p a) m nofun),X.ap⟩
theorem Z7.Pt(X:Z7 P w C H n A fs tb x){kv2:List (List Xm×V)}{ls':List V}{lks:List Lk}{lat':Nat->Nat->Option Nat}(v:kv2.length<=2*lks.length)(y:∀i j:Nat,Yt kv2 [ki i,ki j]=(lat' i j).map jv)(z:Paired (Rm H) ls' lks):
  Z7 P w C (zj (zj H A.a (.dT kv2)) A.k (.lst ls')) n A fs tb {x with links:=lks,Xg:=lat'}:=by
 obtain⟨r,g⟩:=X.ob;obtain⟨B,l,s⟩:=X.fo;obtain⟨f,D,m,q⟩:=X.ta;obtain⟨I,c,G⟩:=X.li;obtain⟨F,a,E⟩:=X.at_;have k:Qp H (zj (zj H A.a (.dT kv2)) A.k (.lst ls')):=λb J e=>by rw[Qg (Ye e c nofun),Qg (Ye e a nofun)];exact e
 have u:∀{b o},H b=Ga o->b≠A.k->b≠A.a->(zj (zj H A.a (.dT kv2)) A.k (.lst ls')) b=Ga o:=λe h t=>by rw[Qg h,Qg t];exact e
 refine⟨{r,u g (Ye g c nofun) (Ye g a nofun)},{B,u l (Gp X.ap.kf) (Ye l a nofun),L2.Paired.Yb s λ_ _ h=>h.Ql k},u X.le (Ye X.le c nofun) (Ye X.le a nofun),u X.me (Ye X.me c nofun) (Ye X.me a nofun),u X.us (Ye X.us c nofun) (Ye X.us a nofun),
  {f,{u D.at_ (Ye D.at_ c nofun) (Ye D.at_ a nofun),Q8 k D.keys},m,q},{ls',Qb,L2.Paired.Yb z λ_ _ h=>h.Ql k},{kv2,?_,v,y},u X.ab (Ye X.ab c nofun) (Ye X.ab a nofun),λp d=>u (X.ml p d) (X.ap.mkf p d).1 (Ye (X.ml p d) a nofun),λp d=>u (X.ul p d) (X.ap.ukf p d).1 (Ye (X.ul p d) a nofun),X.ap⟩
 rw[Qg (Ye a c nofun),Qb]
end
end Sb
namespace K07
open PySem L2 Sb Nt
structure g8(fs:List Fm)(S:List Nat):Prop where
 str:∀p,Dc (Yg fs p)=Gg
 lt:∀p∈S,p<fs.length
 pts:∀p∈S,∀q∈Zo fs p,q∈S
 few:∀p,(Zo fs p).length<=100000
inductive qw(P:Gi)(w:Gu)(C:Gc)(vs:List V)(H:Hp)(Q:VK):Prop
 |mk (n:Gc) (A:Na) (fs:List Fm) (tb:Nat) (x:Nn) (g:Nat) (k:Nat) (h0:vs=[.ref n,jv g,jv k]) (h1:Z7 P w C H n A fs tb x) (h2:g8 fs x.S) (h3:g∈x.S) (h4:k∈x.S) (h5:g≠k) (h6:(∀p∈x.mem g,p∈x.S)) (h7:(∀p∈x.Xl g,p∈x.S)) (h8:x.S.length<=100000) (h9:(x.mem k).length+(x.mem g).length<=100000) (h10:(x.Xl k).length+(x.Xl g).length<=100000) (h11:tb+(x.Xl g).length<=1000000) (h12:∀(r:Gc)(es:List V)(H':Hp),Z7 P w C H' n A fs (tb+(x.Xl g).length) (V3 (Yg fs) (Zo fs) x g k).1->Oc A x.S H H'->H r=Ge->H' r=Ga (.lst es)->Paired (Rm H') es (V3 (Yg fs) (Zo fs) x g k).2->Q (.ref r) H'):qw P w C vs H Q
def nG(P:Gi)(w:Gu)(C:Gc):Sp:=λa H Q _=>qw P w C a H Q
section
variable{P:Gi}{w:Gu}{K:Gd}{mg:GY->Option Value}{base:Heap}
theorem wU:Qw ["self","gone","kept","place","found","user","twin"] ["self","gone","kept"] (Qk Wq):=by eq_refl
theorem C3{ky:Nat->GY×List Nat}{l:List Nat}{t:GY×List Nat->Option Nat}{i u:Nat}(h:l[i]?=Ga u):zg (ρ:=Jl) ky (l.take (i+1)) t []=(match(zg (ρ:=Jl) ky (l.take i) t []).1 (ky u)with
  |some v=>((zg (ρ:=Jl) ky (l.take i) t []).1,if v=u then(zg (ρ:=Jl) ky (l.take i) t []).2 else(zg (ρ:=Jl) ky (l.take i) t []).2++[(u,v,Ge)])
  |none=>((λk=>if k=ky u then Ga u else(zg (ρ:=Jl) ky (l.take i) t []).1 k),(zg (ρ:=Jl) ky (l.take i) t []).2)):=by
 have b:∀(a:List Nat)(t:GY×List Nat->Option Nat)(f:List (Nat×Nat×Option Jl)),zg (ρ:=Jl) ky (a++[u]) t f=(match(zg (ρ:=Jl) ky a t f).1 (ky u)with
  |some v=>((zg (ρ:=Jl) ky a t f).1,if v=u then(zg (ρ:=Jl) ky a t f).2 else(zg (ρ:=Jl) ky a t f).2++[(u,v,Ge)])
  |none=>((λk=>if k=ky u then Ga u else(zg (ρ:=Jl) ky a t f).1 k),(zg (ρ:=Jl) ky a t f).2)):=by
  intro a;induction a with
  |nil=>intro t f;simp only[List.nil_append,zg];all_goals (cases t (ky u)<;>rfl)
  |cons z a c=>
   intro t f;simp only[List.cons_append,zg];cases t (ky z)with
   |some v=>exact c _ _
   |none=>exact c _ _
 rw[List.take_add_one,h];exact b _ _ _
theorem Po{f fK j:Gc}{fd ao:Tp}(F:Wj K "give_over" "Net.give_over" Wq f fd)(h:Um K mg j)(mK:Yc K j "key_of" fK)(GK:Qu P w K mg base Z5 1 fK ao ["self","place"] (kI P w j))(bK:zk K ao ["self","place"] []):
  Qu P w K mg base Z5 2 f fd ["self","gone","kept"] (nG P w j):=by
 refine F.ok wU (λD J l g M=>?_) (λH d I s J D l g hr M=>?_)
 .obtain⟨n,d,b,tb,x,a,k,rfl,_⟩:=M;rfl
 obtain⟨n,d,b,tb,x,a,k,rfl,X,ae,E,G,az,mS,uS,hS,hm,aJ,aI,q⟩:=M;have W:=Jg hr;have aB:=hr.units;have aA:Yd 1 _:=hr.mono (by ext);have nd:=wU.nd;show∃t,Ik ?my _ t/\_;let w6:Xf ?my Wq 5:={_,Qh (Qv (pv 4))}
 let w5:Xf ?my Wq 4:=⟨_,Qd (Z8 Gv rfl (Yx (Zw W (Qm (pv 0) rfl) (pv 1) (λ_ _=>rfl))) (Z6 5 nd)
   (Qd (Qt 6 nd (K7 Er Es (FB aB) (Qm (pv 0) rfl) (Qa (Zf (pv 0) h.cl mK GK aA bK .nil Q5 (Qa (pv 5) Qe)) (Qa (pv 5) Qe))))
   (Qh (Zq (Qr Io (pv 6) (pv 5) (Q4 _))
    (Qh (Zc (Xk Gs Gy GJ Zr (pv 4) (Qa (Za (Qa (pv 5) (Qa (pv 6) (Qa Ux Qe)))) Qe)))) Q6)))) w6.2⟩
 let w4:Xf ?my Wq 3:={_,Qd (Qt 4 nd (Zl Qe)) w5.2}
 let w3:Xf ?my Wq 2:={_,Qd (Zc (Xk Gs EE EF mx (Zw W (Qm (pv 0) rfl) (pv 2) (λ_ _=>rfl)) (Qa (Zw W (Qm (pv 0) rfl) (pv 1) (λ_ _=>rfl)) Qe))) w4.2}
 let w2:Xf ?my Wq 1:={_,Qd (Zc (Xk Gs EE EF mx (Zw W (Qm (pv 0) rfl) (pv 2) (λ_ _=>rfl)) (Qa (Zw W (Qm (pv 0) rfl) (pv 1) (λ_ _=>rfl)) Qe))) w3.2}
 exists _,Qd (Z8 Gv rfl (Yx (Zw W (Qm (pv 0) rfl) (pv 1) (λ_ _=>rfl))) (Z6 3 nd)
   (Qh (Wt W (Qm (pv 0) rfl) (pv 3) (pv 2) rfl))) w2.2
 obtain⟨dx,o1⟩:=X.ob;have nl:n≠d.l:=Ye o1 X.le nofun;let aE:Nat->St->Hp->Prop:=λi O Q=>lJ (∃x3,O=[Ga (.ref n),Ga (jv a),Ga (jv k),x3,Ge,Ge,Ge]) (Q=zj J d.l (.dK (dS x.S λp=>jv (if p∈(x.mem a).take i then k else x.lead p))))
 refine⟨_,Xb,n,j,dx,_,_,Xb,o1,h.cl,h.members,Vb _,_,Xb,d.m,_,Xb,Xq X.me E,d.ml a,Xb,{_,Zb.of (X.ml a E)},Xh (K:=K) (a:=d.ml a) (xs:=(x.mem a).map jv)
  aE
  {{_,Xb},?_} (by rintro i O Q _ ⟨_,e⟩;rw[e];exact Zb.of (by rw[Qg (Ye (X.ml a E) X.le nofun)];exact X.ml a E)) ?_ ?_⟩
 .funext L
  by_cases m:L=d.l
  .subst m;rw[Qb,X.le];simp
  .rw[Qg m]
 .rintro i y O Q C ⟨⟨x3,rfl⟩,rfl⟩;rw[List.getElem?_map]at C;cases eq:(x.mem a)[i]? with
  |none=>rw[eq]at C;cases C
  |some p=>
   rw[eq]at C;cases C;have D:=mS p (List.mem_of_getElem? eq);have l:(zj J d.l (.dK (dS x.S λp=>jv (if p∈(x.mem a).take i then k else x.lead p)))) n=Ga (.ins j dx (Y9 d)):=by rw[Qg nl];exact o1
   have g:=Rp.k (k:=ki p) (v:=jv k) (@Qb J d.l (.dK (dS x.S λp=>jv (if p∈(x.mem a).take i then k else x.lead p)))) (by rw[Vi,Gz];ext);rw[Vz,nQ D]at g;exists _,Xb,_,Xb,n,j,dx,_,_,Xb,l,h.cl,h.W9,Yn _,_,Xb,d.l,_,Xb,g,{_,Xb};congr 2;refine Wu λo _=>?_;rw[List.take_add_one,eq];by_cases e:o=p
   .subst e;rw[Gn Xb,Gn (by simp)]
   .rw[Gh e];by_cases hm:o∈(x.mem a).take i
    .rw[Gn hm,Gn (List.mem_append_left _ hm)]
    .rw[Gh hm,Gh (by simp[hm,e])]
 rintro O Q ⟨⟨x3,rfl⟩,rfl⟩;rw[List.length_map,List.take_length];have R:=X.IW (Q9 x a k);have eL:(dS x.S λp=>jv (if p∈x.mem a then k else x.lead p))=dS x.S λp=>jv (Q9 x a k p):=rfl;rw[eL];have F1:Oc d x.S J (zj J d.l (.dK (dS x.S λp=>jv (Q9 x a k p)))):=Oc.zj (.inl Xb);generalize zj J d.l (.dK (dS x.S λp=>jv (Q9 x a k p)))=H1 at R F1⊢;obtain⟨am,aq⟩:=R.ob;exists _,Xb,n,j,am,_,_,Xb,aq,h.cl,h.members,Vb _,_,Xb,d.m,_,Xb,Xq R.me G,.inl {Xb,_,Zb.of (R.ml k G)},_,Xb,n,j,am,_,_,Xb,aq,h.cl,h.members,Vb _,_,Xb,d.m,_,Xb,Xq R.me E,d.ml k,d.ml a,_,_,Xb,Xb,R.ml k G,R.ml a E,small (by rw[List.length_map,List.length_map];show(x.mem k).length+(x.mem a).length<=_;ext);have S:=R.HZ G (x.mem k++x.mem a);have F2:Oc d x.S H1 (zj H1 (d.ml k) (.lst ((x.mem k++x.mem a).map jv))):=Oc.zj (.inr (.inr (.inr (.inr (.inr (.inr (.inr {k,G,.inl Xb})))))));have e2:((x.mem k).map jv++(x.mem a).map jv)=(x.mem k++x.mem a).map jv:=(List.map_append ..).symm;rw[e2];generalize zj H1 (d.ml k) (.lst ((x.mem k++x.mem a).map jv))=Q at S F2⊢;obtain⟨an,ar⟩:=S.ob;exists _,Xb,n,j,an,_,_,Xb,ar,h.cl,h.Qfm,Rc _,_,Xb,d.u,_,Xb,Xq S.us G,.inl {Xb,_,Zb.of (S.ul k G)},_,Xb,n,j,an,_,_,Xb,ar,h.cl,h.Qfm,Rc _,_,Xb,d.u,_,Xb,Xq S.us E,d.ul k,d.ul a,_,_,Xb,Xb,S.ul k G,S.ul a E,small (by rw[List.length_map,List.length_map];show(x.Xl k).length+(x.Xl a).length<=_;ext);have X3:=S.xt G (x.Xl k++x.Xl a);have F3:Oc d x.S Q (zj Q (d.ul k) (.lst ((x.Xl k++x.Xl a).map jv))):=Oc.zj (.inr (.inr (.inr (.inr (.inr (.inr (.inr {k,G,.inr Xb})))))));have e3:((x.Xl k).map jv++(x.Xl a).map jv)=(x.Xl k++x.Xl a).map jv:=(List.map_append ..).symm;rw[e3];generalize zj Q (d.ul k) (.lst ((x.Xl k++x.Xl a).map jv))=H3 at X3 F3⊢;have al:=(F1.trans F2).trans F3;refine{Gw _,λo ap=>?_};have s4:=Qf ap (.lst []);have X4:=X3.same s4;obtain⟨ax,aD⟩:=X4.ob;have T:J o=Ge:=al.there o ap;have ay:(λp=>if p=k then x.Xl k++x.Xl a else x.Xl p) a=x.Xl a:=Gh az;have ug:∀{r:Hp}{t':Fm->Option Nat}{aC:Nat},Z7 P w j r n d b aC {x with lead:=Q9 x a k,mem:=(λp=>if p=k then x.mem k++x.mem a else x.mem p),Xl:=(λp=>if p=k then x.Xl k++x.Xl a else x.Xl p),tab:=t'}->r (d.ul a)=Ga (.lst ((x.Xl a).map jv)):=λA=>by have:=A.ul a E;rw[this];show Ga (HO.lst (((λp=>if p=k then x.Xl k++x.Xl a else x.Xl p) a).map jv))=_;rw[ay]
 let aF:Nat->St->Hp->Prop:=λi O r=>ke λ(x5 x6:Option V)(B:List V)=>i8 (O=[Ga (.ref n),Ga (jv a),Ga (jv k),x3,Ga (.ref o),x5,x6]) (Z7 P w j r n d b (tb+i) {x with lead:=Q9 x a k,mem:=(λp=>if p=k then x.mem k++x.mem a else x.mem p),Xl:=(λp=>if p=k then x.Xl k++x.Xl a else x.Xl p),tab:=(zg (ρ:=Jl) (Zm (Yg b) (Zo b) (Q9 x a k)) ((x.Xl a).take i) x.tab []).1}) (Oc d x.S J r) (r o=Ga (.lst B)) (Paired (Rm r) B (zg (ρ:=Jl) (Zm (Yg b) (Zo b) (Q9 x a k)) ((x.Xl a).take i) x.tab []).2)
 refine⟨_,Xb,n,j,ax,_,_,Xb,aD,h.cl,h.Qfm,Rc _,_,Xb,d.u,_,Xb,Xq X4.us E,d.ul a,Xb,{_,Zb.of (ug X4)},Xh (K:=K) (a:=d.ul a) (xs:=(x.Xl a).map jv)
  aF
  {_,_,[],Xb,?_,al.trans (Oc.of s4),Qb,.nil} (by rintro i O r _ ⟨_,_,_,_,A,_⟩;exact Zb.of (ug A)) ?_ ?_⟩
 .exact X4
 .rintro i y O r C ⟨x5,x6,B,rfl,A,F5,N,Y⟩;rw[List.getElem?_map]at C;cases eq:(x.Xl a)[i]? with
  |none=>rw[eq]at C;cases C
  |some u=>
   rw[eq]at C;cases C;have ai:=uS u (List.mem_of_getElem? eq);have il:i<(x.Xl a).length:=(List.getElem?_eq_some_iff.mp eq).1;obtain⟨ag,ah⟩:=A.ob;obtain⟨aw,au,d2,d3⟩:=A.ta;have aH:B.length<=i:=by rw[Gr Y];have:=scan_len (ρ:=Jl) (ky:=Zm (Yg b) (Zo b) (Q9 x a k)) (l:=(x.Xl a).take i) (t:=x.tab) (f:=[]);rw[List.length_take]at this;simp at this;ext
   refine{_,Xb,n,j,ag,_,_,Xb,ah,h.cl,h.table,uZ _,{d.t,aw,Xb,au.at_},_,Xb,n,ag,_,Xb,ah,nB _,_,Xb,n,d,b,_,_,u,Xb,A,ae.lt u ai,λq hq=>ae.pts u ai q hq,by have:=ae.few u;ext,λc H6 l c6 av=>{_,Xb,?_}};have Y6:=A.same l;obtain⟨aa,D6,aG,af⟩:=Y6.ta;have kc:=av.key (ae.str u);have kk:Yf aa (Y1 (Zm (Yg b) (Zo b) (Q9 x a k) u))=((zg (ρ:=Jl) (Zm (Yg b) (Zo b) (Q9 x a k)) ((x.Xl a).take i) x.tab []).1 (Zm (Yg b) (Zo b) (Q9 x a k) u)).map jv:=af (Zm (Yg b) (Zo b) (Q9 x a k) u);have D:=C3 (ky:=Zm (Yg b) (Zo b) (Q9 x a k)) (t:=x.tab) eq;have rO:¬gu d x.S o:=λz=>by rcases X.own z with⟨_,e⟩|⟨_,e⟩|⟨_,e⟩|⟨_,e⟩<;>rw[T]at e<;>cases e
   refine{d.t,c,jv u,aa,_,Xb,Xb,D6,kc,by rw[Gz];ext,λv hv=>?_,λhn=>?_}
   ·
    rw[kk]at hv;cases ev:(zg (ρ:=Jl) (Zm (Yg b) (Zo b) (Q9 x a k)) ((x.Xl a).take i) x.tab []).1 (Zm (Yg b) (Zo b) (Q9 x a k) u)with
    |none=>rw[ev]at hv;cases hv
    |some I=>
     rw[ev]at hv;cases hv;rw[ev]at D;exists _,Xb,_,Xb,Xb,_,Xb;rw[kz];by_cases U:I=u
     .rw[Tc U];refine Zu {_,_,B,Xb,?_,F5.trans (Oc.of l),l _ _ N,?_}
      .rw[D];exact Y6.mono (by ext)
      .rw[D];simp only[Gn U];exact L2.Paired.Yb Y λ_ _ M=>M.Ql (Qp.of l)
     .rw[GQ U];refine Y0 ?_;refine{_,Xb,.inl {Xb,_,Zb.of (l _ _ N)},_,Xb,_,Xb,by show 3<=Gj;decide,λg ab=>?_};have s7:=Qf ab (.tup [jv u,jv I,.non]);exists o,B,.ref g,Xb,Xb,s7 _ _ (l _ _ N),(by rw[Gz];ext);have H:=l.trans s7;have Y7:=A.same H;have aj:=H _ _ N;have ad:Qp r (zj (zj H6 g (.tup [jv u,jv I,.non])) o (.lst (B++[.ref g]))):=λL xs e=>by rw[Qg (Ye e N nofun)];exact H _ _ e
      have ak:(zj (zj H6 g (.tup [jv u,jv I,.non])) o (.lst (B++[.ref g]))) g=Ga (.tup [jv u,jv I,.non]):=by rw[Qg (λz=>by rw[z,l _ _ N]at ab;cases ab),Qb]
      have Y8:Z7 P w j (zj (zj H6 g (.tup [jv u,jv I,.non])) o (.lst (B++[.ref g]))) n d b (tb+i) _:=Y7.keep (λL ac e m=>by
       rw[Qg λz=>?_]
       .exact e
       .subst z;rcases m with m|m|m
        .exact rO m
        .obtain⟨ws,Z,_⟩:=X.fo;rw[m,Z]at T;cases T
        .rw[m,o1]at T;cases T) (Zk λxs e=>by rw[aj]at e;cases e)
      exists _,_,_,Xb,?_,{λL ac e m=>?_,λL m=>?_},Qb
      .rw[D];exact Y8.mono (by ext)
      .rw[Qg (Qc e T)];exact H _ _ (F5.keep L ac e m)
      .by_cases e:L=o
       .subst e;exact T
       .rw[Qg e]at m;exact F5.there L (H.free m)
      .rw[D];simp only[Gh U];exact Yh (L2.Paired.Yb Y λ_ _ M=>M.Ql ad) (.cons {g,.non,Xb,ak,Xb} .nil)
   ·
    rw[kk]at hn;have ev:(zg (ρ:=Jl) (Zm (Yg b) (Zo b) (Q9 x a k)) ((x.Xl a).take i) x.tab []).1 (Zm (Yg b) (Zo b) (Q9 x a k) u)=Ge:=by
     cases ev:(zg (ρ:=Jl) (Zm (Yg b) (Zo b) (Q9 x a k)) ((x.Xl a).take i) x.tab []).1 (Zm (Yg b) (Zo b) (Q9 x a k) u)with
     |none=>rfl
     |some I=>rw[ev]at hn;cases hn
    rw[ev]at D;exists _,Xb,_,Xb,Xb,_,Xb;rw[kz,Tc rfl];have U:Yf aa (Y1 (Zm (Yg b) (Zo b) (Q9 x a k) u))=Ge:=by rw[kk];exact hn
    have Y8:=Y6.yt (kvs':=aa++[(Y1 (Zm (Yg b) (Zo b) (Q9 x a k) u),c,jv u)]) D6 (by rw[List.length_append,List.length_singleton];ext) (λp g=>by
     rcases List.mem_append.mp g with g|g
     .exact D6.keys p g
     .rw[List.mem_singleton]at g;subst g;exact kc) (t':=λH=>if H=Zm (Yg b) (Zo b) (Q9 x a k) u then Ga u else(zg (ρ:=Jl) (Zm (Yg b) (Zo b) (Q9 x a k)) ((x.Xl a).take i) x.tab []).1 H) (λH=>by
     rw[oF _ _ _ _ _ U];by_cases e:H=Zm (Yg b) (Zo b) (Q9 x a k) u
     .rw[Gn (by rw[e]),Gn e];rfl
     .rw[Gh (λz=>e (Je z)),Gh e];exact af H)
    have Z:o≠d.t:=λz=>rO (by rw[z];exact .inr (.inr (.inr (.inl Xb))));have ad:Qp r (zj H6 d.t (Vx P w d.t (aa++[(Y1 (Zm (Yg b) (Zo b) (Q9 x a k) u),c,jv u)]))):=λL xs e=>by rw[Qg (Ye (l _ _ e) D6.at_ nofun)];exact l _ _ e
    refine Zu {_,_,B,Xb,?_,F5.trans ((Oc.of l).trans (Oc.zj (.inr (.inr (.inr (.inl Xb)))))),?_,?_}
    .rw[D];exact Y8
    .rw[Qg Z];exact l _ _ N
    .rw[D];exact L2.Paired.Yb Y λ_ _ M=>M.Ql ad
 .rintro O r ⟨x5,x6,B,rfl,A,F5,N,Y⟩;rw[List.length_map,List.take_length]at A Y;exact{_,Xb,q o B r A F5 T N Y}
end
end K07
namespace Nt
theorem Xp{l S:List Nat}(nd:l.Nodup)(h:∀p∈l,p∈S):l.length<=S.length:=by
 induction l generalizing S with
 |nil=>simp
 |cons a r e=>rw[List.nodup_cons]at nd;have b:=h a (by simp);have:=e (S:=S.erase a) nd.2 λp c=>(List.mem_erase_of_ne (show p≠a fromλz=>nd.1 (by rw[<-z];exact c))).mpr (h p (by simp[c]));rw[List.length_erase_of_mem b]at this;have d:=List.length_pos_of_mem b;simp only[List.length_cons];ext
theorem sU{f:Nat->Nat}{g k:Nat}(a:g≠k):∀{S:List Nat},g∈S->k∈S->f g+f k<=(S.map f).sum
 |[],h,_=>by simp at h
 |x::r,d,e=>by
  simp only[List.map_cons,List.sum_cons];by_cases b:x=g
  .subst b;have:=Jw (f:=f) ((List.mem_cons.mp e).resolve_left (Gp a));lia
  .by_cases c:x=k
   .subst c;have:=Jw (f:=f) ((List.mem_cons.mp d).resolve_left a);lia
   .have:=sU (f:=f) a ((List.mem_cons.mp d).resolve_left (Gp b)) ((List.mem_cons.mp e).resolve_left (Gp c));lia
theorem gw.chS{f:Type}{S:List Nat}{d:List (Nat×Nat×f)}{Xg:Nat->Nat->Option Nat}{c:Nat->Option Nat}(F:gw S d Xg c):∀{p:Nat}{l:List Nat},Ch c p l->p∈S->∀q∈l,q∈S
 |_,_,.top _,b,q,a=>by simp at a;subst a;exact b
 |_,_,.step e h,b,q,a=>by
  rcases List.mem_cons.mp a with rfl|a
  .exact b
  .exact F.chS h (F.inS _ _ e).2 q a
theorem wA{W a:Type}(x:gB W a):cls x<=x.S.length:=List.countP_le_length
end Nt
namespace K07
open PySem L2 Sb Nt
variable{C:Gc}{fd:Tp}
inductive Oo(P:Gi)(w:Gu)(C:Gc)(vs:List V)(H:Hp)(Q:VK):Prop
 |mk (n:Gc) (A:Na) (fs:List Fm) (tb:Nat) (x:Nn) (c:Gc) (a:Nat) (b:Nat) (r:Option Jl) (pend:List Lk) (h0:vs=[.ref n,.ref c]) (h1:Z7 P w C H n A fs tb x) (h2:g8 fs x.S) (h3:Rm H (.ref c) (a,b,r)) (h4:Wc (Yg fs) (Zo fs) x (pend++[(a,b,r)])) (h5:x.lead a≠x.lead b) (h6:x.S.length<=10000) (h7:Ud x<=10000) (h8:x.links.length<=100000) (h9:tb+Ud x<=1000000) (h10:∀(lo hi:Nat)(cl:List Nat)(l:Gc)(es:List V)(H':Hp),((lo=a/\hi=b)\/(lo=b/\hi=a))->Ch x.up lo cl->Z7 P w C H' n A fs (tb+Ud x) (Yk (Yg fs) (Zo fs) x a b r lo hi cl).1->Oc A x.S H H'->H l=Ge->H' l=Ga (.lst es)->
  Paired (Rm H') es (Yk (Yg fs) (Zo fs) x a b r lo hi cl).2->Q (.ref l) H'):Oo P w C vs H Q
def uK(P:Gi)(w:Gu)(C:Gc):Sp:=λa H Q _=>Oo P w C a H Q
section
variable{P:Gi}{w:Gu}{K:Gd}{mg:GY->Option Value}{base:Heap}
theorem zp:Qw ["self","link","one","other"] ["self","link"] (Qk Xj):=by eq_refl
theorem AN{H:Hp}{a b:Gc}{o u:HO}(h:a≠b):zj (zj H a o) b u=zj (zj H b u) a o:=by
 funext c
 by_cases d:c=b
 .subst d;rw[Qb,Qg (Gp h),Qb]
 .rw[Qg d];by_cases e:c=a
  .subst e;rw[Qb,Qb]
  .rw[Qg e,Qg e,Qg d]
theorem Rq(x y:V)(a:List V):atI (x::y::a) (1:Int)=Ga y:=Qz (xs:=x::y::a) (j:=1) rfl
theorem iw(x y z:V)(a:List V):atI (x::y::z::a) (2:Int)=Ga z:=Qz (xs:=x::y::z::a) (j:=2) rfl
theorem C6{f fH fG:Gc}{aq ap:Tp}(F:Wj K "merge_link" "Net.merge_link" Xj f fd)(e:Um K mg C)(S:Ii mg)(mH:Yc K C "hang" fH)(GH:Qu P w K mg base Z5 1 fH aq ["self","low","high"] (qa P w C))(bH:zk K aq ["self","low","high"] [])
  (mG:Yc K C "give_over" fG)(GG:Qu P w K mg base Z5 2 fG ap ["self","gone","kept"] (nG P w C))(bG:zk K ap ["self","gone","kept"] []):
  Qu P w K mg base Z5 3 f fd ["self","link"] (uK P w C):=by
 refine F.ok zp (λD y an ac l=>?_) (λI d Z s y D an ac hr l=>?_)
 .obtain⟨n,d,fs,R,x,c,a,b,ak,aM,rfl,_⟩:=l;rfl
 obtain⟨n,d,fs,R,x,c,a,b,ak,aM,rfl,X,aH,hc,h,ay,hS,hT,hL,aQ,q⟩:=l;have m:=Jg hr;have az:Yd 1 _:=hr.mono (by lia);have aA:Yd 2 _:=hr.mono (by lia);have nd:=zp.nd;show∃t,Ik ?my _ t/\_;let w8:Xf ?my Xj 7:={_,Qh (Qv (Zf (pv 0) e.cl mG GG aA bG .nil Q5 (Qa (Zw m (Qm (pv 0) rfl) (pv 3) (λ_ _=>rfl)) (Qa (Zw m (Qm (pv 0) rfl) (pv 2) (λ_ _=>rfl)) Qe))))}
 let w7:Xf ?my Xj 6:={_,Qd (Zc (Zf (pv 0) e.cl mH GH az bH .nil Q5 (Qa (pv 3) (Qa (pv 2) Qe)))) w8.2}
 let w6:Xf ?my Xj 5:=⟨_,Qd (Zq (Qr lC (Qo Zg rfl S.len GX (Qa (Zw m (Qm (pv 0) rfl) (Zw m (Qm (pv 0) rfl) (pv 2) (λ_ _=>rfl)) (λ_ _=>rfl)) Qe)) (Qo Zg rfl S.len GX (Qa (Zw m (Qm (pv 0) rfl) (Zw m (Qm (pv 0) rfl) (pv 3) (λ_ _=>rfl)) (λ_ _=>rfl)) Qe)) (Q4 _))
   (Qd (Zc (Zf (pv 0) e.cl mH GH az bH .nil Q5 (Qa (pv 2) (Qa (pv 3) Qe))))
    (Qh (Qv (Zf (pv 0) e.cl mG GG aA bG .nil Q5 (Qa (Zw m (Qm (pv 0) rfl) (pv 2) (λ_ _=>rfl)) (Qa (Zw m (Qm (pv 0) rfl) (pv 3) (λ_ _=>rfl)) Qe)))))) Q6) w7.2⟩
 let w5:Xf ?my Xj 4:={_,Qd (Zc (Xk Gs Gy GJ Zr (Qm (pv 0) rfl) (Qa (pv 1) Qe))) w6.2}
 let w4:Xf ?my Xj 3:={_,Qd (Wt m (Qm (pv 0) rfl) (Za (Qa (pv 3) (Qa (pv 2) Qe))) (Qo Zg rfl S.len GX (Qa (Qm (pv 0) rfl) Qe)) rfl) w5.2}
 let w3:Xf ?my Xj 2:={_,Qd (Wt m (Qm (pv 0) rfl) (Za (Qa (pv 2) (Qa (pv 3) Qe))) (Qo Zg rfl S.len GX (Qa (Qm (pv 0) rfl) Qe)) rfl) w4.2}
 let w2:Xf ?my Xj 1:={_,Qd (Qt 3 nd (Qn Q3 (pv 1) Qj)) w3.2}
 exists _,Qd (Qt 2 nd (Qn Q3 (pv 1) Qj)) w2.2;obtain⟨B,Q⟩:=X.ob;obtain⟨c',rv,ec,ar,aP⟩:=id hc;cases ec;obtain⟨o,l1,l2⟩:=X.li;obtain⟨kv,U,a2,a3⟩:=X.at_;have ll:o.length=x.links.length:=Gr l2;obtain⟨W,Y,_⟩:=h.pnd a b ak (by simp);have lv:(V.int (o.length:Int))=jv x.links.length:=by rw[ll];rfl
 exists _,Xb,c,_,_,_,Xb,Xb,Zz.of ar,R8 _ _,_,Xb,c,_,_,_,Xb,Xb,Zz.of ar,Rq _ _ _;exists _,Xb,n,C,B,_,_,Xb,Q,e.cl,e.links,Jh _,d.k,o,Xb,.inl (Zb.of l1);rw[lv];refine{_,Xb,n,C,B,_,_,Xb,Q,e.cl,e.Qcm,mj _,_,Xb,_,Xb,by show 2<=Gj;decide,λG af=>?_};have s1:=Qf af (.tup [jv a,jv b]);exists d.a,_,Xb,Rp.t (k:=[ki a,ki b]) (s1 _ _ U) Qb (by rw[Gz];lia);have aN:G≠d.a:=λz=>by rw[z,U]at af;cases af
 have nA:n≠d.a:=Ye Q U nofun;have kA:d.k≠d.a:=Ye l1 U nofun;generalize av:Wm kv [ki a,ki b] (jv x.links.length)=N;have o2:(zj (zj y G (.tup [jv a,jv b])) d.a (.dT N)) n=Ga (.ins C B (Y9 d)):=by rw[Qg nA];exact s1 _ _ Q
 have aJ:(zj (zj y G (.tup [jv a,jv b])) d.a (.dT N)) d.k=Ga (.lst o):=by rw[Qg kA];exact s1 _ _ l1
 exists _,Xb,n,C,B,_,_,Xb,o2,e.cl,e.links,Jh _,d.k,o,Xb,.inl (Zb.of aJ);rw[lv];refine{_,Xb,n,C,B,_,_,Xb,o2,e.cl,e.Qcm,mj _,_,Xb,_,Xb,by show 2<=Gj;decide,λL M=>?_};have s2:=Qf M (.tup [jv b,jv a]);have ao:L≠d.a:=λz=>by rw[z,Qb]at M;cases M
 have aR:N.length<=2*x.links.length+1:=by rw[<-av];have:=X8 kv [ki a,ki b] (jv x.links.length);lia
 exists d.a,_,Xb,Rp.t (k:=[ki b,ki a]) (s2 _ _ Qb) Qb (by rw[Gz];lia);generalize aw:Wm N [ki b,ki a] (jv x.links.length)=kv2;have aK:kv2.length<=2*(x.links.length+1):=by rw[<-aw];have:=X8 N [ki b,ki a] (jv x.links.length);lia
 rw[AN (a:=d.a) (b:=L) (Gp ao),Vz];have aI:(zj y G (.tup [jv a,jv b])) L=Ge:=by rw[Qg ao]at M;exact M
 have E:Qx y (zj (zj y G (.tup [jv a,jv b])) L (.tup [jv b,jv a])):=s1.trans (Qf aI _);generalize aO:zj (zj y G (.tup [jv a,jv b])) L (.tup [jv b,jv a])=T at E;have o3:(zj T d.a (.dT kv2)) n=Ga (.ins C B (Y9 d)):=by rw[Qg nA];exact E _ _ Q
 have l3:(zj T d.a (.dT kv2)) d.k=Ga (.lst o):=by rw[Qg kA];exact E _ _ l1
 exists _,Xb,n,C,B,_,_,Xb,o3,e.cl,e.links,Jh _,.inl {Xb,_,Zb.of l3},_,Xb,d.k,o,_,Xb,Xb,l3,(by rw[Gz];lia);have Xa:=X.same E;have u:=Xa.Pt (kv2:=kv2) (ls':=o++[.ref c]) (lks:=x.links++[(a,b,ak)]) (lat':=gN x.Xg a b x.links.length) (by rw[List.length_append,List.length_singleton];exact aK) (λi D=>by
  rw[<-aw,oX,<-av,oX,a3];unfold gN;by_cases A:(i=a/\D=b)\/(i=b/\D=a)
  .rw[Gn A];rcases A with⟨rfl,rfl⟩|⟨rfl,rfl⟩
   .rw[Gn rfl];split<;>rfl
   .rw[Gn rfl];rfl
  .rw[Gh A,Gh (λz=>A (by simp only[List.cons.injEq,F0]at z;exact .inr {Jq z.1,Jq z.2})),Gh (λz=>A (by simp only[List.cons.injEq,F0]at z;exact .inl {Jq z.1,Jq z.2}))])
  (Yh (L2.Paired.Yb l2 λ_ _ l=>l.Ql (Qp.of E)) (.cons (hc.Ql (Qp.of E)) .nil))
 have Fb:Oc d x.S y (zj (zj T d.a (.dT kv2)) d.k (.lst (o++[.ref c]))):=((Oc.of E).trans (Oc.zj (.inr (.inr (.inr (.inr (.inr (.inl Xb)))))))).trans (Oc.zj (.inr (.inr (.inr (.inr (.inl Xb))))));generalize zj (zj T d.a (.dT kv2)) d.k (.lst (o++[.ref c]))=Hb at u Fb;obtain⟨H,J⟩:=u.ob;have aB:=h.ld a W;have aC:=h.ld b Y;have go:∀g j,((g=a/\j=b)\/(g=b/\j=a))->qa P w C [.ref n,jv g,jv j] Hb (λ_ r=>∃k,r n=Ga (.ins C k (Y9 d))/\r d.l=Ga (.dK (dS x.S λp=>jv (x.lead p)))/\nG P w C [.ref n,jv (x.lead g),jv (x.lead j)] r an ac) ac:=by
  intro g j aa;have ab:g∈x.S:=by rcases aa with⟨l,_⟩|⟨l,_⟩<;>rw[l]<;>assumption
  have au:j∈x.S:=by rcases aa with⟨_,l⟩|⟨_,l⟩<;>rw[l]<;>assumption
  have ax:x.lead g≠x.lead j:=by
   rcases aa with⟨A,h2⟩|⟨A,h2⟩<;>rw[A,h2]
   .exact ay
   .exact Gp ay
  have I:=h.ld g ab;have Z:=h.idem g ab;have kS:=h.ld j au;have kk:=h.idem j au;obtain⟨cl,ag⟩:=h.fst.chain g ab;refine{n,d,fs,R,_,g,j,cl,Xb,u,ag,h.fst.chS ag ab,by show x.S.length<=_;lia,λr X1 k1 t1=>?_};obtain⟨k,v⟩:=X1.ob;have F1:Oc d x.S Hb r:={λb aL aG hb=>k1 b aL aG (λz=>hb (z▸.inr (.inr (.inr (.inr (.inr (.inr (.inl Xb)))))))),t1};have aT:=Xp (h.Qlq _ I Z) λp D=>((h.Qcj _ I Z p).mp D).1;have aU:=Xp (h.Qlq _ kS kk) λp D=>((h.Qcj _ kS kk p).mp D).1;have am:=sU (f:=λp=>if x.lead p=p then(x.Xl p).length else 0) ax I kS;rw[Gn Z,Gn kk]at am;have am:(x.Xl (x.lead g)).length+(x.Xl (x.lead j)).length<=Ud x:=am;refine{k,v,X1.le,n,d,fs,R,_,x.lead g,x.lead j,Xb,X1,aH,I,kS,ax,λp D=>((h.Qcj _ I Z p).mp D).1,λp D=>h.Qjj _ I p D,by show x.S.length<=_;lia,?_,?_,?_,λai es H' aD FY lY rY pY=>?_}
  .show(x.mem (x.lead j)).length+(x.mem (x.lead g)).length<=_;lia
  .show(x.Xl (x.lead j)).length+(x.Xl (x.lead g)).length<=_;lia
  .show R+(x.Xl (x.lead g)).length<=_;lia
  .refine q g j cl ai es H' aa ag (Z7.mono ?_ aD) ((Fb.trans F1).trans FY) (Fb.there ai (t1 ai lY)) rY pY;show R+(x.Xl (x.lead g)).length<=_;lia
 have aE:=go a b (.inl ⟨Xb,Xb⟩);have aF:=go b a (.inr ⟨Xb,Xb⟩);exists _,Xb,n,C,H,_,_,Xb,J,e.cl,e.members,Vb _,_,Xb,n,C,H,_,_,Xb,J,e.cl,e.W9,Yn _,_,Xb,d.l,_,Xb,Xq u.le W,d.m,_,Xb,Xq u.me aB,_,_,Xb,.inl (Zb.of (u.ml _ aB)),_,Xb,n,C,H,_,_,Xb,J,e.cl,e.members,Vb _,_,Xb,n,C,H,_,_,Xb,J,e.cl,e.W9,Yn _,_,Xb,d.l,_,Xb,Xq u.le Y,d.m,_,Xb,Xq u.me aC,_,_,Xb,.inl (Zb.of (u.ml _ aC)),_,_,Xb,Xb,_,Xb;refine Vu (λ_=>?_) (λ_=>?_)
 .obtain⟨n',A',ae,al,x',aj,ah,ad,e1,e2,e3,e4,e5,e6⟩:=aE;refine{_,Xb,n,H,_,Xb,J,xj _,_,Xb,_,Xb,n',A',ae,al,x',aj,ah,ad,e1,e2,e3,e4,e5,λr y1 y2 y3=>?_};obtain⟨k,v,O,g1⟩:=e6 r y1 y2 y3;exact{_,Xb,n,k,_,Xb,v,rX _,_,Xb,n,C,k,_,_,Xb,v,e.cl,e.W9,Yn _,_,Xb,d.l,_,Xb,Xq O W,_,Xb,n,C,k,_,_,Xb,v,e.cl,e.W9,Yn _,_,Xb,d.l,_,Xb,Xq O Y,g1}
 .obtain⟨n',A',ae,al,x',aj,ah,ad,e1,e2,e3,e4,e5,e6⟩:=aF;refine{_,Xb,n,H,_,Xb,J,xj _,_,Xb,_,Xb,n',A',ae,al,x',aj,ah,ad,e1,e2,e3,e4,e5,λr y1 y2 y3=>?_};obtain⟨k,v,O,g1⟩:=e6 r y1 y2 y3;exact{_,Xb,n,k,_,Xb,v,rX _,_,Xb,n,C,k,_,_,Xb,v,e.cl,e.W9,Yn _,_,Xb,d.l,_,Xb,Xq O Y,_,Xb,n,C,k,_,_,Xb,v,e.cl,e.W9,Yn _,_,Xb,d.l,_,Xb,Xq O W,g1}
end
structure gI(fs:List Fm)(x x':Nn)(a b:Nat)(r:Option Jl)(pend:List Lk):Prop where
 inv:Wc (Yg fs) (Zo fs) x' pend
 S:x'.S=x.S
 Ud:Ud x'=Ud x
 eq:Cj x.S x'.lead pend a b
 mono:∀p∈x.S,∀q∈x.S,x.lead p=x.lead q->x'.lead p=x'.lead q
 snd:∀E,Ec (Yg fs) (Zo fs) x.S E->gF E x [(a,b,r)]->gF E x' pend
 rsn:∀y∈x'.links,y∈x.links\/y=(a,b,r)\/y.2.2=Ge
 pnd:∀y∈pend,y=(a,b,r)\/y.2.2=Ge
 less:cls x'+x'.links.length<=cls x+x.links.length
 more:x.links.length<=x'.links.length
inductive qI(P:Gi)(w:Gu)(C:Gc)(vs:List V)(H:Hp)(Q:VK):Prop
 |mk (n:Gc) (A:Na) (fs:List Fm) (tb:Nat) (x:Nn) (a:Nat) (b:Nat) (rv:V) (r:Option Jl) (h0:vs=[.ref n,jv a,jv b,rv]) (h1:Z7 P w C H n A fs tb x) (h2:g8 fs x.S) (h3:jh H rv r) (h4:r≠Ge) (h5:a∈x.S) (h6:b∈x.S) (h7:Wc (Yg fs) (Zo fs) x []) (h8:x.S.length<=10000) (h9:Ud x<=10000) (h10:cls x+x.links.length<=10000) (h11:tb+cls x*Ud x<=900000) (h12:∀(x':Nn)(H':Hp),Z7 P w C H' n A fs (tb+(x'.links.length - x.links.length)*Ud x) x'->gI fs x x' a b r []->Oc A x.S H H'->Q .non H'):qI P w C vs H Q
def nE(P:Gi)(w:Gu)(C:Gc):Sp:=λa H Q _=>qI P w C a H Q
theorem gI.start{c:List Fm}{x:Nn}{a b:Nat}{r:Option Jl}(I:Wc (Yg c) (Zo c) x [])(g:r≠Ge)(d:a∈x.S)(f:b∈x.S):gI c x x a b r [(a,b,r)]:=
 {I.rM (λ_ _ _ h=>by simp at h) λi j k h=>by simp at h;obtain⟨rfl,rfl,rfl⟩:=h;exact{d,f,λe=>absurd e g},Xb,Xb,.wait (r:=r) (by simp),λ_ _ _ _ e=>e,λE _ h=>h,λy h=>.inl h,λy h=>by simp at h;exact .inl h,Gm _,Gm _}
theorem gI.drop{k:List Fm}{x d:Nn}{a b f g:Nat}{r l:Option Jl}{c:List Lk}(M:gI k x d a b r (c++[(f,g,l)]))(e:d.lead f=d.lead g):gI k x d a b r c:=by
 obtain⟨i,j,_⟩:=M.inv.pnd f g l (by simp);rw[M.S]at i j;refine{M.inv.drop e,M.S,M.Ud,M.eq.map (λp n q o e=>.lead n o e) (λp q w m=>?_),M.mono,λE X h=>{(M.snd E X h).1,λu v s m=>(M.snd E X h).2 u v s (List.mem_append_left _ m)},M.rsn,λy t=>M.pnd y (List.mem_append_left _ t),M.less,M.more};rcases List.mem_append.mp m with m|m
 .exact .wait m
 .simp at m;obtain⟨rfl,rfl,rfl⟩:=m;exact .lead i j e
theorem gI.join{g:List Fm}{x c:Nn}{a b d f:Nat}{r l:Option Jl}{o:List Lk}(M:gI g x c a b r (o++[(d,f,l)]))(w:c.lead d≠c.lead f){k n:Nat}{t:List Nat}(j:(k=d/\n=f)\/(k=f/\n=d))(C:Ch c.up k t):
  gI g x (Yk (Yg g) (Zo g) c d f l k n t).1 a b r (o++(Yk (Yg g) (Zo g) c d f l k n t).2):=by
 obtain⟨F,G,_⟩:=M.inv.pnd d f l (by simp);obtain⟨J,L⟩:=M.inv.join w j C;obtain⟨K,H,N,O⟩:=M.inv.less w j C;have D:∀p∈c.S,∀q∈c.S,c.lead p=c.lead q->(Yk (Yg g) (Zo g) c d f l k n t).1.lead p=(Yk (Yg g) (Zo g) c d f l k n t).1.lead q:=λp z q A e=>by rw[L p z,L q A,e]
 have B:(Yk (Yg g) (Zo g) c d f l k n t).1.lead d=(Yk (Yg g) (Zo g) c d f l k n t).1.lead f:=by
  rw[L d F,L f G];rcases j with⟨rfl,rfl⟩|⟨rfl,rfl⟩
  .rw[Gn rfl];split<;>rfl
  .rw[Gn rfl];split<;>rfl
 exists J,M.S,H.trans M.Ud,M.eq.map (λp z q A e=>.lead z A (D p (M.S▸z) q (M.S▸A) e)) (λp q I m=>?_),λp z q A e=>D p (M.S▸z) q (M.S▸A) (M.mono p z q A e),λE X h=>gF.join (M.snd E X h) (by rw[M.S];exact X) M.inv w j C,λy i=>?_,λy i=>?_,?_
 .rcases List.mem_append.mp m with m|m
  .exact .wait (List.mem_append_left _ m)
  .simp at m;obtain⟨rfl,rfl,rfl⟩:=m;exact .lead (M.S▸F) (M.S▸G) B
 .have i:y∈c.links++[(d,f,l)]:=i;rcases List.mem_append.mp i with i|i
  .exact M.rsn y i
  .rw[List.mem_singleton]at i;subst i;exact .inr (M.pnd _ (by simp))
 .rcases List.mem_append.mp i with i|i
  .exact M.pnd y (List.mem_append_left _ i)
  .obtain⟨u,v,s⟩:=y;exact .inr (HL i)
 .have:=M.less;lia
 .have:=M.more;lia
section
variable{P:Gi}{w:Gu}{K:Gd}{mg:GY->Option Value}{base:Heap}
theorem qY:Qw ["self","one","other","reason","waiting","link"] ["self","one","other","reason"] (Qk nV):=by eq_refl
theorem Ib{c d:Type}{F:c->d->Prop}:∀{a:List c}{b:List d},Paired F a b->a≠[]->∃x y,a[a.length - 1]?=Ga x/\b=b.dropLast++[y]/\F x y/\Paired F a.dropLast b.dropLast
 |_,_,.nil,h=>absurd rfl h
 |_,_,.cons h .nil,_=>{_,_,Xb,Xb,h,.nil}
 |_,_,.cons h (.cons k t),_=>by
  obtain⟨x,y,e,f,g,i⟩:=Ib (.cons k t) (by simp);exists x,y,?_,?_,g
  .simpa using e
  .simp only[List.dropLast_cons_cons,List.cons_append];rw[<-f]
  .simp only[List.dropLast_cons_cons];exact .cons h i
theorem AY{ak fE fM:Gc}{al am:Tp}(F:Wj K "merge" "Net.merge" nV ak fd)(ah:Um K mg C)(mE:Yc K C "equal" fE)(GE:Qu P w K mg base Z5 1 fE al ["self","one","other"] (lM P w C))(bE:zk K al ["self","one","other"] [])
  (mM:Yc K C "merge_link" fM)(GM:Qu P w K mg base Z5 3 fM am ["self","link"] (uK P w C))(bM:zk K am ["self","link"] []):
  Qu P w K mg base Z5 4 ak fd ["self","one","other","reason"] (nE P w C):=by
 refine F.ok qY (λe H ag b o=>?_) (λh m p s H e ag b hr o=>?_)
 .obtain⟨n,m,j,tb,x,a,J,Z,ac,rfl,_⟩:=o;rfl
 obtain⟨n,m,j,tb,x,a,J,Z,ac,rfl,X,az,aG,aF,aS,bS,aw,hS,hT,aL,aP,q⟩:=o;have aD:Yd 1 _:=hr.mono (by lia);have aE:Yd 3 _:=hr.mono (by lia);have nd:=qY.nd;exists _,Qd (Qt 4 nd (Zl (Qa (Za (Qa (pv 1) (Qa (pv 2) (Qa (pv 3) Qe)))) Qe)))
  (Qh (Ws Gv (uU (pv 4) (λ_=>rfl))
   (Qd (Qt 5 nd (jr Gs DD DE iX (pv 4)))
   (Qh (Zq (Jy (Wb (Zf (pv 0) ah.cl mE GE aD bE .nil Q5 (Qa (Qn Q3 (pv 5) Qj) (Qa (Qn Q3 (pv 5) Qj) Qe)))))
    (Qh (Zc (Xk Gs EE EF mx (pv 4) (Qa (Zf (pv 0) ah.cl mM GM aE bM .nil Q5 (Qa (pv 5) Qe)) Qe)))) Q6)))))
 obtain⟨dx,o1⟩:=X.ob;refine{_,Xb,_,Xb,_,Xb,by show 3<=Gj;decide,λc U=>?_};have s1:=Qf U (.tup [jv a,jv J,Z]);refine{by show 1<=Gj;decide,λg aq=>?_};have s2:=Qf aq (.lst [.ref c]);have ad:=s1.trans s2;have u:H g=Ge:=s1.free aq;have wO:¬gu m x.S g:=X.OU u;have wf:g≠m.f:=λz=>by obtain⟨f,f1,_⟩:=X.fo;rw[z,f1]at u;cases u
 have wn:g≠n:=λz=>by rw[z,o1]at u;cases u
 dsimp only[Vn];let aH:Nat->St->Hp->Prop:=λau af l=>gV λ(x5:Option V)(f:List V)(d:Nn)(t:List Lk)=>gP (au=cls d*(Ud x+1)+t.length) (af=[Ga (.ref n),Ga (jv a),Ga (jv J),Ga Z,Ga (.ref g),x5]) (l g=Ga (.lst f)) (Paired (Rm l) f t) (Z7 P w C l n m j (tb+(d.links.length - x.links.length)*Ud x) d) (gI j x d a J ac t) (Oc m x.S H l) (t.length<=1+(cls x - cls d)*Ud x)
 refine pI aH
  {_,Ge,[.ref c],x,[(a,J,ac)],Xb,Xb,Qb,.cons {c,Z,Xb,s2 _ _ Qb,aG.Ql (Qp.of ad)} .nil,(X.same ad).mono (by lia),gI.start aw aF aS bS,Oc.of ad,by simp} ?_ (λaf H ag e b=>λo=>by obtain⟨av,e1,k,S,e3⟩:=o;exact{av,e1,k,S,b _ _ e3})
 rintro au af l ⟨x5,f,d,t,rfl,rfl,w2,p2,ai,i,F2,pl⟩;exists _,Xb,_,.inl {f,Zb.of w2,Xb};have aT:=Gr p2;have aK:=wA x;cases hw:f with
 |nil=>refine Zu ?_;subst hw;cases p2;exact q d l ai i F2
 |cons z zs=>
  refine Y0 ?_;have aC:f≠[]:=by rw[hw];simp
  obtain⟨av,⟨p,r,v⟩,e1,S,e3,e4⟩:=Ib p2 aC;have ap:t.length=t.dropLast.length+1:=by rw[S];simp
  obtain⟨L,aI,rfl,an,aA⟩:=e3;exists _,Xb,.inl {Xb,_,Zb.of w2},g,f,_,Xb,Xb,w2,e1;have aa:Qp l (zj l g (.lst f.dropLast)):=Zk λxs e=>by rw[w2]at e;cases e
  have y:=i.S;have A:Z7 P w C (zj l g (.lst f.dropLast)) n m j (tb+(d.links.length - x.links.length)*Ud x) d:=ai.keep (λh E e b=>by
   rw[Qg λz=>?_]
   .exact e
   .subst z;rcases b with b|b|b
    .rw[y]at b;exact wO b
    .exact wf b
    .exact wn b) aa
  have Q:Oc m x.S H (zj l g (.lst f.dropLast)):=⟨λh E e b=>by rw[Qg (Qc e u)];exact F2.keep h E e b,λh b=>by
   by_cases e:h=g
   .subst e;exact u
   .rw[Qg e]at b;exact F2.there h b⟩
  have O:(zj l g (.lst f.dropLast)) g=Ga (.lst f.dropLast):=Qb;have M:Paired (Rm (zj l g (.lst f.dropLast))) f.dropLast t.dropLast:=L2.Paired.Yb e4 λ_ _ o=>o.Ql aa;have l3:Rm (zj l g (.lst f.dropLast)) (.ref L) (p,r,v):=Rm.Ql aa ⟨L,aI,Xb,an,aA⟩;have ab:=aa _ _ an;generalize zj l g (.lst f.dropLast)=H3 at A Q O M l3 ab;rw[S]at i;generalize t.dropLast=N at i M ap;obtain⟨ax,ay,_⟩:=i.inv.pnd p r v (by simp);obtain⟨aj,o3⟩:=A.ob;exists _,Xb,n,aj,_,Xb,o3,oV _,_,Xb,L,_,_,_,Xb,Xb,Zz.of ab,R8 _ _,_,Xb,L,_,_,_,Xb,Xb,Zz.of ab,Rq _ _ _,n,m,j,_,d,p,r,Xb,A,ax,ay,_,Xb;by_cases D:d.lead p=d.lead r
  .rw[Tc D];refine Zu {_,?_,_,f.dropLast,d,N,Xb,Xb,O,M,A,i.drop D,Q,by lia};lia
  .rw[GQ D];refine Y0 ?_;have aB:d.links.length - x.links.length<=cls x:=by have:=i.less;lia
   have aO:(d.links.length - x.links.length)*Ud x<=cls x*Ud x:=Ed _ aB;have B:=i.Ud;have aR:f.dropLast.length=N.length:=Gr M;have aM:N.length+Ud x<=1000000:=by have:(cls x - cls d)*Ud x<=cls x*Ud x:=Ed _ (Nat.sub_le _ _);lia
   refine{_,Xb,.inl {Xb,_,Zb.of O},_,Xb,n,aj,_,Xb,o3,IF _,_,Xb,n,m,j,_,d,L,p,r,v,N,Xb,A,by rw[y];exact az,l3,i.inv,D,by rw[y];exact hS,by rw[B];exact hT,by have:=i.less;lia,by rw[B];lia,λY W R ar T I ao U Y4 G hl r4 p4=>?_};rw[y]at G;have w4:I g=Ga (.lst f.dropLast):=G.keep _ _ O wO;have aN:ar≠g:=λz=>by rw[z,O]at hl;cases hl
   obtain⟨j1,j2,j3,j4⟩:=i.inv.less D ao U;have aQ:T.length<=Ud x:=by rw[Gr p4,<-B];exact j3
   exists g,ar,f.dropLast,T,Xb,Xb,w4,r4,small (by lia);have aJ:Qp H3 I:=λh xs e=>G.keep h _ e (by rw[<-y];exact A.qu e);have ae:Qp I (zj I g (.lst (f.dropLast++T))):=Zk λxs e=>by rw[w4]at e;cases e
   have Y5:Z7 P w C (zj I g (.lst (f.dropLast++T))) n m j _ _:=Y4.keep (λh E e b=>by
    rw[Qg λz=>?_]
    .exact e
    .subst z;rcases b with b|b|b
     .have b:gu m d.S h:=b;rw[y]at b;exact wO b
     .exact wf b
     .exact wn b) ae
   have M5:=i.join D ao U;exists cls (Yk (Yg j) (Zo j) d p r v Y W R).1*(Ud x+1)+(N++(Yk (Yg j) (Zo j) d p r v Y W R).2).length,?_,_,_,_,_,Xb,Xb,Qb,Yh (L2.Paired.Yb M λ_ _ o=>(o.Ql aJ).Ql ae) (L2.Paired.Yb p4 λ_ _ o=>o.Ql ae),Y5.mono ?_,M5,{λh E e b=>?_,λh b=>?_}
   .rw[List.length_append,ap];have hj:cls (Yk (Yg j) (Zo j) d p r v Y W R).1+1<=cls d:=j1;have:=Ed (Ud x+1) hj;rw[El,FK]at this;rw[B]at j3;lia
   .rw[B,j4];have:=i.more;rw[show d.links.length+1 - x.links.length=(d.links.length - x.links.length)+1 by lia,El,FK];lia
   .rw[Qg (Qc e u)];exact G.keep h E (Q.keep h E e b) b
   .by_cases e:h=g
    .subst e;exact u
    .rw[Qg e]at b;exact Q.there h (G.there h b)
   .rw[List.length_append];have h1:cls x - cls d+1<=cls x - cls (Yk (Yg j) (Zo j) d p r v Y W R).1:=by have:=i.less;have:=i.more;lia
    have:=Ed (Ud x) h1;rw[El,FK]at this;rw[B]at j3;lia
end
inductive xW(P:Gi)(w:Gu)(C:Gc)(vs:List V)(H:Hp)(Q:VK):Prop
 |mk (n:Gc) (dx:Gc) (f:Gc) (ws:List V) (fs:List Fm) (h0:vs=[.ref n,.ref f]) (h1:H n=Ga (.ins C dx [])) (h2:H f=Ga (.lst ws)) (h3:Paired (Rn H) ws fs) (h4:∀(A:Na)(H':Hp),A.f=f->Z7 P w C H' n A fs 0 (fresh (Yg fs) (Zo fs) [])->(∀b o,H b=Ga o->b≠n->H' b=Ga o)->(∀b,gu A [] b->H b=Ge)->Q .non H'):xW P w C vs H Q
def ux(P:Gi)(w:Gu)(C:Gc):Sp:=λa H Q _=>xW P w C a H Q
section
variable{P:Gi}{w:Gu}{K:Gd}{mg:GY->Option Value}{base:Heap}
theorem JZ:Qw ["self","forms"] ["self","forms"] (Qk Wf):=by eq_refl
theorem PV{f0:Gc}(F:Wj K "__init__" "Net.__init__" Wf f0 fd)(A:Um K mg C):Qu P w K mg base Z5 1 f0 fd ["self","forms"] (ux P w C):=by
 refine F.ok JZ (λvs y ao aj U=>?_) (λaB aA aD s y vs ao aj hr U=>?_)
 .obtain⟨n,f,o,ws,fs,rfl,_⟩:=U;rfl
 obtain⟨n,f,o,ws,fs,rfl,hn,hf,az,q⟩:=U;show∃t,Ik ?my _ t/\_;let w8:Xf ?my Wf 7:={_,Qh (Yw (pv 0) U6 Xb)}
 let w7:Xf ?my Wf 6:={_,Qd (Yw (pv 0) ma Xb) w8.2}
 let w6:Xf ?my Wf 5:={_,Qd (Yw (pv 0) (Zl Qe) rfl) w7.2}
 let w5:Xf ?my Wf 4:={_,Qd (Yw (tv:=pO P w) (pv 0) Ip Xb) w6.2}
 let w4:Xf ?my Wf 3:={_,Qd (Yw (pv 0) U6 Xb) w5.2}
 let w3:Xf ?my Wf 2:={_,Qd (Yw (pv 0) U6 Xb) w4.2}
 let w2:Xf ?my Wf 1:={_,Qd (Yw (pv 0) U6 Xb) w3.2}
 exists _,Qd (Yw (pv 0) (pv 1) rfl) w2.2;have j:∀{u:Hp}{b a:Gc}{c X:HO}{ab:List (GY×V)},u b=Ga c->b≠n->u a=Ge->(zj (zj u a X) n (.ins C f ab)) b=Ga c:=λe d ha=>by rw[Qg d,Qg (Qc e ha)];exact e
 have Y:∀{u:Hp}{a:Gc}{X:HO}{ab:List (GY×V)}{c:HO},u n=Ga c->u a=Ge->(zj (zj u a X) n (.ins C f ab)) a=Ga X:=λe ha=>by rw[Qg (Gp (Qc e ha)),Qb]
 exists _,Xb,_,Xb,n,C,f,[],Xb,hn,A.cl,A.Qc7,(by show 0<1000;decide);have fn:o≠n:=Ye hf hn nofun;have g0:∀b c,y b=Ga c->b≠n->(zj y n (.ins C f (Yj "forms" (.ref o) []))) b=Ga c:=λb c e d=>by rw[Qg d];exact e
 have n0:(zj y n (.ins C f (Yj "forms" (.ref o) []))) n=Ga (.ins C f (Yj "forms" (.ref o) [])):=Qb;have t0:∀b,(zj y n (.ins C f (Yj "forms" (.ref o) []))) b=Ge->y b=Ge:=λb d=>by
  by_cases e:b=n
  .subst e;rw[Qb]at d;cases d
  .rw[Qg e]at d;exact d
 generalize zj y n (.ins C f (Yj "forms" (.ref o) []))=u at g0 n0 t0;have tt:∀{u:Hp}{a:Gc}{X:HO}{ab:List (GY×V)},(∀b,u b=Ge->y b=Ge)->∀b,(zj (zj u a X) n (.ins C f ab)) b=Ge->y b=Ge:=λU b d=>by
  refine U b ?_;by_cases e:b=n
  .subst e;rw[Qb]at d;cases d
  .rw[Qg e]at d
   rename_i u a X ab
   by_cases e2:b=a
   .subst e2;rw[Qb]at d;cases d
   .rw[Qg e2]at d;exact d
 intro h ae;exists _,Xb,n,C,f,_,Xb,(by rw[Qg (Qc n0 ae)];exact n0),A.cl,A.W9,(by show 1<1000;decide);have l1:=@Y u h (.dK []) (Yj "leads" (.ref h) (Yj "forms" (.ref o) [])) _ n0 ae;have n1:=@Qb (zj u h (.dK [])) n (.ins C f (Yj "leads" (.ref h) (Yj "forms" (.ref o) [])));have g1:∀b c,y b=Ga c->b≠n->_:=λb c e d=>@j u b h c (.dK []) (Yj "leads" (.ref h) (Yj "forms" (.ref o) [])) (g0 b c e d) d ae;have t1:=@tt u h (.dK []) (Yj "leads" (.ref h) (Yj "forms" (.ref o) [])) t0;have ln:h≠n:=Gp (Qc n0 ae);have aq:=t0 _ ae;generalize zj (zj u h (.dK [])) n (.ins C f (Yj "leads" (.ref h) (Yj "forms" (.ref o) [])))=Z at l1 n1 g1 t1⊢;intro l W;exists _,Xb,n,C,f,_,Xb,(by rw[Qg (Qc n1 W)];exact n1),A.cl,A.members,(by show 2<1000;decide);generalize ac:Yj "members" (.ref l) (Yj "leads" (.ref h) (Yj "forms" (.ref o) []))=S;have m2:=@Y Z l (.dK []) S _ n1 W;have n2:=@Qb (zj Z l (.dK [])) n (.ins C f S);have g2:∀b c,y b=Ga c->b≠n->_:=λb c e d=>@j Z b l c (.dK []) S (g1 b c e d) d W;have t2:=@tt Z l (.dK []) S t1;have mn:l≠n:=Gp (Qc n1 W);have ar:=t1 _ W;have l2:=@j Z h l _ (.dK []) S l1 ln W;have lm:h≠l:=Qc l1 W;generalize zj (zj Z l (.dK [])) n (.ins C f S)=T at m2 n2 g2 t2 l2⊢;intro m M;exists _,Xb,n,C,f,_,Xb,(by rw[Qg (Qc n2 M)];exact n2),A.cl,A.Qfm,(by rw[<-ac];show 3<1000;decide);generalize ad:Yj "users" (.ref m) S=N;have u3:=@Y T m (.dK []) N _ n2 M;have n3:=@Qb (zj T m (.dK [])) n (.ins C f N);have g3:∀b c,y b=Ga c->b≠n->_:=λb c e d=>@j T b m c (.dK []) N (g2 b c e d) d M;have t3:=@tt T m (.dK []) N t2;have un:m≠n:=Gp (Qc n2 M);have ax:=t2 _ M;have l3:=@j T h m _ (.dK []) N l2 ln M;have m3:=@j T l m _ (.dK []) N m2 mn M;have lu:h≠m:=Qc l2 M;have mu:l≠m:=Qc m2 M;generalize zj (zj T m (.dK [])) n (.ins C f N)=O at u3 n3 g3 t3 l3 m3⊢;intro g Q;exists _,Xb,n,C,f,_,Xb,(by rw[Qg (Qc n3 Q)];exact n3),A.cl,A.table,by rw[<-ad,<-ac];show 4<1000;decide,Gw _;generalize af:Yj "table" (.ref g) N=H;have d4:=@Y O g (Vx P w g []) H _ n3 Q;have n4:=@Qb (zj O g (Vx P w g [])) n (.ins C f H);have g4:∀b c,y b=Ga c->b≠n->_:=λb c e d=>@j O b g c (Vx P w g []) H (g3 b c e d) d Q;have t4:=@tt O g (Vx P w g []) H t3;have dn:g≠n:=Gp (Qc n3 Q);have aw:=t3 _ Q;have l4:=@j O h g _ (Vx P w g []) H l3 ln Q;have m4:=@j O l g _ (Vx P w g []) H m3 mn Q;have u4:=@j O m g _ (Vx P w g []) H u3 un Q;generalize zj (zj O g (Vx P w g [])) n (.ins C f H)=I at d4 n4 g4 t4 l4 m4 u4⊢;intro r L;exists _,Xb,n,C,f,_,Xb,(by rw[Qg (Qc n4 L)];exact n4),A.cl,A.links,(by rw[<-af,<-ad,<-ac];show 5<1000;decide);generalize ah:Yj "links" (.ref r) H=D;have k5:=@Y I r (.lst []) D _ n4 L;have n5:=@Qb (zj I r (.lst [])) n (.ins C f D);have g5:∀b c,y b=Ga c->b≠n->_:=λb c e d=>@j I b r c (.lst []) D (g4 b c e d) d L;have t5:=@tt I r (.lst []) D t4;have kn:r≠n:=Gp (Qc n4 L);have ag:=t4 _ L;have l5:=@j I h r _ (.lst []) D l4 ln L;have m5:=@j I l r _ (.lst []) D m4 mn L;have u5:=@j I m r _ (.lst []) D u4 un L;have d5:=@j I g r _ (.lst []) D d4 dn L;generalize zj (zj I r (.lst [])) n (.ins C f D)=E at k5 n5 g5 t5 l5 m5 u5 d5⊢;intro v G;exists _,Xb,n,C,f,_,Xb,(by rw[Qg (Qc n5 G)];exact n5),A.cl,A.Qcm,(by rw[<-ah,<-af,<-ad,<-ac];show 6<1000;decide);generalize ai:Yj "link_at" (.ref v) D=B;have a6:=@Y E v (.dT []) B _ n5 G;have n6:=@Qb (zj E v (.dT [])) n (.ins C f B);have g6:∀b c,y b=Ga c->b≠n->_:=λb c e d=>@j E b v c (.dT []) B (g5 b c e d) d G;have t6:=@tt E v (.dT []) B t5;have an:v≠n:=Gp (Qc n5 G);have ap:=t5 _ G;have l6:=@j E h v _ (.dT []) B l5 ln G;have m6:=@j E l v _ (.dT []) B m5 mn G;have u6:=@j E m v _ (.dT []) B u5 un G;have d6:=@j E g v _ (.dT []) B d5 dn G;have k6:=@j E r v _ (.dT []) B k5 kn G;generalize zj (zj E v (.dT [])) n (.ins C f B)=H6 at a6 n6 g6 t6 l6 m6 u6 d6 k6⊢;intro J R;exists _,Xb,n,C,f,_,Xb,(by rw[Qg (Qc n6 R)];exact n6),A.cl,A.above,(by rw[<-ai,<-ah,<-af,<-ad,<-ac];show 7<1000;decide);have ay:Yj "above" (.ref J) B=Y9 {o,h,l,m,g,r,v,J,λ_=>0,λ_=>0}:=by rw[<-ai,<-ah,<-af,<-ad,<-ac];rfl
 rw[ay];have v7:=@Y H6 J (.dK []) (Y9 {o,h,l,m,g,r,v,J,λ_=>0,λ_=>0}) _ n6 R;have g7:∀b c,y b=Ga c->b≠n->_:=λb c e d=>@j H6 b J c (.dK []) (Y9 {o,h,l,m,g,r,v,J,λ_=>0,λ_=>0}) (g6 b c e d) d R;have s7:∀{b c},H6 b=Ga c->b≠n->_:=λ{b c}e d=>@j H6 b J c (.dK []) (Y9 {o,h,l,m,g,r,v,J,λ_=>0,λ_=>0}) e d R;refine q {o,h,l,m,g,r,v,J,λ_=>0,λ_=>0} _ rfl ⟨⟨f,Qb⟩,{ws,g7 _ _ hf fn,L2.Paired.Yb az λ_ _ U=>U.Ql λb xs e=>g7 b _ e (Ye e hn nofun)},s7 l6 ln,s7 m6 mn,s7 u6 un,{[],{s7 d6 dn,(λp x=>nomatch x)},Gm _,λk=>rfl},{[],s7 k6 kn,.nil},{[],s7 a6 an,Gm _,λi aC=>rfl},v7,(λp x=>nomatch x),(λp x=>nomatch x),
  {lm,lu,Qc l6 R,mu,Qc m6 R,Qc u6 R,λz=>?_,(λp x=>nomatch x),(λp x=>nomatch x),(λp x=>nomatch x),(λp x=>nomatch x),(λp x=>nomatch x)}⟩ g7 (λb d=>?_)
 .have z:r=o:=z;rw[z,hf]at ag;cases ag
 .rcases d with rfl|rfl|rfl|rfl|rfl|rfl|rfl|⟨p,x,_⟩
  .exact aq
  .exact ar
  .exact ax
  .exact aw
  .exact ag
  .exact ap
  .exact t6 _ R
  .exact nomatch x
end
end K07
namespace Nt
theorem yA{a:Nat->List Nat}{M:Nat}(h:∀p,(a p).length<=M):∀(S:List Nat)(q:Nat),(Yy a S q).length<=S.length*M
 |[],q=>by simp[Yy]
 |p::S,q=>by have b:=yA h S q;have c:((a p).count q)<=(a p).length:=List.count_le_length;have d:=h p;unfold Yy at b⊢;rw[List.flatMap_cons,List.length_append,List.length_replicate,List.length_cons,El];lia
theorem Pe{a:Nat->List Nat}{S:List Nat}{p:Nat}(h:∀q∈S,p∉a q):Yy a S p=[]:=by unfold Yy;rw[List.flatMap_eq_nil_iff];intro q b;have:(a q).count p=0:=List.count_eq_zero.mpr (h q b);rw[this];rfl
theorem OX{l:List Nat}{i u q:Nat}(h:l[i]?=Ga u):(l.take (i+1)).count q=(l.take i).count q+if u=q then 1 else 0:=by
 rw[List.take_add_one,h,List.count_append];congr 1;simp only[Option.toList];rw[List.count_singleton];by_cases e:u=q
 .rw[Gn e];simp[e]
 .rw[Gh e];simp[e]
end Nt
namespace K07
open PySem L2 Sb Nt
variable{A:Na}{S:List Nat}{H:Hp}{C:Gc}
structure qj(fs:List Fm)(rk:Nat->Nat):Prop where
 str:∀p,Dc (Yg fs p)=Gg
 few:∀p,(Zo fs p).length<=100
 pts:∀p,p<fs.length->∀q∈Zo fs p,q<fs.length/\rk q<rk p
 inj:∀p q,p<fs.length->q<fs.length->Yg fs p=Yg fs q->Zo fs p=Zo fs q->p=q
 len:fs.length<=1000
structure Frs(P:Gi)(w:Gu)(C:Gc)(H:Hp)(n:Gc)(A:Na)(fs:List Fm)(S:List Nat):Prop where
 at_:Z7 P w C H n A fs S.length (fresh (Yg fs) (Zo fs) S)
 nd:S.Nodup
 cl:∀p∈S,∀q∈Zo fs p,q∈S
 lt:∀p∈S,p<fs.length
structure gU(A:Na)(S:List Nat)(A':Na)(S':List Nat)(H H':Hp):Prop where
 keep:∀b o,H b=Ga o->¬gu A S b->H' b=Ga o
 own:∀b,gu A' S' b->gu A S b\/H b=Ge
 there:∀b,H' b=Ge->H b=Ge
theorem gU.refl:gU A S A S H H:={λ_ _ e _=>e,λ_ h=>.inl h,λ_ h=>h}
theorem gU.trans{a c:Na}{g i:List Nat}{d f:Hp}(x:gU A S a g H d)(y:gU a g c i d f):gU A S c i H f:=by
 refine{λb o e h=>y.keep b o (x.keep b o e h) λz=>?_,λb h=>?_,λb h=>x.there b (y.there b h)}
 .rcases x.own b z with z|z
  .exact h z
  .rw[e]at z;cases z
 .rcases y.own b h with h|h
  .exact x.own b h
  .exact .inr (x.there b h)
def na(A:Na)(ml ul:Nat->Gc):Na:={A with ml:=ml,ul:=ul}
inductive tG(P:Gi)(w:Gu)(C:Gc)(k:Nat)(vs:List V)(H:Hp)(Q:VK):Prop
 |mk (n:Gc) (A:Na) (fs:List Fm) (rk:Nat->Nat) (S:List Nat) (p:Nat) (h0:vs=[.ref n,jv p]) (h1:Frs P w C H n A fs S) (h2:qj fs rk) (h3:p<fs.length) (h4:rk p<k) (h5:∀(S':List Nat)(ml ul:Nat->Gc)(H':Hp),Frs P w C H' n (na A ml ul) fs S'->(∀q∈S,q∈S')->p∈S'->(∀q∈S',q∈S\/rk q<=rk p)->gU A S (na A ml ul) S' H H'->Q .non H'):tG P w C k vs H Q
def jn(P:Gi)(w:Gu)(C:Gc)(k:Nat):Sp:=λa H Q _=>tG P w C k a H Q
section
variable{P:Gi}{w:Gu}{K:Gd}{mg:GY->Option Value}{base:Heap}
theorem v5:Qw ["self","place","part"] ["self","place"] (Qk W0):=by eq_refl
theorem CQ{P:Gi}{w:Gu}{n:Gc}{g:List Fm}{p:Nat}{m0 u0:Gc}(X:Z7 P w C H n A g S.length (fresh (Yg g) (Zo g) S))(hp:p∉S)(hm:H m0=Ge)(hu:H u0=Ge)(t:m0≠u0)(x:Yy (Zo g) S p=[]):
  Z7 P w C (zj (zj (zj (zj (zj (zj H A.l (.dK (dS (S++[p]) λq=>jv q))) m0 (.lst [jv p])) A.m (.dK (dS (S++[p]) λq=>.ref (if q=p then m0 else A.ml q)))) u0 (.lst [])) A.u (.dK (dS (S++[p]) λq=>.ref (if q=p then u0 else A.ul q)))) A.v (.dK (dS (S++[p]) λ_=>.non)))
   n (na A (λq=>if q=p then m0 else A.ml q) (λq=>if q=p then u0 else A.ul q)) g S.length {fresh (Yg g) (Zo g) (S++[p])with Xl:=Yy (Zo g) S,tab:=iz (Yg g) (Zo g) S}:=by
 obtain⟨V,o1⟩:=X.ob;obtain⟨ws,B,W⟩:=X.fo;obtain⟨i,D,T,U⟩:=X.ta;obtain⟨ls,E,l2⟩:=X.li;obtain⟨kv,Q,R⟩:=X.at_;have j:∀{b o},H b=Ga o->b≠m0:=λe=>Qc e hm;have k:∀{b o},H b=Ga o->b≠u0:=λe=>Qc e hu;have u:∀{b o},H b=Ga o->b≠A.l->b≠A.m->b≠A.u->b≠A.v->(zj (zj (zj (zj (zj (zj H A.l (.dK (dS (S++[p]) λq=>jv q))) m0 (.lst [jv p])) A.m (.dK (dS (S++[p]) λq=>.ref (if q=p then m0 else A.ml q)))) u0 (.lst [])) A.u (.dK (dS (S++[p]) λq=>.ref (if q=p then u0 else A.ul q)))) A.v (.dK (dS (S++[p]) λ_=>.non))) b=Ga o:=λe m s Y Z=>by rw[Qg Z,Qg Y,Qg (k e),Qg s,Qg (j e),Qg m];exact e
 have y:∀{b o},H b=Ga o->(∀i,o≠.dK i)->b≠A.l/\b≠A.m/\b≠A.u/\b≠A.v:=λe h=>{Ye e X.le (h _),Ye e X.me (h _),Ye e X.us (h _),Ye e X.ab (h _)};have l:∀{b o},H b=Ga o->(∀i,o≠.dK i)->_:=λ{b o}e h=>u e (y e h).1 (y e h).2.1 (y e h).2.2.1 (y e h).2.2.2;have K:Qp H _:=λb xs e=>l e (λ_ z=>nomatch z);have F:=j X.le;have I:=j X.me;have L:=j X.us;have N:=j X.ab;have G:=k X.le;have J:=k X.me;have M:=k X.us;have O:=k X.ab;have f:∀q∈S,q≠p:=λq a z=>hp (z▸a);refine{{V,l o1 (λ_ z=>nomatch z)},{ws,l B (λ_ z=>nomatch z),L2.Paired.Yb W λ_ _ h=>h.Ql K},?_,?_,?_,{i,{l D.at_ (λ_ z=>nomatch z),Q8 K D.keys},T,U},{ls,l E (λ_ z=>nomatch z),L2.Paired.Yb l2 λ_ _ h=>h.Ql K},{kv,l Q (λ_ z=>nomatch z),R},Qb,λq a=>?_,λq a=>?_,{X.ap.lm,X.ap.lu,X.ap.lv,X.ap.mu,X.ap.mv,X.ap.uv,X.ap.kf,λq a r v=>?_,λq a r v=>?_,λq a r v=>?_,λq a=>?_,λq a=>?_}}
 .show(zj _ A.v _) A.l=Ga (HO.dK (dS (S++[p]) λq=>jv q));rw[Qg X.ap.lv,Qg X.ap.lu,Qg G,Qg X.ap.lm,Qg F,Qb]
 .show(zj _ A.v _) A.m=Ga (HO.dK (dS (S++[p]) λq=>.ref (if q=p then m0 else A.ml q)));rw[Qg X.ap.mv,Qg X.ap.mu,Qg J,Qb]
 .show(zj _ A.v _) A.u=Ga (HO.dK (dS (S++[p]) λq=>.ref (if q=p then u0 else A.ul q)));rw[Qg X.ap.uv,Qb]
 .show(zj _ A.v _) (if q=p then m0 else A.ml q)=Ga (.lst [jv q]);rcases List.mem_append.mp a with a|a
  .rw[Gh (f q a)];exact l (X.ml q a) (λ_ z=>nomatch z)
  .have:q=p:=by simpa using a
   subst this;rw[Gn Xb,Qg (Gp N),Qg (Gp L),Qg t,Qg (Gp I),Qb]
 .show(zj _ A.v _) (if q=p then u0 else A.ul q)=Ga (.lst ((Yy (Zo g) S q).map jv));rcases List.mem_append.mp a with a|a
  .rw[Gh (f q a)];exact l (X.ul q a) (λ_ z=>nomatch z)
  .have:q=p:=by simpa using a
   subst this;rw[Gn Xb,x,Qg (Gp O),Qg (Gp M),Qb];rfl
 .show(if q=p then m0 else A.ml q)=(if r=p then m0 else A.ml r)->q=r;rcases List.mem_append.mp a with c|c<;>rcases List.mem_append.mp v with d|d
  .rw[Gh (f q c),Gh (f r d)];exact X.ap.mm q c r d
  .have:r=p:=by simpa using d
   subst this;rw[Gh (f q c),Gn rfl];intro z;exact absurd z (j (X.ml q c))
  .have:q=p:=by simpa using c
   subst this;rw[Gh (f r d),Gn rfl];intro z;exact absurd z.symm (j (X.ml r d))
  .intro _;have m:q=p:=by simpa using c
   have s:r=p:=by simpa using d
   rw[m,s]
 .show(if q=p then u0 else A.ul q)=(if r=p then u0 else A.ul r)->q=r;rcases List.mem_append.mp a with c|c<;>rcases List.mem_append.mp v with d|d
  .rw[Gh (f q c),Gh (f r d)];exact X.ap.uu q c r d
  .have:r=p:=by simpa using d
   subst this;rw[Gh (f q c),Gn rfl];intro z;exact absurd z (k (X.ul q c))
  .have:q=p:=by simpa using c
   subst this;rw[Gh (f r d),Gn rfl];intro z;exact absurd z.symm (k (X.ul r d))
  .intro _;have m:q=p:=by simpa using c
   have s:r=p:=by simpa using d
   rw[m,s]
 .show(if q=p then m0 else A.ml q)≠(if r=p then u0 else A.ul r);rcases List.mem_append.mp a with c|c<;>rcases List.mem_append.mp v with d|d
  .rw[Gh (f q c),Gh (f r d)];exact X.ap.mul q c r d
  .have:r=p:=by simpa using d
   subst this;rw[Gh (f q c),Gn rfl];exact k (X.ml q c)
  .have:q=p:=by simpa using c
   subst this;rw[Gh (f r d),Gn rfl];exact Gp (j (X.ul r d))
  .have m:q=p:=by simpa using c
   have s:r=p:=by simpa using d
   rw[Gn m,Gn s];exact t
 .show(if q=p then m0 else A.ml q)≠A.k/\(if q=p then m0 else A.ml q)≠A.f;rcases List.mem_append.mp a with a|a
  .rw[Gh (f q a)];exact X.ap.mkf q a
  .have:q=p:=by simpa using a
   rw[Gn this];exact{Gp (j E),Gp (j B)}
 .show(if q=p then u0 else A.ul q)≠A.k/\(if q=p then u0 else A.ul q)≠A.f;rcases List.mem_append.mp a with a|a
  .rw[Gh (f q a)];exact X.ap.ukf q a
  .have:q=p:=by simpa using a
   rw[Gn this];exact{Gp (k E),Gp (k B)}
end
section
variable{P:Gi}{w:Gu}{K:Gd}{mg:GY->Option Value}{base:Heap}
theorem Z0{b c:Gc}{o:HO}(h:zj H b o c=Ge):H c=Ge:=by
 by_cases e:c=b
 .subst e;rw[Qb]at h;cases h
 .rw[Qg e]at h;exact h
theorem Qi{b c:Gc}{o u:HO}(e:H c=Ga u)(h:c≠b):zj H b o c=Ga u:=by rw[Qg h];exact e
theorem JN{k:Nat}{af fK:Gc}{fd av:Tp}(F:Wj K "take_in" "Net.take_in" W0 af fd)(o:Um K mg C)(mT:Yc K C "take_in" af)(bT:zk K fd ["self","place"] [])(aD:Qu P w K mg base Z5 (k+1) af fd ["self","place"] (jn P w C k))
  (mK:Yc K C "key_of" fK)(GK:Qu P w K mg base Z5 1 fK av ["self","place"] (kI P w C))(bK:zk K av ["self","place"] []):Qu P w K mg base Z5 (k+2) af fd ["self","place"] (jn P w C (k+1)):=by
 refine F.ok v5 (λU aa Q m b=>?_) (λaq f ar s aa U Q m l b=>?_)
 .obtain⟨n,f,e,rk,S,p,rfl,_⟩:=b;rfl
 obtain⟨n,f,e,rk,S,p,rfl,X,T,M,hk,q⟩:=b;have G:=Jg l;have aO:=l.units;have aN:Yd 1 _:=l.mono (by ext);have nd:=v5.nd;show∃t,Ik ?my _ t/\_;let w8:Xf ?my W0 7:={_,Qh (Oj (pv 1) (jk (Qm (pv 0) rfl) (Zf (pv 0) o.cl mK GK aN bK .nil Q5 (Qa (pv 1) Qe)) (jd aO)))}
 let w7:Xf ?my W0 6:=⟨_,Qd (Z8 Gv rfl (V4 (Qn Q3 (Qn Ze (Qm (pv 0) rfl) (pv 1)) Qj)) (Z6 2 nd)
   (Qh (Zc (Xk Gs Gy GJ Zr (Zw G (Qm (pv 0) rfl) (pv 2) (λ_ _=>rfl)) (Qa (pv 1) Qe))))) w8.2⟩
 let w6:Xf ?my W0 5:={_,Qd (Wt G (Qm (pv 0) rfl) (pv 1) Ux Xb) w7.2}
 let w5:Xf ?my W0 4:={_,Qd (Wt G (Qm (pv 0) rfl) (pv 1) (Zl Qe) rfl) w6.2}
 let w4:Xf ?my W0 3:={_,Qd (Wt G (Qm (pv 0) rfl) (pv 1) (Zl (Qa (pv 1) Qe)) rfl) w5.2}
 let w3:Xf ?my W0 2:={_,Qd (Wt G (Qm (pv 0) rfl) (pv 1) (pv 1) rfl) w4.2}
 let w2:Xf ?my W0 1:=⟨_,Qd (Z8 Gv rfl (V4 (Qn Q3 (Qn Ze (Qm (pv 0) rfl) (pv 1)) Qj)) (Z6 2 nd)
   (Qh (Zc (Zf (pv 0) o.cl mT aD l bT .nil Q5 (Qa (pv 2) Qe))))) w3.2⟩
 exists _,Qd (Zq (R7 (oi G (pv 1) (Qm (pv 0) rfl))) (Qh Pn) Q6) w2.2;obtain⟨dx,o1⟩:=X.at_.ob;have a8:S.length<=e.length:=Xp (S:=List.range e.length) X.nd (λa l=>List.mem_range.mpr (X.lt a l))|>λb=>by rw[List.length_range]at b;exact b
 have a6:=T.len;have gl:Wn aa f.l (jv p) (Yt (dS S λa=>jv a) (ki p)):=Wn.k (k:=ki p) X.at_.le;exists _,Xb,_,Xb,n,C,dx,_,_,Xb,o1,o.cl,o.W9,Yn _,f.l,_,Xb,gl,_,Xb;rw[sZ];by_cases ag:p∈S
 .rw[Tc ag];refine Y0 ?_;exact q S f.ml f.ul aa X (λ_ b=>b) ag (λa b=>.inl b) gU.refl
 rw[GQ ag];refine Zu ?_;obtain⟨ws,f1,f2⟩:=X.at_.fo;have hw:p<ws.length:=by rw[Gr f2];exact M
 obtain⟨y,hy,c,B,ec,H,A⟩:=Qy f2 (List.getElem?_eq_getElem hw);rw[js M]at hy;cases hy;have a5:=T.few p;let aV:Nat->St->Hp->Prop:=λi I v=>gV λ(x2:Option V)(d:List Nat)(x r:Nat->Gc)=>jF (I=[Ga (.ref n),Ga (jv p),x2]) (Frs P w C v n (na f x r) e d) (∀a∈S,a∈d) (∀a∈(Zo e p).take i,a∈d) (∀a∈d,a∈S\/rk a<rk p) (gU f S (na f x r) d aa v)
 refine⟨_,Xb,n,C,dx,_,_,Xb,o1,o.cl,o.Qc7,U5 _,_,Xb,f.f,ws,_,_,Xb,Xb,Zb.of f1,Qz (List.getElem?_eq_getElem hw),c,_,_,_,ec,Xb,Zz.of H,Rq _ _ _,B,Xb,{_,Zz.of A},oq (K:=K) (a:=B) (xs:=(Zo e p).map jv)
  aV
  {_,S,f.ml,f.ul,Xb,X,λ_ b=>b,by simp,λa b=>.inl b,gU.refl} (by rintro i I v _ ⟨_,_,_,_,_,_,_,_,_,F2⟩;exact Zz.of (F2.keep _ _ A (X.at_.qu A))) ?_ ?_⟩
 .rintro i y I v D ⟨x2,d,x,r,rfl,h,sub,done,ai,F2⟩;rw[List.getElem?_map]at D;cases eq:(Zo e p)[i]? with
  |none=>rw[eq]at D;cases D
  |some a=>
   rw[eq]at D;cases D;obtain⟨rl,rr⟩:=T.pts p M a (List.mem_of_getElem? eq);obtain⟨L,N⟩:=h.at_.ob;refine{_,Xb,n,L,_,Xb,N,oj _,_,Xb,n,na f x r,e,rk,d,a,Xb,h,T,rl,by ext,λS3 aj al H3 X3 Q r3 ak U=>?_};refine{_,S3,aj,al,Xb,X3,λt m=>Q t (sub t m),λt m=>?_,λt m=>?_,F2.trans U}
   .rw[List.take_add_one,eq]at m;rcases List.mem_append.mp m with m|m
    .exact Q t (done t m)
    .have:t=a:=by simpa using m
     rw[this];exact r3
   .rcases ak t m with b|b
    .exact ai t b
    .exact .inr (by ext)
 rintro I v ⟨x2,d,x,r,rfl,h,sub,done,ai,F2⟩;rw[List.length_map,List.take_length]at done;have O:p∉d:=λz=>by
  rcases ai p z with b|b
  .exact ag b
  .ext
 have a7:d.length<=1000:=by have:=Xp (S:=List.range e.length) h.nd (λa l=>List.mem_range.mpr (h.lt a l));rw[List.length_range]at this;ext
 have aM:Yy (Zo e) d p=[]:=Pe λa l z=>O (h.cl a l p z);obtain⟨L,N⟩:=h.at_.ob;have aL:(dS d λa=>jv a).length<Gj:=by rw[Vi,Gz];ext
 have aP:v f.l=Ga (.dK (dS d λa=>jv a)):=h.at_.le;have aQ:v f.m=Ga (.dK (dS d λa=>.ref (x a))):=h.at_.me;have aZ:v f.u=Ga (.dK (dS d λa=>.ref (r a))):=h.at_.us;have aE:v f.v=Ga (.dK (dS d λ_=>.non)):=h.at_.ab;have k1:=Rp.k (k:=ki p) (v:=jv p) aP aL;rw[ja O]at k1;have e1:(dS (d++[p]) λa=>if a=p then jv p else jv a)=dS (d++[p]) λa=>jv a:=Wu λa _=>by
  by_cases b:a=p
  .rw[Gn b,b]
  .rw[Gh b]
 rw[e1]at k1;exists _,Xb,_,Xb,n,C,L,_,_,Xb,N,o.cl,o.W9,Yn _,_,Xb,f.l,_,Xb,k1;have nl:n≠f.l:=Ye N h.at_.le nofun;have o3:(zj v f.l (.dK (dS (d++[p]) λa=>jv a))) n=Ga (.ins C L (Y9 f)):=by rw[Qg nl];exact N
 refine{_,Xb,by show 1<=Gj;decide,λm0 ab=>?_};have s3:=Qf ab (.lst [jv p]);have ap:v m0=Ge:=by
  by_cases b:m0=f.l
  .subst b;rw[Qb]at ab;cases ab
  .rw[Qg b]at ab;exact ab
 have aR:(zj v f.l (.dK (dS (d++[p]) λa=>jv a))) f.m=Ga (.dK (dS d λa=>.ref (x a))):=Qi aQ (Gp h.at_.ap.lm);have k2:=Rp.k (k:=ki p) (v:=.ref m0) (s3 _ _ aR) (by rw[Vi,Gz];ext);rw[ja O]at k2;have e2:(dS (d++[p]) λa=>if a=p then V.ref m0 else .ref (x a))=dS (d++[p]) λa=>.ref (if a=p then m0 else x a):=Wu λa _=>by split<;>rfl
 rw[e2]at k2;exists _,Xb,n,C,L,_,_,Xb,s3 _ _ o3,o.cl,o.members,Vb _,_,Xb,f.m,_,Xb,k2;have aT:n≠f.m:=Ye N h.at_.me nofun;generalize an:zj (zj (zj v f.l (.dK (dS (d++[p]) λa=>jv a))) m0 (.lst [jv p])) f.m (.dK (dS (d++[p]) λa=>.ref (if a=p then m0 else x a)))=R;have cA:∀{j ad},v j=Ga ad->j≠f.l->j≠f.m->R j=Ga ad:=λB H A=>by rw[<-an,Qg A,Qg (Qc B ap),Qg H];exact B
 have cN:∀{j},R j=Ge->v j=Ge/\j≠m0:=λ{j}b=>by
  rw[<-an]at b;by_cases H:j=f.m
  .subst H;rw[Qb]at b;cases b
  .rw[Qg H]at b;by_cases A:j=m0
   .subst A;rw[Qb]at b;cases b
   .rw[Qg A]at b;by_cases m:j=f.l
    .subst m;rw[Qb]at b;cases b
    .rw[Qg m]at b;exact⟨b,A⟩
 have o4:=cA N nl aT;refine{Gw _,λu0 ax=>?_};obtain⟨aB,aX⟩:=cN ax;have Y:=Qf ax (.lst []);have aY:=cA aZ (Gp h.at_.ap.lu) (Gp h.at_.ap.mu);have k3:=Rp.k (k:=ki p) (v:=.ref u0) (Y _ _ aY) (by rw[Vi,Gz];ext);rw[ja O]at k3;have e3:(dS (d++[p]) λa=>if a=p then V.ref u0 else .ref (r a))=dS (d++[p]) λa=>.ref (if a=p then u0 else r a):=Wu λa _=>by split<;>rfl
 rw[e3]at k3;exists _,Xb,n,C,L,_,_,Xb,Y _ _ o4,o.cl,o.Qfm,Rc _,_,Xb,f.u,_,Xb,k3;have nu:n≠f.u:=Ye N h.at_.us nofun;have o5:(zj (zj R u0 (.lst [])) f.u (.dK (dS (d++[p]) λa=>.ref (if a=p then u0 else r a)))) n=Ga (.ins C L (Y9 f)):=by rw[Qg nu];exact Y _ _ o4
 have a0:(zj (zj R u0 (.lst [])) f.u (.dK (dS (d++[p]) λa=>.ref (if a=p then u0 else r a)))) f.v=Ga (.dK (dS d λ_=>.non)):=by exact Qi (Y _ _ (cA aE (Gp h.at_.ap.lv) (Gp h.at_.ap.mv))) (Gp h.at_.ap.uv)
 have k4:=Rp.k (k:=ki p) (v:=.non) a0 (by rw[Vi,Gz];ext);rw[ja O]at k4;have e4:(dS (d++[p]) λa=>if a=p then V.non else .non)=dS (d++[p]) λ_=>.non:=Wu λa _=>by split<;>rfl
 rw[e4]at k4;exists _,Xb,n,C,L,_,_,Xb,o5,o.cl,o.above,Ov _,_,Xb,f.v,_,Xb,k4;have J:=CQ (m0:=m0) (u0:=u0) h.at_ O ap aB (Gp aX) aM;have FY:gU (na f x r) d (na f (λa=>if a=p then m0 else x a) (λa=>if a=p then u0 else r a)) (d++[p]) v (zj (zj (zj R u0 (.lst [])) f.u (.dK (dS (d++[p]) λa=>.ref (if a=p then u0 else r a)))) f.v (.dK (dS (d++[p]) λ_=>.non))):=by
  refine{λj ad B g=>?_,λj g=>?_,λj g=>?_}
  .rw[Qg (λz=>g (by rw[z];exact .inr (.inr (.inr (.inr (.inr (.inr (.inl Xb)))))))),Qg (λz=>g (by rw[z];exact .inr (.inr (.inl Xb))))];exact Y _ _ (cA B (λz=>g (by rw[z];exact .inl Xb)) (λz=>g (by rw[z];exact .inr (.inl Xb))))
  .rcases g with b|b|b|b|b|b|b|⟨a,U,b⟩
   .exact .inl (.inl b)
   .exact .inl (.inr (.inl b))
   .exact .inl (.inr (.inr (.inl b)))
   .exact .inl (.inr (.inr (.inr (.inl b))))
   .exact .inl (.inr (.inr (.inr (.inr (.inl b)))))
   .exact .inl (.inr (.inr (.inr (.inr (.inr (.inl b))))))
   .exact .inl (.inr (.inr (.inr (.inr (.inr (.inr (.inl b)))))))
   .have b:j=(if a=p then m0 else x a)\/j=(if a=p then u0 else r a):=b;by_cases m:a=p
    .rw[Gn m,Gn m]at b;rcases b with b|b
     .rw[b];exact .inr ap
     .rw[b];exact .inr aB
    .rw[Gh m,Gh m]at b;have Q:a∈d:=by
      rcases List.mem_append.mp U with z|z
      .exact z
      .exact absurd (by simpa using z) m
     exact .inl (.inr (.inr (.inr (.inr (.inr (.inr (.inr ⟨a,Q,b⟩)))))))
  .by_cases H:j=f.v
   .subst H;rw[Qb]at g;cases g
   .rw[Qg H]at g;by_cases A:j=f.u
    .subst A;rw[Qb]at g;cases g
    .rw[Qg A]at g;exact(cN (Y.free g)).1
 have J:Z7 P w C (zj (zj (zj R u0 (.lst [])) f.u (.dK (dS (d++[p]) λa=>.ref (if a=p then u0 else r a)))) f.v (.dK (dS (d++[p]) λ_=>.non))) n (na f (λa=>if a=p then m0 else x a) (λa=>if a=p then u0 else r a)) e d.length {fresh (Yg e) (Zo e) (d++[p])with Xl:=Yy (Zo e) d,tab:=iz (Yg e) (Zo e) d}:=by rw[<-an];exact J
 generalize zj (zj (zj R u0 (.lst [])) f.u (.dK (dS (d++[p]) λa=>.ref (if a=p then u0 else r a)))) f.v (.dK (dS (d++[p]) λ_=>.non))=H4 at J FY⊢;generalize (λa=>if a=p then m0 else x a)=ac at J FY;generalize (λa=>if a=p then u0 else r a)=Z at J FY;have F4:=F2.trans FY;obtain⟨aG,aU⟩:=J.ob;obtain⟨aC,aI,au⟩:=J.fo;have ay:p<aC.length:=by rw[Gr au];exact M
 obtain⟨y4,az,c4,am,aH,aK,aw⟩:=Qy au (List.getElem?_eq_getElem ay);rw[js M]at az;cases az;let aW:Nat->St->Hp->Prop:=λi I W=>iV λ(x2:Option V)=>iA (I=[Ga (.ref n),Ga (jv p),x2]) (Z7 P w C W n (na f ac Z) e d.length {fresh (Yg e) (Zo e) (d++[p])with Xl:=(λa=>Yy (Zo e) d a++List.replicate (((Zo e p).take i).count a) p),tab:=iz (Yg e) (Zo e) d}) (gU f S (na f ac Z) (d++[p]) aa W) (W am=Ga (.tup ((Zo e p).map jv)))
 refine⟨_,Xb,n,C,aG,_,_,Xb,aU,o.cl,o.Qc7,U5 _,_,Xb,f.f,aC,_,_,Xb,Xb,Zb.of aI,Qz (List.getElem?_eq_getElem ay),c4,_,_,_,aH,Xb,Zz.of aK,Rq _ _ _,am,Xb,{_,Zz.of aw},oq (K:=K) (a:=am) (xs:=(Zo e p).map jv)
  aW
  {_,Xb,?_,F4,aw} (by rintro i I W _ ⟨_,_,_,_,b⟩;exact Zz.of b) ?_ ?_⟩
 .have:(λa=>Yy (Zo e) d a++List.replicate (((Zo e p).take 0).count a) p)=Yy (Zo e) d:=by funext a;simp
  rw[this];exact J
 .rintro i y I W D ⟨x5,rfl,E,F5,h5⟩;rw[List.getElem?_map]at D;cases eq:(Zo e p)[i]? with
  |none=>rw[eq]at D;cases D
  |some a=>
   rw[eq]at D;cases D;have Q:a∈d++[p]:=List.mem_append_left _ (done a (List.mem_of_getElem? eq));have U:=E.ul a Q;obtain⟨ae,ah⟩:=E.ob;have a2:=yA T.few d a;have a1:((Zo e p).take i).count a<=100:=Tw List.count_le_length (by rw[List.length_take];ext);exists _,Xb,n,C,ae,_,_,Xb,ah,o.cl,o.Qfm,Rc _,_,Xb,f.u,_,Xb,Xq E.us Q,.inl {Xb,_,Zb.of U},_,Xb,_,_,_,Xb,Xb,U,?_
   .rw[List.length_map,Gz];show(Yy (Zo e) d a++List.replicate (((Zo e p).take i).count a) p).length<_;rw[List.length_append,List.length_replicate];ext
   .have Y6:=E.xt Q (Yy (Zo e) d a++List.replicate (((Zo e p).take i).count a) p++[p]);have eH:(HO.lst ((Yy (Zo e) d a++List.replicate (((Zo e p).take i).count a) p++[p]).map jv))=.lst ((Yy (Zo e) d a++List.replicate (((Zo e p).take i).count a) p).map jv++[jv p]):=by rw[List.map_append];rfl
    rw[eH]at Y6;have oR:gu (na f ac Z) (d++[p]) (Z a):=.inr (.inr (.inr (.inr (.inr (.inr (.inr {a,Q,.inr Xb}))))));have eU:(λm=>if m=a then Yy (Zo e) d a++List.replicate (((Zo e p).take i).count a) p++[p]else Yy (Zo e) d m++List.replicate (((Zo e p).take i).count m) p)=λm=>Yy (Zo e) d m++List.replicate (((Zo e p).take (i+1)).count m) p:=by
     funext m
     rw[OX eq];by_cases b:m=a
     .rw[Gn b,Gn b.symm,b,List.replicate_succ',List.append_assoc]
     .rw[Gh b,Gh (Gp b),Fn]
    exists _,Xb,?_,F5.trans {λj ad B g=>?_,λj g=>.inl g,λj g=>?_}
    .rw[<-eU];exact Y6
    .exact Qi B (λz=>g (by rw[z];exact oR))
    .exact Z0 g
    .exact Qi h5 (Ye h5 U nofun)
 rintro I W ⟨x5,rfl,E,F5,h5⟩;rw[List.length_map,List.take_length]at E;have eU:(λa=>Yy (Zo e) d a++List.replicate ((Zo e p).count a) p)=Yy (Zo e) (d++[p]):=by
  funext a
  rw[CD]
 rw[eU]at E;obtain⟨ae,ah⟩:=E.ob;have aA:∀a∈Zo e p,a∈d++[p]:=λa l=>List.mem_append_left _ (done a l);refine{_,Xb,_,Xb,n,C,ae,_,_,Xb,ah,o.cl,o.table,uZ _,_,Xb,n,ae,_,Xb,ah,nB _,_,Xb,n,na f ac Z,e,_,_,p,Xb,E,M,aA,by ext,λc6 H6 g6 a3 aJ=>?_};have Y6:=E.same g6;obtain⟨ao,D6,a4,aF⟩:=Y6.ta;have kc:=aJ.key (T.str p);exists f.t,c6,_,ao,Xb,Xb,D6,kc,(by rw[Gz];ext);have aS:∀a∈d,Zm (Yg e) (Zo e) id a≠Zm (Yg e) (Zo e) id p:=λa l z=>by simp only[Zm,List.map_id,TX]at z;exact O (T.inj a p (h.lt a l) M z.1 z.2▸l)
 have Y7:=Y6.yt (kvs':=Wv ao (Y1 (Zm (Yg e) (Zo e) id p)) c6 (jv p)) D6 (by have:=Os ao (Y1 (Zm (Yg e) (Zo e) id p)) c6 (jv p);ext) (D6.keys.put kc) (t':=iz (Yg e) (Zo e) (d++[p])) (λm=>by
  rw[Jj,OW _ _ aS];by_cases b:m=Zm (Yg e) (Zo e) id p
  .rw[Gn (by rw[b]),Gn b];rfl
  .rw[Gh (λz=>b (Je z)),Gh b];exact aF m)
 refine q (d++[p]) ac Z _ {?_,?_,λa l=>?_,λa l=>?_} (λa l=>List.mem_append_left _ (sub a l)) (by simp) (λa l=>?_) (F5.trans {λj ad B g=>?_,λj g=>.inl ?_,λj g=>?_})
 .rw[List.length_append,List.length_singleton];exact Y7
 .rw[List.nodup_append];refine{h.nd,by simp,λa l u G=>?_};have:u=p:=by simpa using G
  rw[this];exactλz=>O (z▸l)
 .rcases List.mem_append.mp l with b|b
  .exactλu G=>List.mem_append_left _ (h.cl a b u G)
  .have:a=p:=by simpa using b
   subst this;exact aA
 .rcases List.mem_append.mp l with b|b
  .exact h.lt a b
  .have:a=p:=by simpa using b
   subst this;exact M
 .rcases List.mem_append.mp l with b|b
  .rcases ai a b with b|b
   .exact .inl b
   .exact .inr (by ext)
  .have:a=p:=by simpa using b
   subst this;exact .inr (Gm _)
 .exact Qi (g6 _ _ B) (λz=>g (by rw[z];exact .inr (.inr (.inr (.inl Xb)))))
 .exact g
 .exact g6.free (Z0 g)
theorem HG{f:Gc}{e:Tp}:Qu P w K mg base Z5 1 f e ["self","place"] (jn P w C 0):=by
 have d:∀a H Q E,¬jn P w C 0 a H Q E:=λa H Q E h=>by obtain⟨n,A,g,j,S,p,_,_,_,_,i,_⟩:=h;lia
 exact{λa H Q E h=>absurd h (d a H Q E),λA b s H c k a Q E _ _ _ _ h=>absurd h (d a H Q E)}
theorem yJ{f g C:Gc}{b a:Tp}(F:Wj K "take_in" "Net.take_in" W0 f b)(T:Um K mg C)(i:Yc K C "take_in" f)(e:zk K b ["self","place"] [])
  (h:Yc K C "key_of" g)(c:Qu P w K mg base Z5 1 g a ["self","place"] (kI P w C))(d:zk K a ["self","place"] []):∀k:Nat,Qu P w K mg base Z5 (k+1) f b ["self","place"] (jn P w C k)
 |0=>HG
 |k+1=>JN F T i e (yJ F T i e h c d k) h c d
end
end K07
namespace Nt
theorem uh{l:List Nat}:∀{S:List Nat},S.Nodup->(S.map λq=>l.count q).sum<=l.length
 |[],_=>by simp
 |q::S,b=>by
  rw[List.nodup_cons]at b;have d:=uh (l:=l.filter (λz=>z !=q)) b.2;have e:(S.map λr=>(l.filter (λz=>z !=q)).count r)=S.map λr=>l.count r:=List.map_congr_left λr c=>by rw[List.count_filter];simp only[bne_iff_ne,ne_eq];intro z;exact b.1 (z▸c)
  rw[e]at d;have g:(l.filter (λz=>z !=q)).length+l.count q=l.length:=by
   have:=List.length_eq_countP_add_countP (λz=>z !=q) (l:=l);rw[<-List.countP_eq_length_filter];have f:l.countP (λa=>¬(a !=q)=Gg)=l.count q:=by unfold List.count;refine List.countP_congr λx _=>?_;simp
   lia
  simp only[List.map_cons,List.sum_cons];lia
theorem zr{f g:Nat->Nat}:∀S:List Nat,(S.map λq=>f q+g q).sum=(S.map f).sum+(S.map g).sum
 |[]=>rfl
 |q::S=>by simp only[List.map_cons,List.sum_cons,zr S];lia
theorem He{W ρ:Type}[DecidableEq W]{f:Nat->W}{b:Nat->List Nat}{S:List Nat}{M:Nat}(nd:S.Nodup)(h:∀p,(b p).length<=M):Ud (fresh (ρ:=ρ) f b S)<=S.length*M:=by
 have c:∀T:List Nat,(S.map λq=>(Yy b T q).length).sum<=T.length*M:=by
  intro T;induction T with
  |nil=>
   have:(S.map λq=>(Yy b [] q).length)=S.map λ_=>0:=List.map_congr_left λq _=>by simp[Yy]
   rw[this];clear this nd;have z:∀S:List Nat,(S.map λ_=>0).sum=0:=by
    intro S;induction S with
    |nil=>rfl
    |cons a S d=>simpa using d
   rw[z];lia
  |cons p T d=>
   have e:(S.map λq=>(Yy b (p::T) q).length)=S.map λq=>(b p).count q+(Yy b T q).length:=List.map_congr_left λq _=>by simp only[Yy,List.flatMap_cons,List.length_append,List.length_replicate]
   rw[e,zr];have g:=uh (l:=b p) nd;have i:=h p;rw[List.length_cons,El];lia
 unfold Ud;refine Tw (Sf ?_) (c S);congr 1;refine List.map_congr_left λq _=>?_;rw[Gn (show(fresh (ρ:=ρ) f b S).lead q=q from rfl)];rfl
end Nt
namespace K07
open PySem L2 Sb Nt
variable{C:Gc}
abbrev En:=GY×Nat×Nat
abbrev sme(p q:Nat):En:=(("same":GY),p,q)
abbrev unl(p q:Nat):En:=(("unlike":GY),p,q)
inductive gT(H:Hp)(v:V)(e:En):Prop
 |mk (c:_) (h0:v=.ref c) (h1:H c=Ga (.tup [.str e.1,jv e.2.1,jv e.2.2])):gT H v e
theorem gT.Ql{H a:Hp}{v:V}{e:En}(t:Qp H a)(h:gT H v e):gT a v e:=by obtain⟨c,b,d⟩:=h;exact{c,b,t _ _ d}
structure gE(P:Gi)(w:Gu)(C:Gc)(H0 H:Hp)(n:Gc)(A:Na)(fs:List Fm)(tb:Nat)(x:Nn):Prop where
 at_:Z7 P w C H n A fs tb x
 inv:Wc (Yg fs) (Zo fs) x []
 fok:g8 fs x.S
 new:∀b,gu A x.S b->H0 b=Ge
 nn:H0 n=Ge
 sam:Qx H0 H
 len:x.S.length<=60
 tt:Ud x<=6000
 cl:cls x+x.links.length<=x.S.length
 tbb:tb<=x.S.length+x.links.length*Ud x
structure hA(fs:List Fm)(x:Nn)(ens:List En)(i:Nat):Prop where
 ins:∀e∈ens,e.2.1∈x.S/\e.2.2∈x.S
 eq:∀(j p q:Nat),j<i->ens[j]?=Ga (sme p q)->x.lead p=x.lead q
 snd:∀E,Ec (Yg fs) (Zo fs) x.S E->(∀(j p q:Nat),j<i->ens[j]?=Ga (sme p q)->E p q)->∀p∈x.S,∀q∈x.S,x.lead p=x.lead q->E p q
 rsn:∀y∈x.links,y.2.2=Ge\/∃(j p q:Nat),y=(p,q,Ga (.told j))/\ens[j]?=Ga (sme p q)
inductive xD(P:Gi)(w:Gu)(C:Gc)(vs:List V)(H:Hp)(Q:VK):Prop
 |mk (f:Gc) (t:Gc) (ws:List V) (es:List V) (fs:List Fm) (ens:List En) (rk:Nat->Nat) (h0:vs=[.ref f,.ref t]) (h1:H f=Ga (.lst ws)) (h2:Paired (Rn H) ws fs) (h3:H t=Ga (.lst es)) (h4:Paired (gT H) es ens) (h5:qj fs rk) (h6:fs.length<=60) (h7:(∀p,rk p<59)) (h8:(∀e∈ens,e.2.1<fs.length/\e.2.2<fs.length)) (h9:ens.length<=1000) (h10:∀(n:Gc)(A:Na)(tb:Nat)(x:Nn)(H':Hp),gE P w C H H' n A fs tb x->A.f=f->hA fs x ens ens.length->Q (.ref n) H'):xD P w C vs H Q
def og(P:Gi)(w:Gu)(C:Gc):Sp:=λa H Q _=>xD P w C a H Q
theorem gE.merged{P:Gi}{w:Gu}{j H g:Hp}{n:Gc}{A:Na}{f:List Fm}{i:Nat}{x d:Nn}{a b:Nat}{r:Option Jl}(N:gE P w C j H n A f i x)(Y:Z7 P w C g n A f (i+(d.links.length - x.links.length)*Ud x) d)(M:gI f x d a b r [])(F:Oc A x.S H g):gE P w C j g n A f (i+(d.links.length - x.links.length)*Ud x) d:=by
 have e:=M.S;exists Y,M.inv,by rw[e];exact N.fok,by rw[e];exact N.new,N.nn,λc o h=>F.keep c o (N.sam c o h) (λz=>by rw[N.new c z]at h;cases h),by rw[e];exact N.len,by rw[M.Ud];exact N.tt,(by rw[e];have:=N.cl;have:=M.less;ext);rw[e,M.Ud];have k:=N.tbb;have l:=M.more;have:d.links.length*Ud x=x.links.length*Ud x+(d.links.length - x.links.length)*Ud x:=by rw[<-El];congr 1;ext
 ext
theorem hA.step{f:List Fm}{x k:Nn}{d:List En}{i a b:Nat}(U:hA f x d i)(e:d[i]?=Ga (sme a b))(M:gI f x k a b (Ga (.told i)) []):hA f k d (i+1):=by
 have g:=M.S;obtain⟨r,t⟩:=U.ins _ (List.mem_of_getElem? e);refine{by rw[g];exact U.ins,λj p q n c=>?_,λE X h=>?_,λy o=>?_}
 .rcases Tn j i with h|h
  .obtain⟨l,m⟩:=U.ins _ (List.mem_of_getElem? c);exact M.mono p l q m (U.eq j p q h c)
  .have:j=i:=by lia
   subst this;rw[e]at c;cases c;exact M.eq.nil
 .rw[g]at X;have l:=U.snd E X λj p q n=>h j p q (by lia);have:=M.snd E X {l,λu v s m=>by simp at m;obtain⟨rfl,rfl,rfl⟩:=m;exact h i u v (by lia) e}
  exact this.1
 .rcases M.rsn y o with h|h|h
  .exact U.rsn y h
  .exact .inr ⟨i,a,b,h,e⟩
  .exact .inl h
theorem hA.skip{f:List Fm}{x:Nn}{c:List En}{i:Nat}{k:GY}{a b:Nat}(U:hA f x c i)(e:c[i]?=Ga (k,a,b))(l:k≠"same"):hA f x c (i+1):=by
 refine{U.ins,λj p q g d=>?_,λE X h=>U.snd E X λj p q g=>h j p q (by ext),U.rsn};rcases Tn j i with h|h
 .exact U.eq j p q h d
 .have:j=i:=by ext
  subst this;rw[e]at d;cases d;exact absurd rfl l
def oU(x:Nn)(a:List En):Option Nat->Prop
 |none=>∀(j p q:Nat),a[j]?=Ga (unl p q)->x.lead p≠x.lead q
 |some i=>(∃p q,a[i]?=Ga (unl p q)/\x.lead p=x.lead q)/\∀(j p q:Nat),j<i->a[j]?=Ga (unl p q)->x.lead p≠x.lead q
inductive qU(P:Gi)(w:Gu)(C:Gc)(vs:List V)(H:Hp)(Q:VK):Prop
 |mk (n:Gc) (t:Gc) (A:Na) (fs:List Fm) (tb:Nat) (x:Nn) (es:List V) (ens:List En) (h0:vs=[.ref n,.ref t]) (h1:Z7 P w C H n A fs tb x) (h2:H t=Ga (.lst es)) (h3:Paired (gT H) es ens) (h4:(∀e∈ens,e.2.1∈x.S/\e.2.2∈x.S)) (h5:∀(o:Option Nat)(H':Hp),Qx H H'->oU x ens o->Q (ov o) H'):qU P w C vs H Q
def mw(P:Gi)(w:Gu)(C:Gc):Sp:=λa H Q _=>qU P w C a H Q
section
variable{P:Gi}{w:Gu}{K:Gd}{mg:GY->Option Value}{base:Heap}
theorem xV:Qw ["net","entries","number","entry"] ["net","entries"] (Qk mI):=by eq_refl
theorem Xo{a b:GY}:decide (V.str a=V.str b)=(a==b):=by rw[EG];simp
theorem Hs{M N:Gc}{O Q:Tp}(F:Wj K "least_clash" "least_clash" mI M O)(Z:Um K mg C)(W:Ii mg)(mE:Yc K C "equal" N)(Y:Qu P w K mg base Z5 1 N Q ["self","one","other"] (lM P w C))(bE:zk K Q ["self","one","other"] []):
  Qu P w K mg base Z5 2 M O ["net","entries"] (mw P w C):=by
 refine F.ok xV (λm I j f b=>?_) (λo z r s I m j f hr b=>?_)
 .obtain⟨n,t,z,R,V,x,D,L,rfl,_⟩:=b;rfl
 obtain⟨n,t,z,R,V,x,D,L,rfl,X,T,S,ab,q⟩:=b;have ac:Yd 1 _:=hr.mono (by lia);have U:=xV.nd;exists _,Qd (Z8 Gv rfl (sD rfl W.enumerate (Qa (pv 1) Qe)) (Vv rfl (Zn (Z6 2 U) (Zn (Z6 3 U) Wl)))
   (Qh (Zq (PW.pt (J9 (Qr Va (Qn Q3 (pv 3) Qj) Q7 (Q4 _)) (Uq (Wb (Zf (pv 0) Z.cl mE Y ac bE .nil Q5 (Qa (Qn Q3 (pv 3) Qj) (Qa (Qn Q3 (pv 3) Qj) Qe)))))))
    (Qh (Qv (pv 2))) Q6)))
  (Qh (Qv Ux))
 let ad:Nat->St->Hp->Prop:=λi v g=>i0 (∃G H,v=[Ga (.ref n),Ga (.ref t),G,H]) (Qx I g) (∀(d p e:Nat),d<i->L[d]?=Ga (unl p e)->x.lead p≠x.lead e)
 refine⟨_,Xb,t,D,Xb,Zb.of T,wj (K:=K) (a:=t) (xs:=D) ad
  {{_,_,Xb},λ_ _ b=>b,λ_ _ _ b=>by lia} (by rintro i v g _ ⟨_,h,_⟩;exact Zb.of (h _ _ T)) ?_ ?_⟩
 .rintro i y c v g hi ⟨⟨G,H,rfl⟩,h,l⟩ hc;obtain⟨⟨k,a,A⟩,o,m,rfl,aa⟩:=Qy S hi;have s3:=Qf hc (.tup [.int (i:Int),.ref m]);have j:=h.trans s3;obtain⟨aS,bS⟩:=ab _ (List.mem_of_getElem? o);have B:=j _ _ aa;exists c,_,Xb,Zz.of Qb,Xb,_,_,Xb,_,_,Xb,Xb;exists _,Xb,m,_,_,_,Xb,Xb,Zz.of B,R8 _ _,Xb,_,Xb;rw[Xo];by_cases E:k="unlike"
  .subst E;rw[EC];refine Y0 ?_;have J:=X.same j;obtain⟨dx,o1⟩:=J.ob;exists _,Xb,n,dx,_,Xb,o1,oV _,_,Xb,m,_,_,_,Xb,Xb,Zz.of B,Rq _ _ _,_,Xb,m,_,_,_,Xb,Xb,Zz.of B,iw _ _ _ _,n,z,R,V,x,a,A,Xb,J,aS,bS,_,Xb;by_cases r:x.lead a=x.lead A
   .rw[Tc r];refine Y0 {_,Xb,q (Ga i) _ j {⟨a,A,o,r⟩,l}}
   .rw[GQ r];refine Zu {{_,_,Xb},j,λd p e u f=>?_};rcases Tn d i with b|b
    .exact l d p e b f
    .have:d=i:=by lia
     subst this;rw[o]at f;cases f;exact r
  .have:(k==("unlike":GY))=Gq:=by simpa using E
   rw[this];refine Zu ?_;refine Zu {{_,_,Xb},j,λd p e u f=>?_};rcases Tn d i with b|b
   .exact l d p e b f
   .have:d=i:=by lia
    subst this;rw[o]at f;cases f;exact absurd rfl E
 .rintro v g ⟨⟨G,H,rfl⟩,h,l⟩;refine q Ge g h λd p e u=>l d p e ?_ u;rw[Gr S];exact(List.getElem?_eq_some_iff.mp u).1
theorem rD:Qw ["forms","told","net","kind","one","other","number","entry"] ["forms","told"] (Qk jm):=by eq_refl
theorem BF{E fI fT fM:Gc}{fd av ax aw:Tp}(F:Wj K "net_of" "net_of" jm E fd)(ab:Um K mg C)(aA:Ii mg)(aB:Mk K C fI)(GI:Qu P w K mg base Z5 1 fI av ["self","forms"] (ux P w C))(bI:zk K av ["self","forms"] [])
  (mT:Yc K C "take_in" fT)(GT:Qu P w K mg base Z5 60 fT ax ["self","place"] (jn P w C 59))(bT:zk K ax ["self","place"] [])(mM:Yc K C "merge" fM)(GM:Qu P w K mg base Z5 4 fM aw ["self","one","other","reason"] (nE P w C))(bM:zk K aw ["self","one","other","reason"] []):
  Qu P w K mg base Z5 61 E fd ["forms","told"] (og P w C):=by
 refine F.ok rD (λR h Q au l=>?_) (λaq g ar s h R Q au u l=>?_)
 .obtain⟨E,t,ws,W,f,U,rk,rfl,_⟩:=l;rfl
 obtain⟨E,t,ws,W,f,U,rk,rfl,hf,aG,ht,ah,O,aP,ay,aD,aO,q⟩:=l;have aE:Yd 2 _:=u.mono (by lia);have aF:Yd 4 _:=u.mono (by lia);have N:=rD.nd;show∃t,Ik ?my _ t/\_;let w4:Xf ?my jm 3:={_,Qh (Qv (pv 2))}
 let w3:Xf ?my jm 2:=⟨_,Qd (Z8 Gv rfl (sD rfl aA.enumerate (Qa (pv 1) Qe)) (Vv rfl (Zn (Z6 6 N) (Zn (Z6 7 N) Wl)))
   (Qh (Zq (Qr Va (Qn Q3 (pv 7) Qj) Q7 (Q4 _))
    (Qh (Zc (Zf (pv 2) ab.cl mM GM aF bM .nil Q5 (Qa (Qn Q3 (pv 7) Qj) (Qa (Qn Q3 (pv 7) Qj) (Qa (Za (Qa Q7 (Qa (pv 6) Qe))) Qe)))))) Q6))) w4.2⟩
 let w2:Xf ?my jm 1:=⟨_,Qd (Z8 Gv rfl (Yx (pv 1)) (Vv rfl (Zn (Z6 3 N) (Zn (Z6 4 N) (Zn (Z6 5 N) Wl))))
   (Qd (Zc (Zf (pv 2) ab.cl mT GT u bT .nil Q5 (Qa (pv 4) Qe)))
   (Qh (Zc (Zf (pv 2) ab.cl mT GT u bT .nil Q5 (Qa (pv 5) Qe)))))) w3.2⟩
 exists _,Qd (Qt 2 N (mQ aB GI aE rfl ab.mgC bI .nil Q5 (Qa (pv 0) Qe))) w2.2;refine{_,Xb,λn dx hn aC aQ=>?_};have s0:Qx h (zj (zj h dx (.own n)) n (.ins C dx [])):=λc v d=>by rw[Qg (Qc d hn),Qg (Qc d aC)];exact d
 refine{n,dx,E,ws,f,Xb,Qb,s0 _ _ hf,L2.Paired.Yb aG λ_ _ l=>l.Ql (Qp.of s0),λg H1 fA X1 k1 w1=>{Xb,?_}};have s1:Qx h H1:=λc v d=>k1 c v (s0 c v d) (Qc d hn);have n1:∀e,gu g [] e->h e=Ge:=λe Z=>s0.free (w1 e Z);have az:W.length=U.length:=Gr ah;let aH:Nat->St->Hp->Prop:=λi A H=>ip λ(x3 x4 x5:Option V)(S:List Nat)(m o:Nat->Gc)=>i8 (A=[Ga (.ref E),Ga (.ref t),Ga (.ref n),x3,x4,x5,Ge,Ge]) (Frs P w C H n (na g m o) f S) (Qx h H) (∀e,gu (na g m o) S e->h e=Ge) (∀d∈U.take i,d.2.1∈S/\d.2.2∈S)
 refine⟨_,Xb,t,Xb,{_,Zb.of (s1 _ _ ht)},Xh (K:=K) (a:=t) (xs:=W) aH
  {_,_,_,[],g.ml,g.ul,Xb,{X1,List.nodup_nil,(λp M=>nomatch M),(λp M=>nomatch M)},s1,n1,by simp} (by rintro i A H _ ⟨_,_,_,_,_,_,_,_,Q,_⟩;exact Zb.of (Q _ _ ht)) ?_ ?_⟩
 .rintro i y A H hi ⟨x3,x4,x5,S,m,o,rfl,j,J,n2,T⟩;obtain⟨⟨k,a,e⟩,L,B,rfl,ag⟩:=Qy ah hi;obtain⟨al,bl⟩:=aD _ (List.mem_of_getElem? L);obtain⟨am,o2⟩:=j.at_.ob;exists B,_,Xb,Zz.of (J _ _ ag),Xb,_,_,Xb,_,_,Xb,_,_,Xb,Xb;refine{_,Xb,n,am,_,Xb,o2,oj _,_,Xb,n,na g m o,f,rk,S,a,Xb,j,O,al,ay a,λS3 ad af r X3 ae a3 _ R=>?_};have g3:Qx h r:=λc v d=>R.keep c v (J c v d) (λz=>by rw[n2 c z]at d;cases d);have n3:∀e,gu (na g ad af) S3 e->h e=Ge:=λe Z=>(R.own e Z).elim (n2 e) (λz=>J.free z);obtain⟨an,o3⟩:=X3.at_.ob;refine{_,Xb,n,an,_,Xb,o3,oj _,_,Xb,n,na g ad af,f,rk,S3,e,Xb,X3,O,bl,ay e,λS4 ao ap H4 X4 Q b4 _ F4=>?_};have Y:Qx h H4:=λc v d=>F4.keep c v (g3 c v d) (λz=>by rw[n3 c z]at d;cases d);refine{_,_,_,S4,ao,ap,Xb,X4,Y,λe Z=>(F4.own e Z).elim (n3 e) (λz=>g3.free z),λd ac=>?_};rw[List.take_add_one,L]at ac;rcases List.mem_append.mp ac with l|l
  .exact{Q _ (ae _ (T d l).1),Q _ (ae _ (T d l).2)}
  .have:d=(k,a,e):=by simpa using l
   subst this;exact{Q _ a3,b4}
 rintro A H ⟨x3,x4,x5,S,m,o,rfl,j,J,n2,T⟩;rw[az,List.take_length]at T;have aN:S.length<=f.length:=Xp (S:=List.range f.length) j.nd (λG u=>List.mem_range.mpr (j.lt G u))|>λl=>by rw[List.length_range]at l;exact l
 have ni:Wc (ρ:=Jl) (Yg f) (Zo f) (fresh (Yg f) (Zo f) S) []:=PR j.nd j.cl λp M G u e1 e2=>O.inj p G (j.lt p M) (j.lt G u) e1 e2;have N0:gE P w C h H n (na g m o) f S.length (fresh (Yg f) (Zo f) S):={j.at_,ni,{O.str,j.lt,j.cl,λp=>by have:=O.few p;lia},n2,hn,J,by show S.length<=60;lia,Tw (He j.nd O.few) (by lia),wA _,by show S.length<=S.length+0*_;lia};have U0:hA f (fresh (Yg f) (Zo f) S) U 0:={T,λaR p G hj=>by lia,λau X _ p M G u d=>by have d:p=G:=d;subst d;exact X.refl p,λy Q=>nomatch Q}
 let aI:Nat->St->Hp->Prop:=λi A r=>gV λ(x6 x7:Option V)(D:Nat)(x:Nn)=>i0 (A=[Ga (.ref E),Ga (.ref t),Ga (.ref n),x3,x4,x5,x6,x7]) (gE P w C h r n (na g m o) f D x) (hA f x U i)
 refine⟨_,Xb,t,W,Xb,Zb.of (J _ _ ht),wj (K:=K) (a:=t) (xs:=W) aI
  {_,_,_,_,Xb,N0,U0} (by rintro i A r _ ⟨_,_,_,_,_,b,_⟩;exact Zb.of (b.sam _ _ ht)) ?_ ?_⟩
 .rintro i y c A r hi ⟨x6,x7,D,x,rfl,b,I⟩ hc;obtain⟨⟨k,a,e⟩,L,B,rfl,ag⟩:=Qy ah hi;have s4:=Qf hc (.tup [.int (i:Int),.ref B]);have Y:=b.sam.trans s4;have aa:=Y _ _ ag;obtain⟨aS,bS⟩:=I.ins _ (List.mem_of_getElem? L);have R:gE P w C h (zj r c (.tup [.int (i:Int),.ref B])) n (na g m o) f D x:={b.at_.same s4,b.inv,b.fok,b.new,b.nn,Y,b.len,b.tt,b.cl,b.tbb};exists c,_,Xb,Zz.of Qb,Xb,_,_,Xb,_,_,Xb,Xb;exists _,Xb,B,_,_,_,Xb,Xb,Zz.of aa,R8 _ _,Xb,_,Xb;rw[Xo];by_cases hk:k="same"
  .subst hk;rw[EC];refine Y0 ?_;obtain⟨ai,o4⟩:=R.at_.ob;refine{_,Xb,n,ai,_,Xb,o4,qB _,_,Xb,B,_,_,_,Xb,Xb,Zz.of aa,Rq _ _ _,_,Xb,B,_,_,_,Xb,Xb,Zz.of aa,iw _ _ _ _,_,Xb,by show 2<=Gj;decide,λQ ak=>?_};have s5:=Qf ak (.tup [.str "told",.int (i:Int)]);have g5:=Y.trans s5;have N5:gE P w C h (zj (zj r c (.tup [.int (i:Int),.ref B])) Q (.tup [.str "told",.int (i:Int)])) n (na g m o) f D x:={R.at_.same s5,b.inv,b.fok,b.new,b.nn,g5,b.len,b.tt,b.cl,b.tbb};have aJ:=b.len;have aj:=b.tt;have aK:=b.cl;have aL:=b.tbb;have aM:x.links.length*Ud x+cls x*Ud x<=60*6000:=by rw[<-El];exact Ma (by lia) aj
   refine{n,na g m o,f,D,x,a,e,.ref Q,Ga (.told i),Xb,N5.at_,b.fok,⟨Q,Xb,Qb⟩,by simp,aS,bS,b.inv,by lia,by lia,by lia,by lia,λx' H6 Y6 M6 F6=>?_};exact{_,_,_,x',Xb,N5.merged Y6 M6 F6,I.step L M6}
  .have:(k==("same":GY))=Gq:=by simpa using hk
   rw[this];exact Zu {_,_,D,x,Xb,R,I.skip L hk}
 .rintro A r ⟨x6,x7,D,x,rfl,b,I⟩;rw[az]at I;exact{_,Xb,q n (na g m o) D x r b fA I}
end
end K07
namespace L2
open PySem PySem.Spec PyProof.Rows
inductive wG(x:V)(vs:List V)(H:Hp)(Q:VK):Prop
 |mk (d:_) (k:_) (dv:_) (zw:_) (h0:x=.ref d) (h1:vs=[kV k,dv]) (h2:H d=Ga (.dK zw)) (h3:zw.length<Gj) (h4:(∀v,Yt zw k=Ga v->Q v H)) (h5:(Yt zw k=Ge->Q dv (zj H d (.dK (Wm zw k dv))))):wG x vs H Q
def Pc:V->List V->Hp->VK->Prop:=λx a H Q=>wG x a H Q
theorem Kb{X:Cx}:ig X "dict.setdefault" Pc:=by
 intro l s N H x M v L Q I D C h;obtain⟨d,k,g,a,rfl,rfl,e,J,u,A⟩:=h;cases(show v=Value.ref d from D);obtain⟨K,E,rfl,B,m⟩:=vals2 C;obtain⟨z,j,G,b,i⟩:=jE I.Zv e;refine Si F.slot_dict_setdefault i.typeIs F.entry_dict_setdefault (F.args_dict_setdefault_3 _ _ _) (kt_meets_setdefault (Ya X.prog X.w) d (iJ B) j E) {G,i,by rw[<-b.length];exact z,λw hw=>?_,λr n f t=>?_}
 .have c:=b.val k;rw[hw]at c;cases q:Yt a k with
  |none=>rw[q]at c;exact(show False from c).elim
  |some y=>rw[q]at c;exact{y,H,I.tok _,c,u y q}
 .have c:=b.val k;rw[r]at c;cases q:Yt a k with
  |some y=>rw[q]at c;exact(show False from c).elim
  |none=>
   have o:∃q,n.get? d=Ga q:=let⟨q,_,_,hq,_⟩:=f;⟨q,hq⟩;have p:(Wm a k g).length<=Gj:=by have:=X8 a k g;ext
   exact{g,_,Jr I (by rw[e];exact Tu) t o (pX p j (b.put k m) f),m,A q}
end L2
namespace PySem
variable{Q:Value->Gk->Prop}{it:Gc}{xs:Array Value}{i:Nat}{x:Value}
structure lZ(prog:Gi)(w:Gu)(A:TL)(I S:Gc)(fp:List Gc)(n:Nat)(St:Nat->Heap->List Value->Prop)(Out:Heap->List Value->Prop):Prop where
 item:∀(i:Nat)(s:Gk)(acc:List Value)(Q:Option Value->Gk->Prop)(E:Value->Gk->Prop),i<n->St i s.heap acc->(∀v h' tk,St (i+1) h' (acc++[v])->(∀b o,b∉fp->s.heap.get? b=Ga o->h'.get? b=Ga o)->Q (Ga v) {s with heap:=h',toks:=tk})->wpAny (Tb prog w) A (pyNext (.ref I)) Q E s
 done:∀(s:Gk)(acc:List Value)(Q:Option Value->Gk->Prop)(E:Value->Gk->Prop),St n s.heap acc->(∀h' tk,Out h' acc->(∀b o,b∉fp->s.heap.get? b=Ga o->h'.get? b=Ga o)->Q Ge {s with heap:=h',toks:=tk})->wpAny (Tb prog w) A (pyNext (.ref I)) Q E s
 keep:∀(i:Nat)(h h':Heap)(acc:List Value),St i h acc->(∀b o,b≠S->h.get? b=Ga o->h'.get? b=Ga o)->S<h'.objs.size->St i h' acc
section
variable{prog:Gi}{w:Gu}{A:TL}{E:Value->Gk->Prop}{s:Gk}{R:Nj->Gk->Prop}{I S:Gc}{fp:List Gc}{n:Nat}{St:Nat->Heap->List Value->Prop}{Out:Heap->List Value->Prop}
theorem B9(G:lZ prog w A.in1 I S fp n St Out)(t:S∉fp)(g:n<=Gj)(res:Value){h₁:Heap}
  (B:∀f p a c,(∀b o,b≠S->b∉fp->h₁.get? b=Ga o->f.get? b=Ga o)->f.get? S=Ga {cls:=.type "list",dict:=Ge,data:=.seq a c,slots:=#[]}->a.size=n->Out f a.toList->R (.ok (.ret res)) {s with heap:=f,toks:=p}):
  ∀(k i:Nat)(h:Heap)(p c:Nat)(a:Array Value),n - i=k->i<=n->St i h a.toList->(∀b o,b≠S->b∉fp->h₁.get? b=Ga o->h.get? b=Ga o)->a.size=i->
   h.get? S=Ga {cls:=.type "list",dict:=Ge,data:=.seq a c,slots:=#[]}->codeAny (Tb prog w) A (.builtin "list.extend.loop" {[.ref S,.ref I,res],[]}) R {s with heap:=h,toks:=p}:=by
 intro k;induction k with
 |zero=>
  intro i h p c a E D m d j y;have g:i=n:=by lia
  subst g;refine FM Sy ?_;rw[LB DC _];show wpAny _ A.in1 (pyNext (.ref I)>>=_) _ _ _;refine Gb (G.done {s with heap:=h,toks:=p} a.toList _ _ m λf q u l=>?_);exact Gf (B f q a c (λb o x r e=>l b o r (d b o x r e)) (l S _ t y) j u)
 |succ k F=>
  intro i h p c a E D m d j y;refine FM Sy ?_;rw[LB DC _];show wpAny _ A.in1 (pyNext (.ref I)>>=_) _ _ _;refine Gb (G.item i {s with heap:=h,toks:=p} a.toList _ _ (by lia) m λv f q u l=>?_);dsimp only at l⊢;have g:=l S _ t y;have z:∀b o,b≠S->f.get? b=Ga o->(f.update S (Ez (·.push v))).get? b=Ga o:=λb o C e=>(Heap.get?_update_other _ _ (Gp C)).trans e;show wpAny _ A.in1 (updateSeq S (·.push v)>>=_) _ _ _;refine Gb ?_;refine E9 g rfl (Gf ⟨LQ DC _,F (i+1) _ q _ (a.push v) (by lia) (by lia) (G.keep _ _ _ _ (by rw[Array.toList_push];exact u) z (Heap.lt_size (Heap.get?_update_self _ g Xb)))
   (λb o x r e=>z b o x (l b o r (d b o x r e))) (by rw[FN,j]) (Heap.get?_update_self _ g Xb)⟩) (by lia) (by show(a.push v).size<=Gj+1;rw[FN];lia)
theorem u9{T:String}{hb:Bool}(G:lZ prog w A.in1.in1 I s.heap.objs.size fp n St Out)(B:∀b∈fp,b<s.heap.objs.size)(L:I<s.heap.objs.size)(P:n<=Gj)(C:∀f:Heap,(∀b o,s.heap.get? b=Ga o->f.get? b=Ga o)->s.heap.objs.size<f.objs.size->St 0 f [])
  (N:∀h d,St 0 h d->MV {s with heap:=h} (.ref I) T)(U:(Value.type T==Value.type "list")=Gq)(V:(Value.type T==Value.type "tuple")=Gq)
  (self:∀(A:TL)(E:Value->Gk->Prop)(h:Heap)(Q:Value->Gk->Prop),St 0 h []->Q (.ref I) {s with heap:=h}->wpAny (Tb prog w) A (pyIter (.ref I)) Q E {s with heap:=h})
  (hint:∀(A:TL)(E:Value->Gk->Prop)(h:Heap)(Q:Bool->Gk->Prop),St 0 h []->Q hb {s with heap:=h}->wpAny (Tb prog w) A (Builtin.List.listLengthHint (.ref I)) Q E {s with heap:=h})
  (M:∀l F d c,(∀b o,b∉fp->s.heap.get? b=Ga o->l.get? b=Ga o)->l.get? s.heap.objs.size=Ga {cls:=.type "list",dict:=Ge,data:=.seq d c,slots:=#[]}->d.size=n->Out l d.toList->Q (.ref s.heap.objs.size) {s with heap:=l,toks:=F}):
  wpAny (Tb prog w) A (call (.type "list") [.ref I]) Q E s:=by
 have z:s.heap.objs.size∉fp:=λr=>Ds _ (B _ r);have y:s.heap.objs.size≠I:=Tx L;refine callType_codes (Q₁:=λt k=>t=.ref s.heap.objs.size/\k={s with heap:=s.heap.push {cls:=.type "list",data:=.seq #[]}}) NT (M7 _) M8
  (code_list_new _ ⟨Xb,Xb⟩) λt k h₁=>?_
 obtain⟨rfl,rfl⟩:=h₁;have v:(s.heap.push {cls:=.type "list",data:=.seq #[]}).get? s.heap.objs.size=Ga {cls:=.type "list",data:=.seq #[]}:=Heap.get?_push_size _ rfl;exists {_,v,Xb},MX _ _;show wpAny _ _ (do let r<-Builtin.List.listItems (.ref s.heap.objs.size);Builtin.List.listUpdate (.ref s.heap.objs.size) (λ_=>#[]);letGo r.toList.reverse;Builtin.List.listExtendWith (.ref s.heap.objs.size) (.ref I) .none) _ _ _;refine Gb ?_;unfold Builtin.List.listItems;refine Gb (Dg v rfl (Gf ?_));show wpAny _ _ (updateSeq s.heap.objs.size (λ_=>#[])>>=λ_=>letGo (#[]:Array Value).toList.reverse>>=λ_=>Builtin.List.listExtendWith (.ref s.heap.objs.size) (.ref I) .none) _ _ _;refine Gb (E9 v rfl ?_);have a:=Heap.get?_update_self (Ez (λ_=>(#[]:Array Value))) v rfl;refine Gb (SF ?_);generalize q:(s.heap.push {cls:=.type "list",data:=.seq #[]}).update s.heap.objs.size (Ez (λ_=>(#[]:Array Value)))=f at a;have H:∀b o,s.heap.get? b=Ga o->f.get? b=Ga o:=λb o e=>by rw[<-q];exact(Heap.get?_update_other _ _ (Gp (Tg (Heap.lt_size e)))).trans (Heap.get?_push_of_some _ e)
 have j:St 0 f []:=C f H (Heap.lt_size a);clear q;unfold Builtin.List.listExtendWith;refine Gb (Nl (T:=T) (N _ _ j) ?_);have K:Builtin.List.listSameRef (.ref s.heap.objs.size) (.ref I)=Gq:=by simp[Builtin.List.listSameRef,y]
 simp only[K,U,V,MK,TM,Dm];refine Gb (self _ _ f _ j ?_);refine Gb (T5 (hint _ _ f _ j ?_));have p:∀(m:Heap)(c:Nat),St 0 m []->(∀b o,b≠s.heap.objs.size->f.get? b=Ga o->m.get? b=Ga o)->m.get? s.heap.objs.size=Ga {cls:=.type "list",dict:=Ge,data:=.seq #[] c,slots:=#[]}->
   codeAny (Tb prog w) A.in1 (.builtin "list.extend.loop" {[.ref s.heap.objs.size,.ref I,.none],[]}) (wants (λr u=>r=Value.none/\Q (Value.ref s.heap.objs.size) u) E) {s with heap:=m,toks:=s.toks}:=by
  intro m c D S x;refine B9 (A:=A.in1) (s:=s) (h₁:=s.heap) G z P .none (λl F d c u r O R=>{Xb,M l F d c (λb o hb e=>u b o (Tg (Heap.lt_size e)) hb e) r O R}) n 0 m s.toks c #[] (by lia) (Gw _) D (λb o hb _ e=>S b o hb (H b o e)) rfl x
 refine Sa (λ_=>?_) (λ_=>Gf {LQ DC _,p f _ j (λb o _ e=>e) a});refine Gb (EV ?_);refine Gb ?_;show wpAny _ _ (updateSeq s.heap.objs.size (·.push .none)>>=λ_=>updateSeq s.heap.objs.size (·.pop)) _ _ _;refine Gb (E9 a rfl ?_);have g:=Heap.get?_update_self (Ez (·.push Value.none)) a rfl;refine E9 (hz:=by seq_fits) g rfl ?_;have i:=Heap.get?_update_self (Ez (·.pop)) g rfl;have J:∀b o,b≠s.heap.objs.size->f.get? b=Ga o->((f.update s.heap.objs.size (Ez (·.push Value.none))).update s.heap.objs.size (Ez (·.pop))).get? b=Ga o:=λb o hb e=>(Heap.get?_update_other _ _ (Gp hb)).trans ((Heap.get?_update_other _ _ (Gp hb)).trans e)
 exact Gf {LQ DC _,p _ _ (G.keep _ _ _ _ j J (Heap.lt_size i)) J i}
end
structure gR(prog:Gi)(w:Gu)(it l:Gc)(xs:Array Value)(St:Nat->Heap->Prop):Prop where
 item:∀(A:TL)(E:Value->Gk->Prop)(s:Gk)(i:Nat)(x:Value)(Q:Value->Gk->Prop),St i s.heap->xs[i]?=Ga x->(∀h',St (i+1) h'->Heap.SameBut it s.heap h'->Q x {s with heap:=h'})->wpAny (Tb prog w) A (Builtin.SmallTypes.nextOf (.ref it)) Q E s
 fin:∀(A:TL)(E:Value->Gk->Prop)(s:Gk)(i:Nat)(Q:Value->Gk->Prop),A.handled=Ge->St i s.heap->xs[i]?=Ge->(∀h' e,Heap.ExtBut it s.heap h'->(∃o,h'.get? e=Ga o/\o.cls=.type "StopIteration")->E (.ref e) {s with heap:=h'})->wpAny (Tb prog w) A (Builtin.SmallTypes.nextOf (.ref it)) Q E s
 keep:∀(i:Nat)(h h':Heap),St i h->(∀b,b=it\/b=l->∀o,h.get? b=Ga o->h'.get? b=Ga o)->St i h'
 there:∀(i:Nat)(h:Heap),St i h->it<h.objs.size/\l<h.objs.size
theorem vz{b:Gi}{w:Gu}{l:Gc}(d:l≠it):gR b w it l xs (λi h=>h.IsListIter it l i/\h.IsList l xs) where
 item:=λA E s i x Q a f n=>wpAny_nextOf_list_item a.1 a.2 f λg c j=>n g {c,a.2.extBut j.extBut d} j
 fin:=λA E s i Q p a f m=>wpAny_nextOf_list_end p a.1 a.2 f m
 keep:=λi h g a k=>{a.1.at λo e=>k it (.inl Xb) o e,a.2.at λo e=>k l (.inr Xb) o e}
 there:=λi h a=>{let⟨_,e,_⟩:=a.1;Heap.lt_size e,let⟨_,e,_⟩:=a.2;Heap.lt_size e}
section
variable{prog:Gi}{w:Gu}{A:TL}{E:Value->Gk->Prop}{s:Gk}
theorem Jf{t:Gc}{a:Array Value}(b:s.heap.IsTupleIter it t i)(k:s.heap.IsTuple t a)(l:a[i]?=Ga x)
  (h:∀e,e.IsTupleIter it t (i+1)->Heap.SameBut it s.heap e->Q x {s with heap:=e}):wpAny (Tb prog w) A (Builtin.SmallTypes.nextOf (.ref it)) Q E s:=by
 obtain⟨o,d,j,c⟩:=id b;obtain⟨n,g,_,m,f⟩:=k;unfold Builtin.SmallTypes.nextOf;refine Gb (TQ (name:=Dz "__next__") b.typeIs F.slot_tuple_iterator_next
  (Tz F.slot_tuple_iterator_next b.typeIs F.entry_tuple_iterator_next ?_ (F.args_tuple_iterator_next_1 _)))
 show wpAny _ _ (field (.ref it) 0>>=_) _ _ s;refine Gb (TH d c (x:=.ref t) rfl ?_);show wpAny _ _ (if(Value.ref t==Value.none)=Gg then _ else _) _ _ s;rw[Gh (show¬((Value.ref t==Value.none)=Gg)from GO)];show wpAny _ _ (field (.ref it) 1>>=_) _ _ s;refine Gb (TH d c (x:=.int i 0) rfl ?_);show wpAny _ _ (seqItems? (.ref t)>>=_) _ _ s;refine Gb (Dg g f ?_);simp only[Dy,l];refine Gb (EA d c (by simp) (Gf {x,Xb,Gf (h _ ?_ (Heap.SameBut.update ..))}));exact{_,Heap.get?_update_self _ d (ET (D2 c _)),(SH ..).trans j,by rw[D2 c];simp[rawInt]}
theorem Jz{t:Gc}{a:Array Value}(j:A.handled=Ge)(b:s.heap.IsTupleIter it t i)(l:s.heap.IsTuple t a)(m:a[i]?=Ge)
  (k:∀c e,Heap.ExtBut it s.heap c->(∃o,c.get? e=Ga o/\o.cls=.type "StopIteration")->E (.ref e) {s with heap:=c}):wpAny (Tb prog w) A (Builtin.SmallTypes.nextOf (.ref it)) Q E s:=by
 obtain⟨o,g,c,d⟩:=id b;obtain⟨p,h,_,n,f⟩:=l;unfold Builtin.SmallTypes.nextOf;refine Gb (TQ (name:=Dz "__next__") b.typeIs F.slot_tuple_iterator_next
  (Tz F.slot_tuple_iterator_next b.typeIs F.entry_tuple_iterator_next ?_ (F.args_tuple_iterator_next_1 _)))
 show wpAny _ _ (field (.ref it) 0>>=_) _ _ s;refine Gb (TH g d (x:=.ref t) rfl ?_);show wpAny _ _ (if(Value.ref t==Value.none)=Gg then _ else _) _ _ s;rw[Gh (show¬((Value.ref t==Value.none)=Gg)from GO)];show wpAny _ _ (field (.ref it) 1>>=_) _ _ s;refine Gb (TH g d (x:=.int i 0) rfl ?_);show wpAny _ _ (seqItems? (.ref t)>>=_) _ _ s;refine Gb (Dg h f ?_);simp only[Dy,m];refine Gb (EV (Gb (EA g d (by simp) ?_)));show wpAny _ _ (newExc (.type "StopIteration") []>>=_) _ _ _;refine Gb ?_;simp only[newExc,newTuple];refine Gb (TB ?_ (by size_fits));refine Gb (m:=firstArgMember _ _) (FI (a:=Value.none) (by first|rfl|(simp only[firstArgMember];rfl)) ?_);refine TB ?_ (by size_fits);simp only[raiseNew];refine Gb (LO ?_);first|rw[show A.in1.handled=Ge from j]|rw[j]
 refine Gb (Gf (FJ ?_));exact k _ _ (((Heap.SameBut.update ..).extBut.push _).push _) {_,Heap.get?_push_size _ Xb,Xb}
end
theorem rJ{b:Gi}{w:Gu}{l:Gc}(d:l≠it):gR b w it l xs (λi h=>h.IsTupleIter it l i/\h.IsTuple l xs) where
 item:=λA E s i x Q a f n=>Jf a.1 a.2 f λg c j=>n g {c,a.2.extBut j.extBut d} j
 fin:=λA E s i Q p a f m=>Jz p a.1 a.2 f m
 keep:=λi h g a k=>{let⟨o,ho,r⟩:=a.1;{o,k it (.inl Xb) o ho,r},let⟨o,ho,r⟩:=a.2;{o,k l (.inr Xb) o ho,r}}
 there:=λi h a=>{let⟨_,e,_⟩:=a.1;Heap.lt_size e,let⟨_,e,_⟩:=a.2;Heap.lt_size e}
abbrev I0(h:Heap)(z TI TO a:Gc)(f:Bool):Prop:=h.get? z=Ga {cls:=.type "zip",dict:=Ge,data:=.fields #[rawInt a,.bool f,.bool Gq,.ref TI,.ref TO],slots:=#[]}
section
variable{prog:Gi}{w:Gu}{A:TL}{E:Value->Gk->Prop}{s:Gk}{z TI TO i1 i2 l1 l2:Gc}{k:Nat}{xs ys:Array Value}{S1 S2:Nat->Heap->Prop}
theorem JT{y a t:Value}(d:Mb z TI TO i1 i2 l1 l2)(C:gR prog w i1 l1 xs S1)(D:gR prog w i2 l2 ys S2)
  (r:Ll s.heap z TI TO .none)(ac:DP s.heap TI (.ref i1) (.ref i2))(ad:DP s.heap TO a t)(h1:S1 k s.heap)(h2:S2 k s.heap)(hx:xs[k]?=Ga x)(hy:ys[k]?=Ga y)
  (hQ:∀h,I0 h z TI TO s.heap.objs.size Gq->DP h TO x y->S1 (k+1) h->S2 (k+1) h->DP h s.heap.objs.size x y->
   (∀c b,c≠z->c≠TO->c≠i1->c≠i2->s.heap.get? c=Ga b->h.get? c=Ga b)->Q (.ref s.heap.objs.size) {s with heap:=h}):
  wpAny (Tb prog w) A (Builtin.«zip.__next__» {[.ref z],[]}) (λfin s'=>∃h,fin=.done (.ret h)/\Q h s') E s:=by
 show wpAny _ _ (field (.ref z) 2>>=_) _ _ _;refine Gb (TH r rfl (x:=.bool Gq) rfl ?_);show wpAny _ _ (field (.ref z) 3>>=_) _ _ _;refine Gb (TH r rfl (x:=.ref TI) rfl ?_);refine Gb (Dg ac rfl ?_);show wpAny _ _ (Builtin.SmallTypes.ownedTupleIsFree (.ref z)>>=_) _ _ _;refine Gb ?_;unfold Builtin.SmallTypes.ownedTupleIsFree;refine Gb (TH r rfl (x:=.none) rfl (Gf ?_));simp only[SD];refine Gb (EV ?_);refine Gb (TH r rfl (x:=.ref TO) rfl ?_);refine Gb (DJ r (by simp) λL J S=>?_);replace J:Ll L z TI TO .ellipsis:=J;have F:∀c b,c≠z->s.heap.get? c=Ga b->L.get? c=Ga b:=λc b Z e=>S.extBut _ _ Z e;refine Gb ?_;simp only[List.zipIdx_cons,List.zipIdx_nil,List.forIn_cons,List.forIn_nil];refine Gb (Gb (SN ?_));show wpAny _ _ (Builtin.SmallTypes.nextOf (.ref i1)>>=_) _ _ _;refine Gb (C.item _ _ _ k x _ (C.keep k _ L h1 λc i b e=>F c b (by rcases i with rfl|rfl;exact d.i1z;exact d.l1z) e) hx λag aa v=>Gf ?_);have N:DP ag TO a t:=v.extBut _ _ d.TOi1 (F _ _ d.TOz ad);refine Gb (Dg N rfl ?_);refine Gb (E6 N λM I q=>?_);replace I:DP M TO x t:=I;refine Gb (SF (Gf ?_));have G:∀c b,c≠z->c≠i1->c≠TO->s.heap.get? c=Ga b->M.get? c=Ga b:=λc b g l p e=>q.extBut _ _ p (v.extBut _ _ l (F c b g e));refine Gb (Gb (SN ?_));show wpAny _ _ (Builtin.SmallTypes.nextOf (.ref i2)>>=_) _ _ _;refine Gb (D.item _ _ _ k y _ (D.keep k _ M h2 λc i b e=>by
  rcases i with rfl|rfl
  .exact G _ b d.i2z d.i12.symm d.TOi2.symm e
  .exact G _ b d.l2z d.l2i1 d.l2TO e) hy λah ab m=>Gf ?_)
 have O:DP ah TO x t:=m.extBut _ _ d.TOi2 I;refine Gb (Dg O rfl ?_);refine Gb (E6 O λf u j=>?_);replace u:DP f TO x y:=u;refine Gb (SF (Gf (Gf ?_)));refine Gb (Dg u rfl ?_);refine Gb (Mc ?_);have R:f.objs.size=s.heap.objs.size:=by rw[j.1,m.1,q.1,v.1,S.1]
 have W:Ll f z TI TO .ellipsis:=j.extBut _ _ d.TOz.symm (m.extBut _ _ d.i2z.symm (q.extBut _ _ d.TOz.symm (v.extBut _ _ d.i1z.symm J)));have ae:∀c b,c≠z->c≠TO->c≠i1->c≠i2->s.heap.get? c=Ga b->f.get? c=Ga b:=λc b g l p H e=>j.extBut _ _ l (m.extBut _ _ H (G c b g p l e));have V:z<f.objs.size:=Heap.lt_size W;show wpAny _ _ (Builtin.SmallTypes.ownedTupleHandOut (.ref z) (.ref f.objs.size)>>=_) _ _ _;refine Gb ?_;unfold Builtin.SmallTypes.ownedTupleHandOut;have af:Ll (f.push {cls:=.type "tuple",data:=.seq #[x,y]}) z TI TO .ellipsis:=Heap.get?_push_of_some _ W;refine Gb (DJ af (by simp) λai K T=>?_);replace K:Ll ai z TI TO (rawInt f.objs.size):=K;refine DJ K (by simp) λn B U=>?_;replace B:Ll n z TI TO (rawInt f.objs.size):=B;have o:∀c b,c≠z->f.get? c=Ga b->n.get? c=Ga b:=λc b g e=>U.extBut _ _ g (T.extBut _ _ g (Heap.get?_push_of_some _ e));have P:DP n f.objs.size x y:=U.extBut _ _ (Tx V) (T.extBut _ _ (Tx V) (Heap.get?_push_size _ Xb));rw[R]at B P;refine Gf {_,Xb,?_};show Q (.ref f.objs.size) _;rw[R];have X:S1 (k+1) n:=C.keep _ _ _ aa λc i b e=>by
  rcases i with rfl|rfl
  .exact o _ b d.i1z (j.extBut _ _ d.TOi1.symm (m.extBut _ _ d.i12 (q.extBut _ _ d.TOi1.symm e)))
  .exact o _ b d.l1z (j.extBut _ _ d.l1TO (m.extBut _ _ d.l1i2 (q.extBut _ _ d.l1TO e)))
 have Y:S2 (k+1) n:=D.keep _ _ _ ab λc i b e=>by
  rcases i with rfl|rfl
  .exact o _ b d.i2z (j.extBut _ _ d.TOi2.symm e)
  .exact o _ b d.l2z (j.extBut _ _ d.l2TO e)
 exact hQ n B (o _ _ d.TOz u) X Y P λc b g l p H e=>o c b g (ae c b g l p H e)
theorem yp{a:Gc}{f:Bool}{i:Ek}{Q:Bool->Gk->Prop}(e:I0 s.heap z TI TO a f)(h:s.heap.get? a=Ga i)(g:∀b,I0 b z TI TO a Gg->Heap.SameBut z s.heap b->Q Gq {s with heap:=b}):
  wpAny (Tb prog w) A (Builtin.SmallTypes.ownedTupleIsFree (.ref z)) Q E s:=by
 unfold Builtin.SmallTypes.ownedTupleIsFree;refine Gb (TH e rfl (x:=rawInt a) rfl ?_);show wpAny _ _ (loadIfAlive ((a:Int).toNat)>>=_) _ _ _;rw[Dy];refine Gb (RS h ?_);simp only[Option.isNone_some,TM,Dm];refine Gb (TH e rfl (x:=.bool f) rfl ?_);cases f with
 |true=>rw[Gh (show¬((Value.bool Gg !=Value.bool Gg)=Gg)from GO)];exact Gf (g _ e (Heap.SameBut.refl _ _))
 |false=>rw[Gn (show(Value.bool Gq !=Value.bool Gg)=Gg from rfl)];exact Gb (DJ e (by simp) λd b c=>Gf (g d b c))
end
section
variable{prog:Gi}{w:Gu}{A:TL}{E:Value->Gk->Prop}{s:Gk}{z TI TO i1 i2 l1 l2:Gc}{k:Nat}{xs ys:Array Value}{S1 S2:Nat->Heap->Prop}
theorem Kd{y:Value}{a:Gc}{f:Bool}{S:Ek}(D:Mb z TI TO i1 i2 l1 l2)(u:gR prog w i1 l1 xs S1)(B:gR prog w i2 l2 ys S2)
  (I:I0 s.heap z TI TO a f)(O:s.heap.get? a=Ga S)(H:DP s.heap TI (.ref i1) (.ref i2))(L:S1 k s.heap)(M:S2 k s.heap)(P:xs[k]?=Ga x)(R:ys[k]?=Ga y)
  (N:∀q,I0 q z TI TO a Gg->S1 (k+1) q->S2 (k+1) q->DP q s.heap.objs.size x y->
   (∀c o,c≠z->c≠i1->c≠i2->s.heap.get? c=Ga o->q.get? c=Ga o)->Q (.ref s.heap.objs.size) {s with heap:=q}):
  wpAny (Tb prog w) A (Builtin.«zip.__next__» {[.ref z],[]}) (λfin s'=>∃v,fin=.done (.ret v)/\Q v s') E s:=by
 show wpAny _ _ (field (.ref z) 2>>=_) _ _ _;refine Gb (TH I rfl (x:=.bool Gq) rfl ?_);show wpAny _ _ (field (.ref z) 3>>=_) _ _ _;refine Gb (TH I rfl (x:=.ref TI) rfl ?_);refine Gb (Dg H rfl ?_);show wpAny _ _ (Builtin.SmallTypes.ownedTupleIsFree (.ref z)>>=_) _ _ _;refine Gb (yp I O λj p i=>?_);have J:∀c o,c≠z->s.heap.get? c=Ga o->j.get? c=Ga o:=λc o h e=>i.extBut _ _ h e;simp only[TM,Dm];refine Gb ?_;rw[<-EH];simp only[List.forIn_cons,List.forIn_nil];refine Gb (Gb (T5 ?_));show wpAny _ _ (Builtin.SmallTypes.nextOf (.ref i1)>>=_) _ _ _;refine Gb (u.item _ _ _ k x _ (u.keep k _ j L λc r o e=>J c o (by rcases r with rfl|rfl;exact D.i1z;exact D.l1z) e) P λl m d=>Gf (Gf ?_));have C:∀c o,c≠z->c≠i1->s.heap.get? c=Ga o->l.get? c=Ga o:=λc o F G e=>d.extBut _ _ G (J c o F e);refine Gb (Gb (T5 ?_));show wpAny _ _ (Builtin.SmallTypes.nextOf (.ref i2)>>=_) _ _ _;refine Gb (B.item _ _ _ k y _ (B.keep k _ l M λc r o e=>by
  rcases r with rfl|rfl
  .exact C _ o D.i2z D.i12.symm e
  .exact C _ o D.l2z D.l2i1 e) R λg n b=>Gf (Gf (Gf ?_)))
 refine Gb (Mc (hsz:=by show 2<=Gj;decide) ?_);have hsz:g.objs.size=s.heap.objs.size:=by rw[b.1,d.1,i.1]
 refine Gf {_,Xb,?_};show Q (.ref g.objs.size) _;rw[hsz];have t:∀c o,g.get? c=Ga o->(g.push {cls:=.type "tuple",data:=.seq #[x,y]}).get? c=Ga o:=λc o e=>Heap.get?_push_of_some _ e;refine N _ (t _ _ (b.extBut _ _ D.i2z.symm (d.extBut _ _ D.i1z.symm p))) (u.keep _ _ _ m λc r o e=>t _ _ ?_) (B.keep _ _ _ n λc r o e=>t _ _ e) (by rw[<-hsz];exact Heap.get?_push_size _ Xb) λc o F G K e=>t _ _ (b.extBut _ _ K (C c o F G e));rcases r with rfl|rfl
 .exact b.extBut _ _ D.i12 e
 .exact b.extBut _ _ D.l1i2 e
theorem KS{a N:Value}{Y:Fin->Gk->Prop}(G:A.handled=Ge)(e:Mb z TI TO i1 i2 l1 l2)(r:gR prog w i1 l1 xs S1)(D:gR prog w i2 l2 ys S2)
  (h:Ll s.heap z TI TO .none\/∃c O X,I0 s.heap z TI TO c O/\s.heap.get? c=Ga X)(R:DP s.heap TI (.ref i1) (.ref i2))(aa:DP s.heap TO a N)(P:S1 k s.heap)(Q:S2 k s.heap)(T:xs[k]?=Ge\/ys[k]?=Ge)
  (F:∀p d,(∀c b,c≠z->c≠TO->c≠i1->c≠i2->s.heap.get? c=Ga b->p.get? c=Ga b)->(∃b,p.get? d=Ga b/\b.cls=.type "StopIteration")->E (.ref d) {s with heap:=p}):
  wpAny (Tb prog w) A (Builtin.«zip.__next__» {[.ref z],[]}) Y E s:=by
 rcases h with h|⟨p,O,X,h,ha⟩
 .show wpAny _ _ (field (.ref z) 2>>=_) _ _ _;refine Gb (TH h rfl (x:=.bool Gq) rfl ?_);show wpAny _ _ (field (.ref z) 3>>=_) _ _ _;refine Gb (TH h rfl (x:=.ref TI) rfl ?_);refine Gb (Dg R rfl ?_);show wpAny _ _ (Builtin.SmallTypes.ownedTupleIsFree (.ref z)>>=_) _ _ _;refine Gb ?_;unfold Builtin.SmallTypes.ownedTupleIsFree;refine Gb (TH h rfl (x:=.none) rfl (Gf ?_));simp only[SD];refine Gb (EV ?_);refine Gb (TH h rfl (x:=.ref TO) rfl ?_);refine Gb (DJ h (by simp) λt B K=>?_);replace B:Ll t z TI TO .ellipsis:=B;have l:∀c b,c≠z->s.heap.get? c=Ga b->t.get? c=Ga b:=λc b g d=>K.extBut _ _ g d;refine Gb ?_;simp only[List.zipIdx_cons,List.zipIdx_nil,List.forIn_cons,List.forIn_nil];refine Gb (Gb (SN ?_));show wpAny _ _ (Builtin.SmallTypes.nextOf (.ref i1)>>=_) _ _ _;have C:=r.keep k _ t P λc n b d=>l c b (by rcases n with rfl|rfl;exact e.i1z;exact e.l1z) d;cases hx:xs[k]? with
  |none=>
   refine Gb (r.fin _ _ _ k _ G C hx λm d i o=>?_);obtain⟨M,p,y⟩:=o;have H:Ll m z TI TO .ellipsis:=i _ _ e.i1z.symm B;have J:d≠z:=λx=>by subst x;rw[H]at p;cases p;simp at y
   refine DJ H (by simp) λu _ q=>F u d (λc b f _ j _ x=>q.extBut _ _ f (i _ _ j (l _ _ f x))) {M,q.extBut _ _ J p,y}
  |some x=>
   have L:ys[k]?=Ge:=by rcases T with g|g;rw[hx]at g;cases g;exact g
   refine Gb (r.item _ _ _ k x _ C hx λm Z i=>Gf ?_);have S:DP m TO a N:=i.extBut _ _ e.TOi1 (l _ _ e.TOz aa);refine Gb (Dg S rfl ?_);refine Gb (E6 S λu ad q=>?_);refine Gb (SF (Gf ?_));have H:∀c b,c≠z->c≠i1->c≠TO->s.heap.get? c=Ga b->u.get? c=Ga b:=λc b f v j d=>q.extBut _ _ j (i.extBut _ _ v (l c b f d));refine Gb (Gb (SN ?_));show wpAny _ _ (Builtin.SmallTypes.nextOf (.ref i2)>>=_) _ _ _;refine Gb (D.fin _ _ _ k _ G (D.keep k _ u Q λc n b d=>by
    rcases n with rfl|rfl
    .exact H _ b e.i2z e.i12.symm e.TOi2.symm d
    .exact H _ b e.l2z e.l2i1 e.l2TO d) L λab d U o=>?_)
   obtain⟨M,p,y⟩:=o;have W:Ll ab z TI TO .ellipsis:=U _ _ e.i2z.symm (q.extBut _ _ e.TOz.symm (i.extBut _ _ e.i1z.symm B));have J:d≠z:=λx=>by subst x;rw[W]at p;cases p;simp at y
   refine DJ W (by simp) λac _ V=>F ac d (λc b f v j I x=>V.extBut _ _ f (U _ _ I (H c b f j v x))) {M,V.extBut _ _ J p,y}
 .show wpAny _ _ (field (.ref z) 2>>=_) _ _ _;refine Gb (TH h rfl (x:=.bool Gq) rfl ?_);show wpAny _ _ (field (.ref z) 3>>=_) _ _ _;refine Gb (TH h rfl (x:=.ref TI) rfl ?_);refine Gb (Dg R rfl ?_);show wpAny _ _ (Builtin.SmallTypes.ownedTupleIsFree (.ref z)>>=_) _ _ _;refine Gb (yp h ha λt B K=>?_);have l:∀c b,c≠z->s.heap.get? c=Ga b->t.get? c=Ga b:=λc b g d=>K.extBut _ _ g d;simp only[TM,Dm];refine Gb ?_;rw[<-EH];simp only[List.forIn_cons,List.forIn_nil];refine Gb (Gb (T5 ?_));show wpAny _ _ (Builtin.SmallTypes.nextOf (.ref i1)>>=_) _ _ _;have C:=r.keep k _ t P λc n b d=>l c b (by rcases n with rfl|rfl;exact e.i1z;exact e.l1z) d;cases hx:xs[k]? with
  |none=>exact Gb (r.fin _ _ _ k _ G C hx λm d i o=>F m d (λc b f _ j _ x=>i _ _ j (l _ _ f x)) o)
  |some x=>
   have L:ys[k]?=Ge:=by rcases T with g|g;rw[hx]at g;cases g;exact g
   refine Gb (r.item _ _ _ k x _ C hx λm Z i=>Gf (Gf ?_));have p:∀c b,c≠z->c≠i1->s.heap.get? c=Ga b->m.get? c=Ga b:=λc b f v d=>i.extBut _ _ v (l c b f d);refine Gb (Gb (T5 ?_));show wpAny _ _ (Builtin.SmallTypes.nextOf (.ref i2)>>=_) _ _ _;exact Gb (D.fin _ _ _ k _ G (D.keep k _ m Q λc n b d=>by
    rcases n with rfl|rfl
    .exact p _ b e.i2z e.i12.symm d
    .exact p _ b e.l2z e.l2i1 d) L λu d q o=>F u d (λc b f _ j I x=>q _ _ I (p c b f j x)) o)
structure pU(S1 S2:Nat->Heap->Prop)(xs ys:Array Value)(z TI TO i1 i2 S:Gc)(i:Nat)(h:Heap)(acc:List Value):Prop where
 zip:(i=0/\Ll h z TI TO .none)\/∃c f oa,I0 h z TI TO c f/\h.get? c=Ga oa/\c≠S/\c≠z/\c≠TO/\c≠i1/\c≠i2
 ti:DP h TI (.ref i1) (.ref i2)
 to:∃a b,DP h TO a b
 s1:S1 i h
 s2:S2 i h
 len:acc.length=i
 sl:S<h.objs.size
 out:∀(j:Nat)v,acc[j]?=Ga v->∃c x y,v=.ref c/\xs[j]?=Ga x/\ys[j]?=Ga y/\DP h c x y/\c≠S/\c≠z/\c≠TO/\c≠i1/\c≠i2/\z<c
theorem uy{Q:Option Value->Gk->Prop}{R:Value->Gk->Prop}(b:s.TypeIs (.ref z) "zip")(h:wpAny (Tb prog w) A.in1 (Builtin.«zip.__next__» {[.ref z],[]}) (λfin s'=>∃v,fin=.done (.ret v)/\Q (Ga v) s') (λe s'=>∃o,(∃a,e=.ref a/\s'.heap.get? a=Ga o/\o.cls=.type "StopIteration")/\Q Ge s') s):wpAny (Tb prog w) A (pyNext (.ref z)) Q E s:=by
 unfold pyNext;refine Gb (EY (TQ (name:=Dz "__next__") b F.slot_zip_next
  (Tz F.slot_zip_next b F.entry_zip_next (DI h (λfin s'⟨v,e,q⟩=>{v,e,Gf q}) λe s'⟨o,⟨a,c,f,d⟩,q⟩=>?_) (F.args_zip_next_1 _))))
 subst c;exact Gb (ED (T:="StopIteration") (b:=Gg) ⟨o,f,d⟩ Ly (Gf q))
theorem pU.type{S:Gc}{h:Heap}{a:List Value}(x:pU S1 S2 xs ys z TI TO i1 i2 S i h a):MV {s with heap:=h} (.ref z) "zip":=by
 rcases x.zip with⟨_,e⟩|⟨c,f,b,e,_⟩
 .exact{_,e,Xb}
 .exact{_,e,Xb}
theorem IY{S:Gc}(hh:A.handled=Ge)(q:Mb z TI TO i1 i2 l1 l2)(F:gR prog w i1 l1 xs S1)(G:gR prog w i2 l2 ys S2)(B:S≠z/\S≠TI/\S≠TO/\S≠i1/\S≠i2/\S≠l1/\S≠l2):
  lZ prog w A z S [z,TO,i1,i2] (min xs.size ys.size) (pU S1 S2 xs ys z TI TO i1 i2 S)
   (λh H=>∀(n:Nat)v,H[n]?=Ga v->∃c x y,v=.ref c/\xs[n]?=Ga x/\ys[n]?=Ga y/\DP h c x y/\c≠S/\z<c):=by
 have E:∀{c:Gc},c≠z->c≠TO->c≠i1->c≠i2->c∉[z,TO,i1,i2]:=λa l c d h=>by simp at h;rcases h with h|h|h|h<;>contradiction
 have u:∀{c:Gc},c∉[z,TO,i1,i2]->c≠z/\c≠TO/\c≠i1/\c≠i2:=λh=>by simp at h;exact h
 refine{λi s H ab ad hi b Z=>?_,λs H ab ad b Z=>?_,λi h f H b k Q=>?_}
 .have hx:xs[i]?=Ga xs[i]:=Tj (by ext);have hy:ys[i]?=Ga ys[i]:=Tj (by ext);obtain⟨ta,tb,D⟩:=b.to;have Q:=b.sl;refine uy (R:=λ_ _=>True) b.type ?_;have ac:∀f,(∃c t r,I0 f z TI TO c t/\f.get? c=Ga r/\c≠S/\c≠z/\c≠TO/\c≠i1/\c≠i2)->(∃a l,DP f TO a l)->S1 (i+1) f->S2 (i+1) f->DP f s.heap.objs.size xs[i] ys[i]->(∀c g,c≠z->c≠TO->c≠i1->c≠i2->s.heap.get? c=Ga g->f.get? c=Ga g)->ab (Ga (.ref s.heap.objs.size)) {s with heap:=f,toks:=s.toks}:=by
   intro f ag af J K E m;have X:z<s.heap.objs.size:=by rcases b.zip with⟨_,e⟩|⟨c,t,r,e,_⟩<;>exact Heap.lt_size e
   have aa:TO<s.heap.objs.size:=Heap.lt_size D;have ah:i1≠s.heap.objs.size:=Tg (F.there _ _ b.s1).1;have ai:i2≠s.heap.objs.size:=Tg (G.there _ _ b.s2).1;refine Z _ f s.toks {.inr ag,m _ _ q.TIz q.TITO q.TIi1 q.TIi2 b.ti,af,J,K,by simp[b.len],Np Q (Heap.lt_size E),λn v o=>?_} λl g j e=>m l g (u j).1 (u j).2.1 (u j).2.2.1 (u j).2.2.2 e;rcases Tn n H.length with h|h
   .rw[List.getElem?_append_left h]at o;obtain⟨c,x,y,M,N,O,P,I,T,U,V,W,L⟩:=b.out n v o;exact{c,x,y,M,N,O,m _ _ T U V W P,I,T,U,V,W,L}
   .rw[List.getElem?_append_right h]at o;have h0:n - H.length=0:=by have:=(List.getElem?_eq_some_iff.mp o).1;simp at this;ext
    rw[h0]at o;simp at o;subst o;have:n=i:=by have:=b.len;ext
    subst this;exact{_,_,_,Xb,hx,hy,E,Tx Q,Tx X,Tx aa,Gp ah,Gp ai,X}
  have X:z<s.heap.objs.size:=by rcases b.zip with⟨_,e⟩|⟨c,t,r,e,_⟩<;>exact Heap.lt_size e
  have aa:TO<s.heap.objs.size:=Heap.lt_size D;rcases b.zip with⟨_,p⟩|⟨c,t,r,p,C,R,c2,c3,c4,c5⟩
  .exact JT q F G p b.ti D b.s1 b.s2 hx hy λf Y ae J K E m=>ac f {_,_,_,Y,E,Tx Q,Tx X,Tx aa,Tx (F.there _ _ b.s1).1,Tx (G.there _ _ b.s2).1} {_,_,ae} J K E m
  .exact Kd q F G p C b.ti b.s1 b.s2 hx hy λf Y J K E m=>ac f {c,Gg,r,Y,m _ _ c2 c4 c5 C,R,c2,c3,c4,c5} {_,_,m _ _ q.TOz q.TOi1 q.TOi2 D} J K E λl g b1 _ b3 b4 e=>m l g b1 b3 b4 e
 .obtain⟨ta,tb,D⟩:=b.to;refine uy (R:=λ_ _=>True) b.type (KS (k:=min xs.size ys.size) hh q F G ?_ b.ti D b.s1 b.s2 ?_ λf e m E=>?_)
  .rcases b.zip with⟨_,p⟩|⟨c,t,r,p,C,_⟩
   .exact .inl p
   .exact .inr ⟨c,t,r,p,C⟩
  .rcases Nat.le_total xs.size ys.size with h|h
   .exact .inl (Di (by ext))
   .exact .inr (Di (by ext))
  .obtain⟨g,J,C⟩:=E;refine{g,⟨e,Xb,J,C⟩,Z f s.toks (λn v o=>?_) λl g j e=>m l g (u j).1 (u j).2.1 (u j).2.2.1 (u j).2.2.2 e};obtain⟨c,x,y,M,N,O,P,I,T,U,V,W,L⟩:=b.out n v o;exact{c,x,y,M,N,O,m _ _ T U V W P,I,L}
 .obtain⟨ta,tb,D⟩:=b.to;refine{?_,k _ _ (Gp B.2.1) b.ti,{ta,tb,k _ _ (Gp B.2.2.1) D},F.keep _ _ _ b.s1 λl j g e=>k l g ?_ e,G.keep _ _ _ b.s2 λl j g e=>k l g ?_ e,b.len,Q,λn v o=>?_}
  .rcases b.zip with⟨L,p⟩|⟨c,t,r,p,C,R,E⟩
   .exact .inl {L,k _ _ (Gp B.1) p}
   .exact .inr {c,t,r,k _ _ (Gp B.1) p,k _ _ R C,R,E}
  .rcases j with rfl|rfl
   .exact Gp B.2.2.2.1
   .exact Gp B.2.2.2.2.2.1
  .rcases j with rfl|rfl
   .exact Gp B.2.2.2.2.1
   .exact Gp B.2.2.2.2.2.2
  .obtain⟨c,x,y,M,N,O,P,I,E⟩:=b.out n v o;exact{c,x,y,M,N,O,k _ _ I P,I,E}
end
theorem KC:typeLookup (.type "zip") "__len__"=pure Ge:=by rw[Sc,Ew];kernel_rfl
theorem AU:typeLookup (.type "zip") "__length_hint__"=pure Ge:=by rw[Sc,Ew];kernel_rfl
section
variable{prog:Gi}{w:Gu}{A:TL}{E:Value->Gk->Prop}{s:Gk}
theorem Kp{z:Gc}{Q:Bool->Gk->Prop}(a:s.TypeIs (.ref z) "zip")(h:Q Gg s):wpAny (Tb prog w) A (Builtin.List.listLengthHint (.ref z)) Q E s:=by unfold Builtin.List.listLengthHint;refine Gb (DV a KC ?_);show wpAny _ A (specialOf (Value.ref z) (Dz "__length_hint__")>>=_) _ _ _;refine Gb (DV a AU ?_);exact Gf h
end
abbrev lH(h:Heap)(l1:Gc):Heap:=h.push {cls:=.type "tuple_iterator",data:=.fields #[.ref l1,.int 0 0]}
abbrev lD(h:Heap)(l1 l2:Gc):Heap:=(lH h l1).push {cls:=.type "tuple_iterator",data:=.fields #[.ref l2,.int 0 0]}
abbrev kr(h:Heap)(l1 l2:Gc):Heap:=(lD h l1 l2).push {cls:=.type "tuple",data:=.seq #[.ref h.objs.size,.ref (lH h l1).objs.size]}
abbrev kP(h:Heap)(l1 l2:Gc):Heap:=(kr h l1 l2).push {cls:=.type "tuple",data:=.seq #[.none,.none]}
abbrev iO(h:Heap)(l1 l2:Gc):Heap:=(kP h l1 l2).push {cls:=.type "zip",data:=.fields #[.none,.bool Gq,.bool Gq,.ref (lD h l1 l2).objs.size,.ref (kr h l1 l2).objs.size]}
theorem KU(a b:Gc)(n o:Array Value):
  Meets (Builtin.«zip.__new__» {[.type "zip",.ref a,.ref b],[]}) (λ_ R s=>s.heap.IsTuple a n/\s.heap.IsTuple b o/\
   R (.ok (.ret (.ref (kP s.heap a b).objs.size))) {s with heap:=iO s.heap a b}):=
 .of_wp λl w A R s h=>by
  obtain⟨j,g,d,m,os⟩:=s;obtain⟨f,i,h⟩:=h;have k:=sub_zip;have c:Heap.IsTuple (NO ⟨j,g,d,m,os⟩) a n:=f;have e:Heap.IsTuple (NO {j.push {cls:=.type "tuple_iterator",data:=.fields #[.ref a,.int 0 0]},g,d,m,os}) b o:=Heap.IsTuple.push i _;wp_walk using Sm c,Sm e
  exact{_,Xb,h}
section
variable{prog:Gi}{w:Gu}{A:TL}{E:Value->Gk->Prop}{s:Gk}
theorem PU{a b:Gc}{q:Array Value}(f:s.heap.IsTuple a xs)(g:s.heap.IsTuple b q)
  (h:∀d,Ll d (s.heap.objs.size+4) (s.heap.objs.size+2) (s.heap.objs.size+3) .none->DP d (s.heap.objs.size+2) (.ref s.heap.objs.size) (.ref (s.heap.objs.size+1))->
   DP d (s.heap.objs.size+3) .none .none->d.IsTupleIter s.heap.objs.size a 0->d.IsTupleIter (s.heap.objs.size+1) b 0->d.objs.size=s.heap.objs.size+5->
   (∀c o,s.heap.get? c=Ga o->d.get? c=Ga o)->Q (.ref (s.heap.objs.size+4)) {s with heap:=d}):
  wpAny (Tb prog w) A (call (.type "zip") [.ref a,.ref b]) Q E s:=by
 refine callType_new F.called_zip (by decide) (F.typeCall_zip_2 _ _) (F.newCall_zip_2 _ _) (λd=>F.args_object_init_3 d _ _) F.entry_zip_new
  (KU a b xs q) {f,g,?_}
 have i:(lH s.heap a).objs.size=s.heap.objs.size+1:=Heap.size_push ..;have j:(lD s.heap a b).objs.size=s.heap.objs.size+2:=by rw[Heap.size_push,i]
 have k:(kr s.heap a b).objs.size=s.heap.objs.size+3:=by rw[Heap.size_push,j]
 have l:(kP s.heap a b).objs.size=s.heap.objs.size+4:=by rw[Heap.size_push,k]
 have t:(iO s.heap a b).objs.size=s.heap.objs.size+5:=by rw[Heap.size_push,l]
 have e:(iO s.heap a b).get? (kP s.heap a b).objs.size=Ga _:=Heap.get?_push_size _ rfl;have p:(iO s.heap a b).get? (kr s.heap a b).objs.size=Ga _:=Heap.get?_push_of_some _ (Heap.get?_push_size _ Xb);have n:(iO s.heap a b).get? (lD s.heap a b).objs.size=Ga _:=Heap.get?_push_of_some _ (Heap.get?_push_of_some _ (Heap.get?_push_size _ Xb));have m:(iO s.heap a b).get? (lH s.heap a).objs.size=Ga _:=Heap.get?_push_of_some _ (Heap.get?_push_of_some _ (Heap.get?_push_of_some _ (Heap.get?_push_size _ Xb)));have r:(iO s.heap a b).get? s.heap.objs.size=Ga _:=Heap.get?_push_of_some _ (Heap.get?_push_of_some _ (Heap.get?_push_of_some _ (Heap.get?_push_of_some _ (Heap.get?_push_size _ Xb))));show _/\_;rw[j,k,l]at e;rw[i,j]at n;rw[k]at p;rw[i]at m;rw[l];exact{{_,e,Xb},h _ e n p {_,r,Xb,Xb} {_,m,Xb,Xb} t λc o x=>Heap.get?_push_of_some _ (Heap.get?_push_of_some _ (Heap.get?_push_of_some _ (Heap.get?_push_of_some _ (Heap.get?_push_of_some _ x))))}
theorem xR{H I:Nat->Heap->Prop}{N O:Gc}{l:Array Value}{n0:Nat}(V:A.handled=Ge)(B:gR prog w n0 N xs H)(C:gR prog w (n0+1) O l I)(J:N<n0)(K:O<n0)(a:s.heap.objs.size=n0+5)
  (Z:Ll s.heap (n0+4) (n0+2) (n0+3) .none)(m:DP s.heap (n0+2) (.ref n0) (.ref (n0+1)))(n:DP s.heap (n0+3) .none .none)(r:H 0 s.heap)(t:I 0 s.heap)(Y:min xs.size l.size<=Gj)
  (U:∀g u d c,(∀b o,b<n0->s.heap.get? b=Ga o->g.get? b=Ga o)->g.get? (n0+5)=Ga {cls:=.type "list",dict:=Ge,data:=.seq d c,slots:=#[]}->d.size=min xs.size l.size->
   (∀(j:Nat)v,d.toList[j]?=Ga v->∃c x y,v=.ref c/\xs[j]?=Ga x/\l[j]?=Ga y/\DP g c x y/\c≠n0+5/\n0<=c)->Q (.ref (n0+5)) {s with heap:=g,toks:=u}):
  wpAny (Tb prog w) A (call (.type "list") [.ref (n0+4)]) Q E s:=by
 have D:=Mr (n:=n0) J K;have G:=IY (A:=A.in1.in1) (S:=s.heap.objs.size) V D B C {by rw[a];exact Tx (DF _),by rw[a];exact Tx (by show n0+2<n0+5;exact Ei (by decide) _),by rw[a];exact Tx (by show n0+3<n0+5;exact Ei (by decide) _),by rw[a];exact Tx (SV (by decide)),by rw[a];exact Tx (by show n0+1<n0+5;exact Ei (by decide) _),by rw[a];exact Tx (Te J (T4 _ _)),by rw[a];exact Tx (Te K (T4 _ _))};refine u9 (T:="zip") (hb:=Gg) G (λb hb=>?_) (by rw[a];exact DF _) Y (λP f q=>{.inl {Xb,f _ _ Z},f _ _ m,{_,_,f _ _ n},B.keep _ _ _ r λb _ o e=>f b o e,C.keep _ _ _ t λb _ o e=>f b o e,Xb,q,λj v p=>by simp at p}) (λh d i=>i.type) (by decide) (by decide) (λA E h Q i k=>?_) (λA E h Q i k=>Kp i.type k) (λg u d c W L X M=>?_)
 .simp only[List.mem_cons,List.not_mem_nil,E4]at hb;rw[a];rcases hb with h|h|h|h<;>rw[h]
  .exact DF _
  .exact Ei (by decide) _
  .exact SV (by decide)
  .exact Ei (by decide) _
 .rcases i.zip with⟨_,e⟩|⟨c,f,q,e,_⟩
  .exact wpAny_pyIter_zip e k
  .refine SG (s:={s with heap:=h}) {_,e,Xb} F.slot_zip_iter (Tz F.slot_zip_iter {_,e,Xb} F.entry_zip_iter ?_ (F.args_zip_iter_1 _));show wpAny _ _ (ret (.ref (n0+4))) _ _ _;exact Gf {_,Xb,"zip",_,{_,e,Xb},F.slot_zip_next.lookup,k}
 .rw[a]at L M⊢;refine U g u d c (λb o hb e=>W b o (λz=>?_) e) L X λj v p=>?_
  .simp only[List.mem_cons,List.not_mem_nil,E4]at z;rcases z with h|h|h|h<;>rw[h]at hb
   .exact absurd hb (L6.mpr (T4 _ _))
   .exact absurd hb (L6.mpr (T4 _ _))
   .exact absurd hb (Ds _)
   .exact absurd hb (L6.mpr (T4 _ _))
  .obtain⟨c,x,y,f,q,P,R,S,T⟩:=M j v p;exact{c,x,y,f,q,P,R,S,Se (DG (T4 _ _) T)}
end
end PySem
namespace L2
open PySem PySem.Spec PyProof.Rows
theorem zu.BZ{X:Cx}{a:List (Gc×Ek)}{l:List (Option V)}{H f:Hp}{s:Gk}{h:Heap}{m:Nat}(I:zu X a l H s)(k:∀b u,s.heap.get? b=Ga u->h.get? b=Ga u)(d:∀b,b<s.heap.objs.size->f b=H b)
  (i:∀b o,s.heap.objs.size<=b->f b=Ga o->Z1 X.prog X.w f h b o):zu X a l f {s with heap:=h,toks:=m}:=by
 have g:∀b o,H b=Ga o->f b=Ga o:=λb o e=>by rw[d b (I.Zv b o e).lt];exact e
 refine I.un {λb u q _ _ _=>k b u q,λb u q _ _ _=>{u.slots,k b u q},λb u q n _=>by rw[d b (Heap.lt_size q)];exact n,λb u q _=>{u,k b u q},λb p e=>g b _ e,λb o u e=>g b _ e,λb r e=>{#[],by rw[g b _ e];simp}} λb o e=>?_;by_cases j:b<s.heap.objs.size
 .rw[d b j]at e;exact(I.Zv b o e).iF (λc u _ q=>k c u q) (λc q=>g c _ q) λc p q=>g c _ q
 .exact i b o (FE j) e
def jD(H:Hp)(v:V)(p:V×V):Prop:=∃c,v=.ref c/\H c=Ga (.tup [p.1,p.2])
def HA(K:Gd):List V->Hp->VK->Prop:=λa H Q=>∃p q xs ys,a=[.ref p,.ref q]/\((Zb K H p xs/\Zb K H q ys)\/(Zz K H p xs/\Zz K H q ys))/\
 ∀(r:Gc)(es:List V)(H':Hp),Qx H H'->H r=Ge->H' r=Ga (.lst es)->Paired (jD H') es (xs.zip ys)->Q (.ref r) H'
open Classical in
noncomputable def hR(H:Hp)(r:Gc)(es:List V)(xs ys:List V):Hp:=λb=>if b=r then Ga (.lst es)else if h:∃p:V×V,∃j:Nat,es[j]?=Ga (.ref b)/\xs[j]?=Ga p.1/\ys[j]?=Ga p.2 then Ga (.tup [(EW h).1,(EW h).2])else H b
section
variable{X:Cx}{zq:List (Gc×Ek)}{σ:St}{H:Hp}{s:Gk}
theorem rZ{E:Heap}{tk c:Nat}{h:Nat}{f:Array Value}{l m:List V}{us ws:List Value}(T:zu X zq σ H s)(I:s.heap.objs.size=h)(rx:Zt l us)(ry:Zt m ws)(hk:∀b D,b<h->s.heap.get? b=Ga D->E.get? b=Ga D)
  (hS:E.get? (h+5)=Ga {cls:=.type "list",dict:=Ge,data:=.seq f c,slots:=#[]})(C:f.size=min us.length ws.length)(q:l.length<=Gj)
  (Y:∀(a:Nat)v,f.toList[a]?=Ga v->∃c x y,v=.ref c/\us[a]?=Ga x/\ws[a]?=Ga y/\DP E c x y/\c≠h+5/\h<=c):
  ∃e J,zu X zq σ J {s with heap:=E,toks:=tk}/\Qx H J/\H (h+5)=Ge/\J (h+5)=Ga (.lst e)/\Paired (jD J) e (l.zip m):=by
 have lx:=rx.length;have ly:=ry.length;have ex:∀a:Nat,a<f.size->∃c,f.toList[a]?=Ga (Value.ref c):=λa z=>by
  have d:f.toList[a]?=Ga f[a]:=by rw[T9,Tj z]
  obtain⟨c,x,y,g,_⟩:=Y a _ d;exact{c,by rw[d,g]}
 let e:List V:=(List.range f.size).map λa=>match f.toList[a]? with|some (Value.ref c)=>V.ref c|_=>V.non
 have U:∀(a:Nat)c,f.toList[a]?=Ga (Value.ref c)->e[a]?=Ga (V.ref c):=λa c d=>by
  have z:a<f.size:=by rw[<-TF];exact(List.getElem?_eq_some_iff.mp d).1
  show((List.range f.size).map _)[a]?=_;rw[List.getElem?_map,List.getElem?_range z,T3];simp only[d]
 have ad:∀(a:Nat)b,e[a]?=Ga (V.ref b)->f.toList[a]?=Ga (Value.ref b):=λa b d=>by
  have z:a<f.size:=by have:=(List.getElem?_eq_some_iff.mp d).1;simpa[e]using this
  obtain⟨c,K⟩:=ex a z;rw[U a c K]at d;cases d;exact K
 have W:e.length=f.size:=by simp[e]
 have lz:f.size=(l.zip m).length:=by rw[List.length_zip,C,lx,ly]
 have L:∀b(p:V×V)(a:Nat),e[a]?=Ga (.ref b)->l[a]?=Ga p.1->m[a]?=Ga p.2->∃u v,zm p.1 u/\zm p.2 v/\DP E b u v/\b≠h+5/\h<=b:=λb p a g k r=>by obtain⟨c,x,y,B,M,N,O,P,Q⟩:=Y a _ (ad a b g);cases B;obtain⟨u,q,R⟩:=rx.get k;obtain⟨v,A,S⟩:=ry.get r;rw[M]at q;cases q;rw[N]at A;cases A;exact⟨x,y,R,S,O,P,Q⟩
 have aa:∀b(p:V×V)(a:Nat),e[a]?=Ga (.ref b)->l[a]?=Ga p.1->m[a]?=Ga p.2->hR H (h+5) e l m b=Ga (.tup [p.1,p.2]):=λb p a g k r=>by obtain⟨u,v,r1,r2,n,o,_⟩:=L b p a g k r;have B:∃p:V×V,∃a:Nat,e[a]?=Ga (.ref b)/\l[a]?=Ga p.1/\m[a]?=Ga p.2:=⟨p,a,g,k,r⟩;unfold hR;rw[Gh o,dif_pos B];obtain⟨Q,M,N,O⟩:=Lq B;obtain⟨u',v',R,S,P,_⟩:=L b (EW B) Q M N O;have:({cls:=.type "tuple",data:=.seq #[u,v]}:Ek)={cls:=.type "tuple",data:=.seq #[u',v']}:=To (n.symm.trans P);injection this with _ _ q;injection q with q;injection q with q;injection q with F w;injection w with w;subst F w;rw[r1.inj R,r2.inj S]
 have ab:∀b,b<h->hR H (h+5) e l m b=H b:=λb o=>by unfold hR;rw[Gh (Tg (Te o (T4 _ _))),dif_neg];rintro⟨p,a,g,k,r⟩;obtain⟨_,_,_,_,_,_,q⟩:=L b p a g k r;exact absurd o (L6.mpr q)
 have ac:∀b,h<=b->H b=Ge:=λb o=>T.Zv.fresh (by rw[I];exact o);exists e,hR H (h+5) e l m,?_,λb D d=>?_,ac _ (T4 _ _),(by unfold hR;rw[Gn rfl])
 .refine T.BZ (λb u d=>hk b u (by rw[<-I];exact Heap.lt_size d) d) (λb o=>ab b (by rw[<-I];exact o)) λb D o d=>?_;by_cases F:b=h+5
  .subst F;have:D=.lst e:=by unfold hR at d;rw[Gn rfl]at d;exact(To d).symm
   subst this;refine{by rw[W,lz,List.length_zip];lia,f.toList,c,?_,by rw[Eb];exact hS};have all:∀(i:List Value)(j:List V),i.length=j.length->(∀a:Nat,∀v,i[a]?=Ga v->∃c,v=.ref c/\j[a]?=Ga (V.ref c))->Zt j i:=by
    intro i;induction i with
    |nil=>intro j q _;cases j with
     |nil=>exact .nil
     |cons _ _=>simp at q
    |cons v i Z=>intro j q G;cases j with
     |nil=>simp at q
     |cons x j=>obtain⟨t,g,k⟩:=G 0 v rfl;simp at k;subst g k;exact .cons rfl (Z j (by simpa using q) λa v A=>by have:=G (a+1) v (by simpa using A);simpa using this)
   refine all f.toList e (by rw[W,TF]) λa v A=>?_;obtain⟨t,x,y,g,_⟩:=Y a v A;subst g;exact{t,Xb,U a t A}
  .by_cases w:∃p:V×V,∃a:Nat,e[a]?=Ga (.ref b)/\l[a]?=Ga p.1/\m[a]?=Ga p.2
   .obtain⟨p,a,g,k,r⟩:=w;rw[aa b p a g k r]at d;cases d;obtain⟨u,v,r1,r2,n,_⟩:=L b p a g k r;exact{by show 2<=Gj;decide,[u,v],.cons r1 (.cons r2 .nil),_,n,Xb,_,Xb}
   .exfalso;unfold hR at d;rw[Gh F,dif_neg w,ac b (by rw[<-I];exact o)]at d;cases d
 .rw[ab b (by rw[<-I];exact(T.Zv b D d).lt)];exact d
 .have all:∀(j:List V)(i:List (V×V)),j.length=i.length->(∀(a:Nat)p,i[a]?=Ga p->∃v,j[a]?=Ga v/\jD (hR H (h+5) e l m) v p)->Paired (jD (hR H (h+5) e l m)) j i:=by
   intro j;induction j with
   |nil=>intro i C _;cases i with
    |nil=>exact .nil
    |cons _ _=>simp at C
   |cons v j Z=>intro i C G;cases i with
    |nil=>simp at C
    |cons p i=>obtain⟨v',g,k⟩:=G 0 p rfl;simp at g;subst g;exact .cons k (Z i (by simpa using C) λa p n=>by have:=G (a+1) p (by simpa using n);simpa using this)
  refine all e (l.zip m) (by rw[W,lz]) λa p n=>?_;rw[List.getElem?_zip_eq_some]at n;have z:a<f.size:=by have F:=(List.getElem?_eq_some_iff.mp n.1).1;have w:=(List.getElem?_eq_some_iff.mp n.2).1;rw[lz,List.length_zip];lia
  obtain⟨t,K⟩:=ex a z;have:=U a t K;exact{.ref t,this,t,Xb,aa t p a this n.1 n.2}
end
section
variable{X:Cx}{a b:TY}{ta:TA}{p1 p2 pos1 pos2:SX}
theorem uG(hc:X.calm=Gg)(ad:Gl X "list")(af:X.mg "list"=Ge)(ae:Gl X "zip")(ag:X.mg "zip"=Ge)(ha:PA X [a,b] ta)
  (T:Ti [Bi (.Name "zip" p2) [a,b] [] pos2] X.env=(Gq,eval (.Call (.Name "zip" p2) [a,b] [] pos2) X.env)::Ti [] X.env:=by rfl)(ac:Ti [a,b] X.env=(Gq,eval a X.env)::Ti [b] X.env:=by rfl)
  (ah:(DX pos1 (Ti ([]:List TY) X.env)).any (·.1)=Gq:=by rfl)(ai:(DX pos2 (Ti [b] X.env)).any (·.1)=Gq:=by rfl):
  PE X (.Call (.Name "list" p1) [.Call (.Name "zip" p2) [a,b] [] pos2] [] pos1) (tCB (HA X.K) ta):=by
 intro al s am Y an t aa;refine Df (V6 t ad af boot_list ?_);refine callWith_type1 ?_ T ah;rw[T];show wpAny _ _ (spliced ((Gq,eval (.Call (.Name "zip" p2) [a,b] [] pos2) X.env)::DX pos1 (Ti ([]:List TY) X.env))) _ _ s;refine Em ?_;refine Df (V6 t ae ag boot_zip ?_);refine callWith_type1 (Yi (ha pos2 al s am Y _ t aa) λS f⟨vs,H1,i,r1,q1⟩=>?_) ac ai;obtain⟨p,q,xs,ys,rfl,hq,V⟩:=q1;obtain⟨u,o,rfl,ru,rv⟩:=vals2 r1;cases(show u=Value.ref p from ru);cases(show o=Value.ref q from rv);have U:=i.ok.hd hc;rcases hq with⟨z,A⟩|⟨z,A⟩
 .obtain⟨S,n,g,aj⟩:=i.list z;obtain⟨W,R,h,ak⟩:=i.list A;have l:p<f.heap.objs.size:=by obtain⟨_,d,_⟩:=g.isList;exact Heap.lt_size d
  have m:q<f.heap.objs.size:=by obtain⟨_,d,_⟩:=h.isList;exact Heap.lt_size d
  have lx:=n.length;refine call_zip_2 g.isList h.isList λy P C D F G N j=>Ey ?_;refine xR (s:={f with heap:=y}) (n0:=f.heap.objs.size) U (vz (Tg l)) (vz (Tg (Te m (T4 _ _)))) l m N P C D {F,Heap.IsList.at g.isList (λe d=>j _ e d)} {G,Heap.IsList.at h.isList (λe d=>j _ e d)} (by rw[List.size_toArray,List.size_toArray];lia) λab tk Z c H B I K=>?_;obtain⟨w,k,v,x,J,M,L⟩:=rZ (tk:=tk) i rfl n R (λb e E d=>H b e E (j b e d)) B (by simpa using I) (by lia) (λQ o O=>by simpa using K Q o O);exact{.ref (f.heap.objs.size+5),k,v,Xb,V _ w k x J M L}
 .obtain⟨S,n,g,aj⟩:=i.tuple z;obtain⟨W,R,h,ak⟩:=i.tuple A;have g:f.heap.IsTuple p S.toArray:=g;have h:f.heap.IsTuple q W.toArray:=h;have l:p<f.heap.objs.size:=by obtain⟨_,d,_⟩:=g;exact Heap.lt_size d
  have m:q<f.heap.objs.size:=by obtain⟨_,d,_⟩:=h;exact Heap.lt_size d
  have lx:=n.length;refine PU g h λy P C D F G N j=>Ey ?_;refine xR (s:={f with heap:=y}) (n0:=f.heap.objs.size) U (rJ (Tg l)) (rJ (Tg (Te m (T4 _ _)))) l m N P C D {F,let⟨e,d,r⟩:=g;{e,j _ e d,r}} {G,let⟨e,d,r⟩:=h;{e,j _ e d,r}} (by rw[List.size_toArray,List.size_toArray];lia) λab tk Z c H B I K=>?_;obtain⟨w,k,v,x,J,M,L⟩:=rZ (tk:=tk) i rfl n R (λb e E d=>H b e E (j b e d)) B (by simpa using I) (by lia) (λQ o O=>by simpa using K Q o O);exact{.ref (f.heap.objs.size+5),k,v,Xb,V _ w k x J M L}
end
end L2
namespace PySem
theorem IM:typeLookup (.type "list_reverseiterator") "__len__"=pure Ge:=by rw[Sc,Ew];kernel_rfl
theorem HM:typeLookup (.type "list_reverseiterator") "__length_hint__"=pure (Ga (.builtin "list_reverseiterator.__length_hint__")):=by rw[Sc,Ew];kernel_rfl
section
variable{prog:Gi}{w:Gu}{A:TL}{E:Value->Gk->Prop}{s:Gk}
theorem AG{z:Gc}{Q:Bool->Gk->Prop}(c:s.TypeIs (.ref z) "list_reverseiterator")(h:Q Gq s):wpAny (Tb prog w) A (Builtin.List.listLengthHint (.ref z)) Q E s:=by
 unfold Builtin.List.listLengthHint;refine Gb (DV c IM ?_);show wpAny _ A (specialOf (Value.ref z) (Dz "__length_hint__")>>=_) _ _ _;refine Gb (DV c HM ?_);generalize b:("list_reverseiterator.__length_hint__":String)=d
 wp_delta
 rw[show splitId d=Ga ("list_reverseiterator","__length_hint__")from by subst b;decide+kernel];subst b;refine Gb (ED (T:="list_reverseiterator") (b:=Gg) c (by rw[isSubtype_type];kernel_rfl) ?_);refine Sa (λa=>absurd a (by decide)) (λ_=>?_);refine Sa (λ_=>?_) (λa=>absurd (by decide+kernel) a);refine Sa (λa=>absurd a (by decide+kernel)) (λ_=>?_);exact Gf h
structure QR(xs:Array Value)(it l S:Gc)(i:Nat)(h:Heap)(acc:List Value):Prop where
 rv:h.IsRevIter it l ((xs.size:Int) - 1 - (i:Int))
 ls:h.IsList l xs
 acc:acc=xs.toList.reverse.take i
theorem Au{xs:Array Value}{f l S:Gc}(v:A.handled=Ge)(q:S≠f/\S≠l)(n:l≠f):lZ prog w A f S [f] xs.size (QR xs f l S) (λ_ d=>d=xs.toList.reverse):=by
 refine{λi s d Q E x c j=>?_,λs d Q E c j=>?_,λi h g d c k _=>?_}
 .have r:xs[xs.size - 1 - i]?=Ga xs[xs.size - 1 - i]:=Tj (by ext);have e:(xs.size:Int) - 1 - (i:Int)=((xs.size - 1 - i:Nat):Int):=by ext
  have a:=c.rv;rw[e]at a;refine Ls a c.ls r λg p t=>?_;have y:xs.toList.reverse[i]?=Ga xs[xs.size - 1 - i]:=by rw[List.getElem?_reverse (by rw[TF];exact x),TF,T9];exact r
  refine j _ g s.toks {?_,c.ls.extBut t.extBut n,?_} λb o m e=>t.extBut b o (λz=>m (by simp[z])) e
  .have u:((xs.size - 1 - i:Nat):Int) - 1=(xs.size:Int) - 1 - ((i+1:Nat):Int):=by ext
   rw[<-u];exact p
  .rw[c.acc,List.take_add_one,y];rfl
 .have a:=c.rv;rw[show(xs.size:Int) - 1 - (xs.size:Int)= -1 by ext]at a;refine LA v a λg p=>j g s.toks ?_ λb o m e=>p b o (λz=>m (by simp[z])) e;rw[c.acc,<-TF,<-List.length_reverse,List.take_length]
 .exact{c.rv.at λo e=>k f o (Gp q.1) e,c.ls.at λo e=>k l o (Gp q.2) e,c.acc}
end
end PySem
namespace L2
open PySem PySem.Spec PyProof.Rows
def Hu(K:Gd):List V->Hp->VK->Prop:=λa H Q=>∃p xs,a=[.ref p]/\Zb K H p xs/\∀r,H r=Ge->Q (.ref r) (zj H r (.lst xs.reverse))
theorem tV:∀{b:List V}{a:List Value},Zt b a->Zt b.reverse a.reverse
 |_,_,.nil=>.nil
 |_,_,.cons h t=>by rw[List.reverse_cons,List.reverse_cons];exact(tV t).append (.cons h .nil)
theorem IL{X:Cx}{a:TY}{T:TA}{p1 x k g:SX}(n:X.calm=Gg)(G:Gl X "list")(K:X.mg "list"=Ge)(J:Gl X "reversed")(L:X.mg "reversed"=Ge)(Z:PA X [a] T)
  (p:Ti [Bi (.Name "reversed" x) [a] [] g] X.env=(Gq,eval (.Call (.Name "reversed" x) [a] [] g) X.env)::Ti [] X.env:=by rfl)(F:Ti [a] X.env=(Gq,eval a X.env)::Ti [] X.env:=by rfl)
  (M:(DX k (Ti ([]:List TY) X.env)).any (·.1)=Gq:=by rfl)(N:(DX g (Ti ([]:List TY) X.env)).any (·.1)=Gq:=by rfl):
  PE X (.Call (.Name "list" p1) [.Call (.Name "reversed" x) [a] [] g] [] k) (tCB (Hu X.K) T):=by
 intro l s V H Q I h;refine Df (V6 I G K boot_list ?_);refine callWith_type1 ?_ p M;rw[p];show wpAny _ _ (spliced ((Gq,eval (.Call (.Name "reversed" x) [a] [] g) X.env)::DX k (Ti ([]:List TY) X.env))) _ _ s;refine Em ?_;refine Df (V6 I J L MT ?_);refine callWith_type1 (Yi (Z g l s V H _ I h) λus f⟨vs,W,w,r1,q1⟩=>?_) F N;obtain⟨b,xs,rfl,t,q⟩:=q1;obtain⟨u,rfl,ru⟩:=vals1 r1;cases(show u=Value.ref b from ru);obtain⟨d,S,O,hz⟩:=w.list t;have hl:=S.length;have P:b<f.heap.objs.size:=by obtain⟨_,e,_⟩:=O.isList;exact Heap.lt_size e
 refine L4 O.isList (Ey ?_);have j:(f.heap.push (revObj b ((d.toArray.size:Int) - 1))).objs.size=f.heap.objs.size+1:=Heap.size_push ..;have C:(f.heap.push (revObj b ((d.toArray.size:Int) - 1))).objs.size≠f.heap.objs.size:=by rw[j];exact FH _
 have D:(f.heap.push (revObj b ((d.toArray.size:Int) - 1))).objs.size≠b:=by rw[j];exact Tx (Fp P)
 refine u9 (s:={f with heap:=f.heap.push (revObj b ((d.toArray.size:Int) - 1))}) (T:="list_reverseiterator") (hb:=Gq) (Au (xs:=d.toArray) (l:=b) (w.ok.hd n) ⟨C,D⟩ (Tg P)) (λc n=>?_) (by show f.heap.objs.size<(f.heap.push _).objs.size;rw[j];exact DF _) (by rw[List.size_toArray];lia)
  (λh2 R _=>{?_,O.isList.at λo e=>R _ o (Heap.get?_push_of_some _ e),by simp}) (λh m v=>let⟨o,r,n,_⟩:=v.rv;⟨o,r,n⟩) (by decide) (by decide) (λA E h Q v t=>E5 (s:={f with heap:=h}) v.rv t) (λA E h Q v t=>AG (s:={f with heap:=h}) (let⟨o,r,n,_⟩:=v.rv;⟨o,r,n⟩) t) (λy U m c hk B aa r=>?_)
 .have e:c=f.heap.objs.size:=by simpa using n
  rw[e];show f.heap.objs.size<(f.heap.push _).objs.size;rw[j];exact DF _
 .have i:(d.toArray.size:Int) - 1 - ((0:Nat):Int)=(d.toArray.size:Int) - 1:=by lia
  rw[i];exact{_,R _ _ (Heap.get?_push_size _ Xb),Xb,Xb}
 .have B:y.get? (f.heap.push (revObj b ((d.toArray.size:Int) - 1))).objs.size=Ga {cls:=.type "list",dict:=Ge,data:=.seq m c,slots:=#[]}:=B;have i:f.heap.objs.size<=(f.heap.push (revObj b ((d.toArray.size:Int) - 1))).objs.size:=by rw[j];exact EI _
  have Y:zu X l V (zj W (f.heap.push (revObj b ((d.toArray.size:Int) - 1))).objs.size (.lst xs.reverse)) {f with heap:=y,toks:=U}:=
   w.laid (t':=U) (λc o e=>hk c o (λz=>by
    have:c=f.heap.objs.size:=by simpa using z
    exact absurd (Heap.lt_size e) (by rw[this];exact Ds _)) (Heap.get?_push_of_some _ e)) i
    (show Z1 X.prog X.w _ y _ (.lst _)from{by rw[List.length_reverse];lia,m.toList,c,by rw[r];exact tV S,by rw[Eb];exact B})
  exact{.ref (f.heap.push (revObj b ((d.toArray.size:Int) - 1))).objs.size,_,Y,Xb,q _ (w.Zv.fresh i)}
end L2
namespace Nt
inductive jj:Nat->List (Nat×Nat)->Nat->Prop
 |nil (p:Nat):jj p [] p
 |cons {p q z:Nat} {r:List (Nat×Nat)}:jj q r z->jj p ((p,q)::r) z
theorem vD:∀{l:List Nat}{p z:Nat},l.head?=Ga p->l.getLast?=Ga z->jj p (l.zip (l.drop 1)) z
 |[],_,_,h,_=>by simp at h
 |[x],p,z,a,b=>by simp at a b;subst a b;exact .nil _
 |x::y::r,p,z,a,b=>by simp at a;subst a;have c:=vD (l:=y::r) (p:=y) (z:=z) rfl (by rw[List.getLast?_cons_cons]at b;exact b);simp only[List.drop_succ_cons,List.drop_zero,List.zip_cons_cons]at c⊢;exact .cons c
theorem Ch.last{c:Nat->Option Nat}{p:Nat}{l:List Nat}(h:Ch c p l):∃a,l=a++[Zx l]:=by have b:=h.ne;exists l.dropLast;unfold Zx;rw[List.getLastD_eq_getLast?,List.getLast?_eq_some_getLast b];exact(List.dropLast_concat_getLast b).symm
inductive gH(up:Nat->Option Nat)(one other:Nat)(st:List (Nat×Nat)):Prop
 |mk (l1:List Nat) (l2:List Nat) (P:List Nat) (Q:List Nat) (s:List Nat) (m:Nat) (h0:Ch up one l1) (h1:Ch up other l2) (h2:l1=P++m::s) (h3:l2=Q++m::s) (h4:(P=[]\/Q=[]\/P.getLast?≠Q.getLast?)) (h5:st=(P++m::Q.reverse).zip ((P++m::Q.reverse).drop 1)):gH up one other st
theorem xU{P d s c:List Nat}{m g:Nat}(h:P++m::s=d++g::c)(f:s.length<c.length):∃u,P=d++g::u/\c=u++m::s:=by
 rcases List.append_eq_append_iff.mp h with⟨a,e,b⟩|⟨a,e,b⟩
 .have:=congrArg List.length b;simp at this;cases a with
  |nil=>simp at b;rw[b.2]at f;ext
  |cons y a=>simp at this;ext
 .cases a with
  |nil=>simp at b;rw[b.2]at f;ext
  |cons y a=>simp only[List.cons_append,List.cons.injEq]at b;exact{a,by rw[e,b.1],b.2}
theorem gH.uniq{D:Nat->Option Nat}{h c:Nat}{C i:List (Nat×Nat)}(a:gH D h c C)(b:gH D h c i):C=i:=by
 obtain⟨T,U,P,Q,s,m,F,G,H,I,t,rfl⟩:=a;obtain⟨J,K,j,k,d,g,l,n,o,p,w,rfl⟩:=b;have N:=F.uniq l;have O:=G.uniq n;subst N O;have q:P++m::s=j++g::d:=by rw[<-H,o]
 have r:Q++m::s=k++g::d:=by rw[<-I,p]
 have e:∀{P Q j k s d:List Nat}{m g:Nat},P++m::s=j++g::d->Q++m::s=k++g::d->(P=[]\/Q=[]\/P.getLast?≠Q.getLast?)->¬s.length<d.length:=λx y t f=>by
  obtain⟨u,A,L⟩:=xU x f;obtain⟨v,B,M⟩:=xU y f;have:u=v:=by have:=L.symm.trans M;exact List.append_cancel_right this
  subst this;rcases t with z|z|z
  .rw[A]at z;simp at z
  .rw[B]at z;simp at z
  .rw[A,B,List.getLast?_append,List.getLast?_append,List.getLast?_eq_some_getLast (List.cons_ne_nil _ _)]at z;exact z rfl
 have f:s.length=d.length:=by have x:=e q r t;have y:=e q.symm r.symm w;lia
 obtain⟨R,E⟩:=List.append_inj' q (by simp[f]);obtain⟨S,_⟩:=List.append_inj' r (by simp[f]);simp only[List.cons.injEq]at E;rw[R,S,E.1]
structure Way(x:gB W ρ)(one other:Nat)(st:List (Nat×Nat)):Prop where
 path:jj one st other
 lk:∀p q,(p,q)∈st->∃k,x.Xg p q=Ga k/\∀n,Cn (x.links.take n) one other->k<n
 len:st.length<=2*x.S.length
 rel:gH x.up one other st
end Nt
namespace K07
open PySem L2 Sb Nt
def lL(H:Hp)(v:V)(p:Nat×Nat):Prop:=∃c,v=.ref c/\H c=Ga (.tup [jv p.1,jv p.2])
inductive wR(P:Gi)(w:Gu)(C:Gc)(vs:List V)(H:Hp)(Q:VK):Prop
 |mk (n:Gc) (A:Na) (fs:List Fm) (tb:Nat) (x:Nn) (one:Nat) (other:Nat) (h0:vs=[.ref n,jv one,jv other]) (h1:Z7 P w C H n A fs tb x) (h2:Wc (Yg fs) (Zo fs) x []) (h3:one∈x.S) (h4:other∈x.S) (h5:x.lead one=x.lead other) (h6:x.S.length<=1000) (h7:∀(r:Gc)(es:List V)(st:List (Nat×Nat))(H':Hp),Qx H H'->H r=Ge->H' r=Ga (.lst es)->Paired (lL H') es st->Way x one other st->Q (.ref r) H'):wR P w C vs H Q
def p7(P:Gi)(w:Gu)(C:Gc):Sp:=λa H Q _=>wR P w C a H Q
theorem uw(P:List Nat)(a m:Nat):atI ((P++[a,m]).map jv) (-2:Int)=Ga (jv a):=by
 unfold atI ixN;rw[Gh (by decide),Gn (by simp;lia)];have e:((-2:Int)+(((P++[a,m]).map jv).length:Int)).toNat=P.length:=by simp;lia
 rw[e];simp
theorem Py(Q:List Nat)(m:Nat):Ul ((Q++[m]).map jv) Ge (Ga (-1:Int))=Q.map jv:=by
 unfold Ul;rw[HT.Iz];have e:HT.Wr ((Q++[m]).map jv).length ((Q++[m]).map jv).length (Ga (-1:Int))=Q.length:=by show(if(-1:Int)<0 then((-1:Int)+(((Q++[m]).map jv).length:Int)).toNat else min (-1:Int).toNat ((Q++[m]).map jv).length)=_;rw[Gn (by decide)];simp;lia
 rw[e];simp
theorem Cy(l:List V):Ul l (Ga 1) Ge=l.drop 1:=by
 cases l with
 |nil=>rfl
 |cons x r=>rw[gY];rfl
theorem p6{H:Hp}:∀{a:List V}{l m:List Nat},Paired (jD H) a ((l.map jv).zip (m.map jv))->Paired (lL H) a (l.zip m)
 |_,[],m,h=>by simp at h;cases h;simp;exact .nil
 |_,x::l,[],h=>by simp at h;cases h;simp;exact .nil
 |_,x::l,y::m,h=>by
  simp only[List.map_cons,List.zip_cons_cons]at h⊢;cases h with
  |cons h t=>exact .cons h (p6 t)
section
variable{P:Gi}{w:Gu}{K:Gd}{mg:GY->Option Value}{base:Heap}
theorem rW:Qw ["self","one","other","climb","descent","stops"] ["self","one","other"] (Qk iP):=by eq_refl
set_option hygiene false
local macro_rules
 |`(tactic|infer_instance)=>`(tactic|(
 refine{_,Xb,_,Xb,_,Xb,_,Xb,{rd,_,Xb,Zb.of ed,λr1 hr1'=>?_}}
 rw[Py]
 have z1:=Qi (o:=.lst (_root_.List.map jv Qq)) ec (Qc ec hr1')
 refine{r1,_,Xb,Zb.of Qb,λr2 hr2'=>?_}
 have z2:=Qi (o:=.lst (_root_.List.map jv Qq).reverse) z1 (Qc z1 hr2')
 refine{rc,r2,_,_,Xb,Xb,z2,Qb,small (by rw[List.length_reverse,List.length_map,List.length_map,List.length_append];simp only[List.length_cons,List.length_nil];ext),λr3 hr3'=>?_}
 have ecat:List.map jv (Pp++[mm])++(List.map jv Qq).reverse=(Pp++mm::Qq.reverse).map jv:=by simp
 rw[ecat]
 dsimp only[Vn]
 refine{_,Xb,_,Xb,{_,Xb,{r3,_,Xb,Zb.of Qb,λr4 hr4'=>?_}}}
 rw[Cy]
 have n34:r3≠r4:=Qc Qb hr4'
 have s5:Qx H3 (zj (zj (zj (zj H3 r1 (.lst (List.map jv Qq))) r2 (.lst (List.map jv Qq).reverse)) r3 (.lst ((Pp++mm::Qq.reverse).map jv))) r4 (.lst (((Pp++mm::Qq.reverse).map jv).drop 1))):=((Qf hr1' _).trans (Qf hr2' _)).trans ((Qf hr3' _).trans (Qf hr4' _))
 refine{r3,r4,_,_,Xb,.inl {Zb.of (Qi Qb n34),Zb.of Qb},λr es H' sm r0 hr' pr=>?_}
 rw[<-List.map_drop]at pr
 exact q r es _ H' (g3.trans (s5.trans sm)) (g3.free (s5.free r0)) hr' (p6 pr) {vD hone hoth,λp q' hm=>I.fst.way h1 h2 k1 k2 hne p q' hm,by rw[List.length_zip,List.length_append,List.length_cons,List.length_reverse];ext,_,_,_,_,_,_,h1,h2,k1,k2,hne,Xb}))
set_option hygiene true
theorem HP{ab fU G:Gc}{fd ac:Tp}(F:Wj K "way" "Net.way" iP ab fd)(T:Um K mg G)(l:Ii mg)(mU:Yc K G "way_up" fU)(GU:Qu P w K mg base Z5 1 fU ac ["self","place"] (yO P w G))(bU:zk K ac ["self","place"] []):
  Qu P w K mg base Z5 2 ab fd ["self","one","other"] (p7 P w G):=by
 refine F.ok rW (λvs H ai ah h=>?_) (λau E ax s H vs ai ah d h=>?_)
 .obtain⟨n,E,S,Z,x,y,g,rfl,_⟩:=h;rfl
 obtain⟨n,E,S,Z,x,y,g,rfl,X,I,W,Y,he,hS,q⟩:=h;have ad:Yd 1 _:=d.mono (by ext);have V:=rW.nd;show∃t,Ik ?my _ t/\_;let w5:Xf ?my iP 4:={_,Qh (Qv (uG rfl rfl l.list rfl l.zip (Qa (pv 5) (Qa (Yo Jv (pv 5) (Yu Qj) Xt) Qe))))}
 let w4:Xf ?my iP 3:={_,Qd (Qt 5 V (Zh Ue (pv 3) (IL rfl rfl l.list rfl l.reversed (Qa (Yo Jv (pv 4) Xt (Yu (Rr Uz Qj))) Qe)))) w5.2}
 let w3:Xf ?my iP 2:=⟨_,Qd (Ws Gv (PW.pt (J9 (Qr lK (Qo Zg rfl l.len GX (Qa (pv 3) Qe)) Qj (Q4 _)) (J9 (Qr lK (Qo Zg rfl l.len GX (Qa (pv 4) Qe)) Qj (Q4 _))
    (Uq (Qr Va (Qn Ze (pv 3) (Rr Uz Qj)) (Qn Ze (pv 4) (Rr Uz Qj)) (Q4 _))))))
   (Qd (Zc (jr Gs DD DE iX (pv 3)))
   (Qh (Zc (jr Gs DD DE iX (pv 4)))))) w4.2⟩
 let w2:Xf ?my iP 1:={_,Qd (Qt 4 V (Zf (pv 0) T.cl mU GU ad bU .nil Q5 (Qa (pv 2) Qe))) w3.2}
 exists _,Qd (Qt 3 V (Zf (pv 0) T.cl mU GU ad bU .nil Q5 (Qa (pv 1) Qe))) w2.2;obtain⟨u,h1⟩:=I.fst.chain y W;obtain⟨C,h2⟩:=I.fst.chain g Y;have sub1:=I.fst.chS h1 W;have af:=I.fst.chS h2 Y;have av:=Xp h1.nodup sub1;have aw:=Xp h2.nodup af;obtain⟨dx,o1⟩:=X.ob;refine{_,Xb,n,dx,_,Xb,o1,se _,_,Xb,n,E,S,Z,x,y,u,Xb,X,h1,sub1,by ext,λrc H1 J c1 e1=>?_};refine{_,Xb,n,dx,_,Xb,J _ _ o1,se _,_,Xb,n,E,S,Z,x,g,C,Xb,X.same J,h2,af,by ext,λrd H2 g2 d2 e2=>?_};have ao:=J.trans g2;have ar:H rd=Ge:=J.free d2;have ae:rc≠rd:=Qc e1 d2;have er:Zx u=Zx C:=(I.root y g u C W Y h1 h2).mp he;obtain⟨P0,f1⟩:=h1.last;obtain⟨Q0,f2⟩:=h2.last;dsimp only[Vn];exists λm ag H3=>gV λ(Pp Qq L:List Nat)(mm:Nat)=>hJ (m=Pp.length) (u=Pp++mm::L) (C=Qq++mm::L) (ag=[Ga (.ref n),Ga (jv y),Ga (jv g),Ga (.ref rc),Ga (.ref rd),Ge]) (Qx H H3) (H3 rc=Ga (.lst ((Pp++[mm]).map jv))) (H3 rd=Ga (.lst ((Qq++[mm]).map jv))),
  {_,P0,Q0,[],Zx u,Xb,f1,by rw[er];exact f2,Xb,ao,by rw[<-f1];exact g2 _ _ e1,by rw[er,<-f2];exact e2}
 rintro m ag H3 ⟨Pp,Qq,L,mm,rfl,k1,k2,rfl,g3,ec,ed⟩;have lc:((Pp++[mm]).map jv).length=Pp.length+1:=by simp
 have ld:((Qq++[mm]).map jv).length=Qq.length+1:=by simp
 have lP:Pp.length+1<=u.length:=by rw[k1];simp
 have lQ:Qq.length+1<=C.length:=by rw[k2];simp
 have hone:(Pp++mm::Qq.reverse).head?=Ga y:=by
  obtain⟨r,d⟩:=h1.head;rw[k1]at d;cases Pp with
  |nil=>simp at d⊢;exact d.1
  |cons a Pp=>simp at d⊢;exact d.1
 have hoth:(Pp++mm::Qq.reverse).getLast?=Ga g:=by
  obtain⟨r,d⟩:=h2.head;rw[k2]at d;rw[List.getLast?_append];have:(mm::Qq.reverse).getLast?=Ga g:=by
   cases Qq with
   |nil=>simp at d⊢;exact d.1
   |cons a Qq=>simp at d;rw[List.reverse_cons,<-List.cons_append,List.getLast?_concat,d.1]
  rw[this];rfl
 exists _,Xb,rc,_,Xb,.inl (Zb.of ec),_,_,Xb,Xb,_,Xb;rw[lc];by_cases A:Pp=[]
 .have hne:Pp=[]\/Qq=[]\/Pp.getLast?≠Qq.getLast?:=.inl A;rw[GQ (by rw[A];decide)];refine Zu (Zu ?_);infer_instance
 rw[Tc (by have:0<Pp.length:=List.length_pos_iff.mpr A;ext)];refine Y0 {_,Xb,rd,_,Xb,.inl (Zb.of ed),_,_,Xb,Xb,_,Xb,?_};rw[ld];by_cases B:Qq=[]
 .have hne:Pp=[]\/Qq=[]\/Pp.getLast?≠Qq.getLast?:=.inr (.inl B);rw[GQ (by rw[B];decide)];refine Zu (Zu ?_);infer_instance
 rw[Tc (by have:0<Qq.length:=List.length_pos_iff.mpr B;ext)];obtain⟨e,a,Q⟩:∃e a,Pp=e++[a]:={Pp.dropLast,Pp.getLast A,(List.dropLast_concat_getLast A).symm};obtain⟨f,b,R⟩:∃f b,Qq=f++[b]:={Qq.dropLast,Qq.getLast B,(List.dropLast_concat_getLast B).symm};have am:H3 rc=Ga (.lst ((e++[a,mm]).map jv)):=by rw[ec,Q];simp
 have an:H3 rd=Ga (.lst ((f++[b,mm]).map jv)):=by rw[ed,R];simp
 refine Y0 {_,Xb,{_,Xb,rc,_,_,_,Xb,Xb,Zb.of am,uw _ _ _,_,Xb,{_,Xb,rd,_,_,_,Xb,Xb,Zb.of an,uw _ _ _,Xb,_,Xb,?_}}};rw[kz];by_cases U:a=b
 .subst U;subst Q R;rw[Tc rfl];refine Y0 {_,λ_ _ h=>h,?_};have ap:((e++[a]++[mm]).map jv)[((e++[a]++[mm]).map jv).length - 1]?=Ga (jv mm):=by simp
  have aq:((f++[a]++[mm]).map jv)[((f++[a]++[mm]).map jv).length - 1]?=Ga (jv mm):=by simp
  have aj:((e++[a]++[mm]).map jv).dropLast=(e++[a]).map jv:=by rw[List.map_append (l₂:=[mm])];simp
  have ak:((f++[a]++[mm]).map jv).dropLast=(f++[a]).map jv:=by rw[List.map_append (l₂:=[mm])];simp
  exists _,Xb,.inl {Xb,_,Zb.of ec},rc,_,_,Xb,Xb,ec,ap;rw[aj];have aa:(zj H3 rc (.lst ((e++[a]).map jv))) rd=Ga (.lst ((f++[a]++[mm]).map jv)):=by rw[Qg (Gp ae)];exact ed
  exists _,Xb,.inl {Xb,_,Zb.of aa},rd,_,_,Xb,Xb,aa,aq;rw[ak];refine{e.length,by simp,e,f,mm::L,a,Xb,by rw[k1];simp,by rw[k2];simp,Xb,λc o O=>?_,?_,Qb}
  .rw[Qg (Qc O ar),Qg (Qc O c1)];exact g3 c o O
  .rw[Qg ae,Qb]
 .have hne:Pp=[]\/Qq=[]\/Pp.getLast?≠Qq.getLast?:=.inr (.inr (by rw[Q,R,List.getLast?_concat,List.getLast?_concat];intro z;exact U (To z)));rw[GQ U];refine Zu ?_;infer_instance
end
end K07
namespace PySem
section
variable{prog:Gi}{w:Gu}{A:TL}{E:Value->Gk->Prop}{s:Gk}{d v:Gc}{es:Array Eu}{ep:Nat}
theorem ON{Q:Value->Gk->Prop}(f:s.heap.IsValuesView v d)(j:s.heap.Ij d es ep)
  (h:Q (.ref s.heap.objs.size) {s with heap:=s.heap.push {cls:=.type "dict_valueiterator",data:=.fields #[.ref d,.int 0 0,.int es.size 0,.int ep 0]}}):
  wpAny (Tb prog w) A (pyIter (.ref v)) Q E s:=by
 obtain⟨ov,e,i,c⟩:=id f;obtain⟨o,g,k,a⟩:=id j;refine SG f.typeIs F.slot_dict_values_iter (Tz F.slot_dict_values_iter f.typeIs F.entry_dict_values_iter ?_ (F.args_dict_values_iter_1 _));unfold Builtin.«dict_values.__iter__»;refine Gb (Gf ?_);refine Gb ?_;unfold Builtin.Dict_items.dictOf;refine Gb (TH e c (x:=.ref d) rfl (Gf ?_));refine Gb ?_;unfold Builtin.Dict_items.newIterator;refine Gb (DA g a ?_);refine Gb (Ep g a ?_);have b:Builtin.Dict_items.ownsTuple "dict_valueiterator"=Gq:=by decide
 simp only[b,TM,Dm];refine TB (Gf {_,Xb,"dict_valueiterator",_,{_,Heap.get?_push_size _ Xb,Xb},F.slot_dict_valueiterator_next.lookup,?_});simpa[rawInt]using h
theorem QU{c:Gc}{i:Nat}{e:Eu}{Q:Option Value->Gk->Prop}(a:s.heap.IsValIter c d i es.size ep)(u:s.heap.Ij d es ep)(m:es[i]?=Ga e)
  (p:∀h,h.IsValIter c d (i+1) es.size ep->Heap.SameBut c s.heap h->Q (Ga e.val) {s with heap:=h}):
  wpAny (Tb prog w) A (pyNext (.ref c)) Q E s:=by
 obtain⟨o,n,q,l⟩:=id a;obtain⟨v,j,r,g⟩:=id u;unfold pyNext;refine Gb (EY (TQ (name:=Dz "__next__") a.typeIs F.slot_dict_valueiterator_next
  (Tz F.slot_dict_valueiterator_next a.typeIs F.entry_dict_valueiterator_next ?_ (F.args_dict_valueiterator_next_1 _))))
 refine Gb (Gf ?_);refine Gb ?_;refine Gb ?_;first|refine Gb (DQ a.typeIs (Gf ?_))|refine Gb (Eg a.typeIs (Gf ?_))
 refine Gb (Sr n l ?_);have k:Builtin.Dict_items.ownsTuple "dict_valueiterator"=Gq:=by decide
 simp only[k,TM,Dm];show wpAny _ _ (if(Value.ref d==Value.none)=Gg then _ else _) _ _ s;rw[Gh (show¬((Value.ref d==Value.none)=Gg)from GO)];refine Gb (Gf ?_);refine Gb (DA j g ?_);rw[Gh (by simp)];refine Gb (Gf ?_);refine Gb (Ep j g ?_);rw[Gh (by simp)];refine Gf ?_;have f:i<es.size:=by
  rcases Tn i es.size with h|h
  .exact h
  .rw[Di h]at m;cases m
 have t:es[i]=e:=by rw[Tj f]at m;exact To m
 simp only[show¬((i:Int)<0)from by lia,Dm,Dy,Tj f];refine Gb ?_;first|refine Gb (DQ a.typeIs (Gf ?_))|refine Gb (Eg a.typeIs (Gf ?_))
 refine Gb (EU a.typeIs ?_);show wpAny _ _ (setField (.ref c) 1 (rawInt ((i:Int)+1))>>=_) _ _ s;refine Gb (EA n l (by simp) ?_);have b:(s.heap.update c (EZ (·.setIfInBounds 1 (rawInt ((i:Int)+1))))).IsValIter c d (i+1) es.size ep:=
  {_,Heap.get?_update_self _ n (ET (D2 l _)),(SH ..).trans q,by rw[D2 l];simp[rawInt]}
 refine Gb (T5 ?_);refine Gb (EU (s:={s with heap:=s.heap.update c (EZ (·.setIfInBounds 1 (rawInt ((i:Int)+1))))}) b.typeIs ?_);refine Gb (EU (s:={s with heap:=s.heap.update c (EZ (·.setIfInBounds 1 (rawInt ((i:Int)+1))))}) b.typeIs ?_);show wpAny _ _ (pure es[i].val) _ _ _;rw[t];exact Gf (Gf {_,Xb,Gf (p _ b (Heap.SameBut.update ..))})
theorem Cs{f:Gc}{i:Nat}{Q:Option Value->Gk->Prop}(n:A.handled=Ge)(a:s.heap.IsValIter f d i es.size ep)(p:s.heap.Ij d es ep)(g:es.size<=i)
  (l:∀h,Heap.ExtBut f s.heap h->Q Ge {s with heap:=h}):wpAny (Tb prog w) A (pyNext (.ref f)) Q E s:=by
 obtain⟨o,k,h,j⟩:=id a;obtain⟨q,c,m,b⟩:=id p;unfold pyNext;refine Gb (EY (TQ (name:=Dz "__next__") a.typeIs F.slot_dict_valueiterator_next
  (Tz F.slot_dict_valueiterator_next a.typeIs F.entry_dict_valueiterator_next ?_ (F.args_dict_valueiterator_next_1 _))))
 refine Gb (Gf ?_);refine Gb ?_;refine Gb ?_;first|refine Gb (DQ a.typeIs (Gf ?_))|refine Gb (Eg a.typeIs (Gf ?_))
 refine Gb (Sr k j ?_);have e:Builtin.Dict_items.ownsTuple "dict_valueiterator"=Gq:=by decide
 simp only[e,TM,Dm];show wpAny _ _ (if(Value.ref d==Value.none)=Gg then _ else _) _ _ s;rw[Gh (show¬((Value.ref d==Value.none)=Gg)from GO)];refine Gb (Gf ?_);refine Gb (DA c b ?_);rw[Gh (by simp)];refine Gb (Gf ?_);refine Gb (Ep c b ?_);rw[Gh (by simp)];refine Gf ?_;simp only[show¬((i:Int)<0)from by ext,Dm,Dy,Di g];refine Gb ?_;first|refine Gb (DQ a.typeIs (Gf ?_))|refine Gb (Eg a.typeIs (Gf ?_))
 show wpAny _ _ (setField (.ref f) 0 .none>>=_) _ _ s;refine Gb (EA k j (by simp) ?_);show wpAny _ _ (newExc (.type "StopIteration") []>>=_) _ _ _;refine Gb ?_;simp only[newExc,newTuple];refine Gb (TB ?_ (by size_fits));refine Gb (m:=firstArgMember _ _) (FI (a:=Value.none) (by first|rfl|(simp only[firstArgMember];rfl)) ?_);refine TB ?_ (by size_fits);simp only[raiseNew];refine Gb (LO ?_);rw[show A.in1.handled=Ge from n];refine Gb (Gf (FJ ?_));refine Gb (ED (T:="StopIteration") (b:=Gg) {_,Heap.get?_push_size _ Xb,Xb} Ly ?_);exact Gf (l _ (((Heap.SameBut.update ..).extBut.push _).push _))
theorem Walks.Hr(t:A.handled=Ge)(I d:Gc)(n:d≠I)(c:Array Eu)(p:Nat):
  Walks prog w A I [I,d] [I] c.size (λi v=>∃e,c[i]?=Ga e/\v=e.val) (λi h=>h.IsValIter I d i c.size p/\h.Ij d c p) where
 sub:=λb f=>by simp at f;simp[f]
 frame:=λ_ _ _ a q=>{a.1.at λo e=>q I (by simp) o e,a.2.at λo e=>q d (by simp) o e}
 item:=λi s Q E u a g=>by have r:c[i]?=Ga c[i]:=Tj u;refine QU a.1 a.2 r λl j k=>?_;exact g _ l s.toks {_,r,Xb} {j,a.2.at λo e=>(k.2 d n).trans e} λb o f e=>k.extBut b o (λh=>f (by simp[h])) e
 done:=λs Q E a g=>Cs t a.1 a.2 (Gm _) λl m=>g l s.toks λb o f e=>m b o (λh=>f (by simp[h])) e
 self:=λ_ _ _ _ a g=>wpAny_pyIter_valiter a.1 g
theorem Ai:FZ prog w "dict_values" v d es.size (λi x=>∃e,es[i]?=Ga e/\x=e.val) (λh=>h.IsValuesView v d/\h.Ij d es ep) where
 type:=λ_ a=>a.1.typeIs
 there:=λ_ a=>{let⟨_,ho,_⟩:=a.1;Heap.lt_size ho,a.2.lt}
 keep:=λ_ _ a c=>{let⟨o,ho,x⟩:=a.1;{o,c v (.inl Xb) o ho,x},a.2.at λo e=>c d (.inr Xb) o e}
 notList:=by decide
 notTuple:=by decide
 hint:=λ_ _ _ _ a b=>M9 a.1.typeIs b
 iter:=λ_ _ f a=>{_,_,(λ_ _ b=>ON a.1 a.2 b),Walks.Hr f _ d (Tg a.2.lt) es ep,{{_,Heap.get?_push_size _ Xb,Xb,Xb},a.2.at λo e=>Heap.get?_push_of_some _ e}}
end
end PySem
namespace L2
open PySem PySem.Spec PyProof.Rows
variable{P:Gi}{w:Gu}{H:Hp}{X:Cx}{σ:St}{a:Gc}{zw:List (Xm×V)}{tg:TY}
def vvw(v d:Gc):HO:=.ext λh=>h.IsValuesView v d
theorem Pq{h:Heap}{v d:Gc}(x:h.IsValuesView v d):Z1 P w H h v (vvw v d):=by
 exists x,?_
 .obtain⟨o,a,_⟩:=x;exact⟨o,a⟩
 .rintro b c ⟨o,a,r⟩ k;exact{o,k o a,r}
section
variable{X:Cx}{o:TY}{to:TE}{name:GY}{apos cpos:SX}{id:String}{r:V->List V->Hp->VK->Prop}
def PM(P:Gi)(w:Gu)(r:V->List V->Hp->VK->Prop)(to:TE):TE:=λσ H Q=>to σ H λx H1=>(∃d zw,x=.ref d/\H1 d=Ga (Vx P w d zw))/\r x [] H1 Q
theorem QV(slot:Slot "dict" name id)(e:typeOf (.builtin id)=pure (.type "method_descriptor"))(m:ig X id r)(n:PE X o to)
  (b:attributeBase o name X.env (eval o X.env)=eval o X.env:=by rfl)(c:(apos.endLine==cpos.line)=Gg:=by rfl):PE X (.Call (.Attribute o name apos) [] [] cpos) (PM X.prog X.w r to):=by
 intro a s g H Q I h;refine SR b c (Yi (n a s g H _ I h) λv u⟨x,i,f,t,ty,q⟩=>?_);obtain⟨d,p,rfl,j⟩:=ty;cases(show v=Value.ref d from t);obtain⟨k,l⟩:=zL f j;exact{"dict",id,DS,slot,e,k,l,DY rfl (LF (m a u g i (.ref d) [] _ [] Q f rfl .nil q))}
inductive wK(P:Gi)(w:Gu)(x:V)(vs:List V)(H:Hp)(Q:VK):Prop
 |mk (d:_) (zw:_) (h0:x=.ref d) (h1:vs=[]) (h2:DH P w H d zw) (h3:∀v,H v=Ge->Q (.ref v) (zj H v (vvw v d))):wK P w x vs H Q
def HK(P:Gi)(w:Gu):V->List V->Hp->VK->Prop:=λx a H Q=>wK P w x a H Q
theorem Px:ig X "dict.values" (HK X.prog X.w):=by intro c s y H x u v t Q I l k h;obtain⟨d,i,rfl,rfl,D,q⟩:=h;cases(show v=Value.ref d from l);cases k;obtain⟨z,g,w,j,o,n,m,e,f,p,r,a⟩:=jb I D.at_;have b:s.TypeIs (.ref d) "dict":={o,e,f.1};refine Tz SO b Ms ?_ (Md _);refine Gb ?_;unfold Builtin.Dict.noArgs;refine Gb (ES b ?_);show wpAny _ _ (pure d) _ _ s;refine Gf ?_;show wpAny _ _ (Builtin.Dict.showsAll d>>=_) _ _ s;unfold Builtin.Dict.showsAll;rw[Gh (by rw[g];exact GO)];refine Gb (Gf ?_);refine Gb (TB (Gf {_,Xb,?_}));exact{.ref s.heap.objs.size,_,I.laid (a:=s.heap.objs.size) (o:=vvw s.heap.objs.size d) (t':=s.toks) (λ_ _ q=>Heap.get?_push_of_some _ q) (Gm _) (Pq {_,Heap.get?_push_size _ Xb,Xb,Xb}),Xb,q _ (I.Zv.fresh (Gm _))}
theorem JB(L:X.calm=Gg):V9 X (.type "list") (λxs H Q=>∃v d b,xs=[.ref v]/\H v=Ga (vvw v d)/\DH X.prog X.w H d b/\∀l,H l=Ge->Q (.ref l) (zj H l (.lst (b.map λp=>p.2.2)))):=by
 intro m s R H xs V Q I r h;obtain⟨v,d,b,rfl,l,D,q⟩:=h;obtain⟨u,rfl,O⟩:=vals1 r;cases(show u=Value.ref v from O);obtain⟨z,T,P,n,o,es,ep,F,G,J,w,j⟩:=jb I D.at_;have x:s.heap.IsValuesView v d:=(I.Zv v _ l).1;have e:es.size=b.length:=by rw[Gr n,<-List.length_map (f:=entryOfKey (Vs X.prog X.w)),<-w,TF]
 refine FG (Ai (es:=es) (ep:=ep)) (I.ok.hd L) ⟨x,o,F,G,J⟩ (by rw[e];exact z) λy B a E N K c=>?_;have g:(b.map λp=>p.2.2).length<=Gj:=by rw[List.length_map];exact z
 have l:Zt (b.map λp=>p.2.2) a.toList:=by
  have k:es.toList.map (·.val)=P.map λq=>q.2.2:=by rw[w,List.map_map];rfl
  have f:a.toList=es.toList.map (·.val):=by
   refine List.ext_getElem? λi=>?_;by_cases A:i<a.size
   .obtain⟨S,M,l⟩:=c.2 i a[i] (Tj A);rw[T9,Tj A,List.getElem?_map,T9,M,l];rfl
   .have M:=c.1;rw[List.getElem?_eq_none (by simp;lia),List.getElem?_eq_none (by simp;lia)]
  rw[f,k];clear q z w k f g e c D j;induction n with
  |nil=>exact .nil
  |@cons p q S U A t M=>rw[List.map_cons,List.map_cons];exact .cons A.2.2 M
 have C:zu X m R (zj H s.heap.objs.size (.lst (b.map λp=>p.2.2))) {s with heap:=y,toks:=B}:=
  I.laid (t':=B) N (Gm _) (show Z1 X.prog X.w _ y _ (.lst _)from{g,a.toList,E,l,by rw[Eb];exact K})
 exact{.ref s.heap.objs.size,_,C,Xb,q _ (I.Zv.fresh (Gm _))}
end
def uO:HO->Prop
 |.dK _=>True
 |.frz _ (.dK _)=>True
 |_=>False
theorem zu.swap{g:List (Gc×Ek)}{s:Gk}{u j:HO}(I:zu X g σ H s)(e:H a=Ga u)(k:uO u)(b:uO j)(D:∀o v,X.H₀ a≠Ga (.frz o v))(l:Z1 X.prog X.w (zj H a j) s.heap a j):zu X g σ (zj H a j) s:=by
 have i:∀b,H b=Ge->b≠a:=λb d z=>by rw[z,e]at d;cases d
 have w:∀b f,H b=Ga (.tup f)->b≠a:=λb f d z=>by rw[z,e]at d;cases d;exact k
 have E:∀b y,H b=Ga (.own y)->b≠a:=λb f d z=>by rw[z,e]at d;cases d;exact k
 have F:∀b r,H b=Ga (.tbl r)->b≠a:=λb f d z=>by rw[z,e]at d;cases d;exact k
 refine{I.ok,I.os,I.bare,{I.base.keep,I.base.slot,λb o A n C=>?_,I.base.there,λb f h=>?_,λb o v h=>?_,λb r h=>?_},I.loc,I.cell,?_,λx c h=>?_,λp h=>?_,λb o h=>?_,I.len}
 .have:=I.base.free b o A n C;rw[Qg (i b this)];exact this
 .have:=I.base.Ql b f h;rw[Qg (w b f this)];exact this
 .have m:b≠a:=λz=>D o v (z▸h);rw[Qg m];exact I.base.Qan b o v h
 .obtain⟨m,t⟩:=I.base.Qce b r h;exact{m,by rw[Qg (F _ _ t)];exact t}
 .rw[Qg (i _ I.free)];exact I.free
 .rw[Qg (i _ (I.Ic x c h))];exact I.Ic x c h
 .obtain⟨t,m,B⟩:=I.pin p h;exact{t,by rw[Qg (i _ m)];exact m,B}
 .by_cases d:b=a
  .subst d;rw[Qb]at h;cases h;exact l
  .rw[Qg d]at h;exact(I.Zv b o h).iF (λc v _ q=>q) (λc q=>by rw[Qg (E c b q)];exact q) λc f q=>by rw[Qg (w c f q)];exact q
def fz(o:Ek)(zw:List (Xm×V)):HO:=.frz o (.dK zw)
theorem Ac{b:Hp}{h:Heap}(x:Z1 P w H h a (.dK zw)):Z1 P w b h a (.dK zw):=x
def jP(a:Gc)(o:Ek)(zw:List (Xm×V)):It:={λi H=>i<zw.length/\H a=Ga (fz o zw),λi H x H'=>H'=H/\∃p,zw[i]?=Ga p/\x=kV p.1,λi H=>zw.length<=i/\H a=Ga (fz o zw)}
theorem Kz{k:Xm}{u:Value}(h:iS k u=Gg):zm (kV k) u:=by
 rcases Yz h with⟨i,t,rfl,rfl⟩|⟨x,t,rfl,rfl⟩
 .exact⟨t,Xb⟩
 .exact⟨t,Xb⟩
theorem OR{c:List (Xm×Value)}(r:KV zw c){i:Nat}{p:Xm×V}(h:zw[i]?=Ga p):∃u,c[i]?=Ga (p.1,u):=by
 unfold KV at r;induction r generalizing i with
 |nil=>simp at h
 |@cons a b g k e t f=>
  cases i with
  |zero=>simp at h;subst h;obtain⟨j,d⟩:=b;exact{d,by simp[e.1]}
  |succ i=>simp only[List.getElem?_cons_succ]at h⊢;exact f h
theorem JM{K:Gd}(a f:Gc)(b:Ek)(n:List (Xm×V))(D:Array Eu)(t:Nat)(y:b.data=.dict D t):iq P w K tg (jP a b n) [f] f (λi h=>h.IsKeyIter f a i n.length t) where
 mem:=by simp
 obj:=λi h g j l=>by
  have e:j=f:=by simpa using l
  subst e;obtain⟨b,e,c,d⟩:=g;exact{b,e,λR z=>by rw[d]at z;cases z}
 keep:=λi h v g k=>g.at λb e=>k f (by simp) b e
 item:=by
  intro X L hw J T i Y s Z B aa m x g N;subst L hw J;obtain⟨U,O⟩:=N;obtain⟨o,z,hd,A,r,C⟩:=m.Zv a _ O;obtain⟨ab,o',ac,q,M,p,Q⟩:=C.dictAt;rw[o]at q;cases q;rw[y]at p;cases p;have W:n[i]?=Ga n[i]:=List.getElem?_eq_getElem U;obtain⟨u,hu⟩:=OR r W;obtain⟨E,F,f2,G,H,I⟩:=x f (by simp);have S:s.heap.IsKeyIter f a i A.length t:=by rw[<-r.length];exact g
  refine wpAny_pyNext_dict_item (knd:=Ya X.prog X.w) S ⟨b,D,o,M,y,Q⟩ hu λad v hk R sb=>?_;have I1:zu X Y Z B {s with heap:=v}:=m.turned (t':=s.toks) (λj b l e=>(sb.2 j l).trans e) E F G H I;rw[<-r.length]at R;obtain⟨o2,e2,c2,d2⟩:=id R;exact{ad,Xb,ji (s:={s with heap:=v}) e2 c2 d2 (by decide) {kV n[i].1,B,I1,Kz hk,{Xb,_,W,Xb},R,λj l=>(x j l).1}}
 done:=by
  intro X L hw J T i Y s Z B aa m x g N;subst L hw J;obtain⟨U,O⟩:=N;obtain⟨o,z,hd,A,r,C⟩:=m.Zv a _ O;obtain⟨ab,o',ac,q,M,p,Q⟩:=C.dictAt;rw[o]at q;cases q;rw[y]at p;cases p;obtain⟨E,F,f2,G,H,I⟩:=x f (by simp);have W:n.length=A.length:=r.length;have S:s.heap.IsKeyIter f a i A.length t:=by rw[<-W];exact g
  exact wpAny_pyNext_dict_end (knd:=Ya X.prog X.w) (m.ok.hd T) S ⟨b,D,o,M,y,Q⟩ (List.getElem?_eq_none (by lia)) λv R=>{Xb,m.turned (t':=s.toks) (λj b l e=>R j b l e) E F G H I}
 self:=λ_ _ _ _ _ g h=>Lz g h
inductive zf(R:It->Hp->Prop)(x:V)(H1:Hp):Prop
 |mk (a:_) (zw:_) (h0:x=.ref a) (h1:((H1 a=Ga (.dK zw)/\∀o,R (jP a o zw) (zj H1 a (fz o zw))))):zf R x H1
def QC(te:TE):TI:=λσ H R=>te σ H λx H1=>zf R x H1
inductive xM(t:TS)(D:Ends)(σ:St)(H:Hp):Prop
 |mk (a:_) (zw:_) (h0:H a=Ga (.dK zw)) (h1:t {nx:=(λσ' H'=>∃o,H' a=Ga (fz o zw)/\D.nx σ' (zj H' a (.dK zw))),rt:=(λv H'=>∃o,H' a=Ga (fz o zw)/\D.rt v (zj H' a (.dK zw))),bk:=(λσ' H'=>∃o,H' a=Ga (fz o zw)/\D.bk σ' (zj H' a (.dK zw))),ct:=(λσ' H'=>∃o,H' a=Ga (fz o zw)/\D.ct σ' (zj H' a (.dK zw)))} σ H):xM t D σ H
def A1(t:TS):TS:=λD σ H=>xM t D σ H
section
variable{X:Cx}{tg:TY}
theorem zu.wN{b:List (Gc×Ek)}{s:Gk}(I:zu X b σ H s)(e:H a=Ga (.dK zw)):∀o v,X.H₀ a≠Ga (.frz o v):=λo v z=>by rw[I.base.Qan a o v z]at e;cases e
theorem yi{e:TY}{u:TE}(D:PE X e u):PI X tg e (QC u):=by
 intro d s w H R I h;refine Yi (D d s w H _ I h) λv i⟨x,y,j,F,E⟩=>?_;obtain⟨a,f,e,l,q⟩:=E;subst e;cases F;obtain⟨z,p,G,g,m⟩:=jE j.Zv l;obtain⟨A,o,n,t,C,c,r⟩:=m.dictAt;refine wpAny_pyIter_dict (knd:=Ya X.prog X.w) p ⟨o,n,t,C,c,r⟩ ?_;have k:zu X d w (zj y a (fz o f)) i:=j.swap l trivial trivial (j.wN l) ⟨t,z,p,G,g,m⟩;refine{i.heap.objs.size,[i.heap.objs.size],_,_,_,Xb,k.kept (t':=i.toks) λb o e=>Heap.get?_push_of_some _ e,JM a _ o f n A c,?_,λb B=>?_,q o}
 .rw[g.length];exact{_,Heap.get?_push_size _ Xb,Xb,Xb}
 .have e:b=i.heap.objs.size:=by simpa using B
  subst e;exact k.iD (Gm _) (k.Zv.fresh (Gm _))
theorem yG{m:Db}{t:TS}(h:PS X m t):PS X m (A1 t):=by
 intro c s w H D I n;obtain⟨a,k,e,q⟩:=n;have p:=I.wN e;have un:∀{b:St}{i:Hp}{l:Gk}{o:Ek},zu X c b i l->i a=Ga (fz o k)->zu X c b (zj i a (.dK k)) l:=λd g=>d.swap g trivial trivial p (by obtain⟨_,r⟩:=d.Zv a _ g;exact Ac r)
 refine Yi (h c s w H _ I q) λf l r=>?_;cases f with
 |next=>obtain⟨b,i,d,o,g,j⟩:=r;exact⟨b,_,un d g,j⟩
 |cont=>obtain⟨b,i,d,o,g,j⟩:=r;exact{b,_,un d g,j}
 |brk=>obtain⟨b,i,d,o,g,j⟩:=r;exact{b,_,un d g,j}
 |ret v=>obtain⟨x,b,i,d,u,o,g,j⟩:=r;exact{x,b,_,un d g,u,j}
end
theorem sR{o:Ek}{g:TG}{k:TS}{D:Ends}(b:Nat->St->Hp->Prop)(l:b 0 σ H)(s:∀i σ H,i<=zw.length->b i σ H->H a=Ga (fz o zw))
  (t:∀i p σ H,zw[i]?=Ga p->b i σ H->g (kV p.1) σ H λf H2=>k {D with nx:=b (i+1),ct:=b (i+1),bk:=D.nx} f H2)(n:∀σ H,b zw.length σ H->D.nx σ H):
  ∃W:Nat->Nat->St->Hp->Prop,(∃m,W 0 m σ H)/\∀i m σ H,W i m σ H->
   ((jP a o zw).stop i H/\D.nx σ H)\/((jP a o zw).go i H/\∃N:St->Hp->Prop,(∀d c,N d c->∃j,j<m/\W (i+1) j d c)/\∀x c,(jP a o zw).yld i H x c->g x σ c λf H2=>k {D with nx:=N,ct:=N,bk:=D.nx} f H2):=by
 exists λi m σ H=>m=zw.length - i/\i<=zw.length/\b i σ H,{zw.length,by simp,Gw _,l};rintro i m σ H ⟨rfl,r,p⟩;have q:=s i σ H r p;by_cases h:i<zw.length
 .refine .inr {⟨h,q⟩,b (i+1),λd c v=>{zw.length - (i+1),by ext,Xb,h,v},λx c y=>?_};obtain⟨e,y,u,j⟩:=y;subst e j;exact t i y σ _ u p
 .have e:i=zw.length:=by ext
  subst e;exact .inl {{Gm _,q},n σ H p}
def jG(lo:Int)(n:Nat):It:={λi _=>i<n,λi H x H'=>H'=H/\x=.int (lo - i),λi _=>n<=i}
theorem QY{K:Gd}(c:Gc)(m:Int)(n:Nat):iq P w K tg (jG m n) [c] c (λi h=>Lw h c (m+(i:Nat)*(-1)) ((n:Int) - (i:Nat)) (-1)) where
 mem:=by simp
 obj:=λi h a b f=>by
  have e:b=c:=by simpa using f
  subst e;exact{_,a,λv z=>by have g:NF _=RV v:=z;cases g}
 keep:=λi h j a k=>k c (by simp) _ a
 item:=by intro X A hw y B i d s F H E I l a C;subst A hw y;obtain⟨p,q,J,r,u,x⟩:=l c (by simp);have W:=NG (prog:=X.prog) (w:=X.w) (I.ok.hd B) c m (-1) n;refine W.item i s _ _ C a λv j D L g M=>?_;obtain⟨t,rfl⟩:=L;have G:zu X d F H {s with heap:=j,toks:=D}:=I.turned (λb o f e=>M b o (by simpa using f) e) p q r u x;refine{_,Xb,ji (s:={s with heap:=j,toks:=D}) (n:="range_iterator") g rfl rfl (by decide) {.int (m - i),H,G,{t,?_},⟨Xb,Xb⟩,g,λb f=>(l b f).1}};congr 1;lia
 done:=by intro X A hw y B i d s F H E I l a C;subst A hw y;obtain⟨p,q,J,r,u,x⟩:=l c (by simp);exact S0 (I.ok.hd B) a (by have:n<=i:=C;lia) λj g=>{Xb,I.turned (t':=s.toks) (λb o f e=>g b o f e) p q r u x}
 self:=λ_ _ _ _ _ a h=>S8 a h
theorem rangeSize_down(n:Nat):Builtin.Range.rangeSize ((n:Int) - 1) (-1) (-1)=n:=by unfold Builtin.Range.rangeSize;simp only[show¬((-1:Int)>0) by decide,Dm,show -(-1:Int)=1 by decide,Nk];split<;>lia
theorem small_down{n:Nat}(h:n<=1000000):Builtin.Range.small ((n:Int) - 1) (-1) (-1)=Gg:=by unfold Builtin.Range.small;rw[rangeSize_down];simp only[Builtin.Range.rangeFitsLong,Td,Bool.or_eq_true,SI,So,show¬((-1:Int)>0) by decide,Dm];lia
inductive sJ(R:It->Hp->Prop)(vs:List V)(H1:Hp):Prop
 |mk (n:Nat) (h0:vs=[.int ((n:Int) - 1),.int (-1),.int (-1)]) (h1:n<=1000000) (h2:R (jG ((n:Int) - 1) n) H1):sJ R vs H1
def JD(ta:TA):TI:=λσ H R=>ta σ H λa H1=>sJ R a H1
theorem QS{a b c:TY}{v:TA}{p j:SX}(C:Gl X "range")(D:X.mg "range"=Ge)(A:PA X [a,b,c] v)(F:Ti [a,b,c] X.env=[(Gq,eval a X.env),(Gq,eval b X.env),(Gq,eval c X.env)]:=by rfl)(i:Ti [b,c] X.env=[(Gq,eval b X.env),(Gq,eval c X.env)]:=by rfl):
  PI X tg (.Call (.Name "range" p) [a,b,c] [] j) (JD v):=by
 intro f s w H R I h;refine Bp (V6 I C D N9 (Dq (Yi (A j f s w H _ I h) λL g⟨M,u,x,K,G⟩=>?_) (by rw[F,i]) (by rw[i];rfl)));obtain⟨n,e,E,q⟩:=G;subst e;cases K with
 |cons r k=>
  cases k with
  |cons J k=>
   cases k with
   |cons m k=>
    cases k;obtain⟨t,rfl⟩:=r;obtain⟨t',rfl⟩:=J;obtain⟨d,rfl⟩:=m;refine call_range_3 (by decide) ?_ (.inl (S9 (by ext)));refine LV (NH ..) (small_down E) ?_;have l:zu X f w u {g with heap:=g.heap.push {cls:=.type "range",data:=.fields #[.int ((n:Int) - 1) t,.int (-1) t',.int (-1) d]},toks:=g.toks}:=x.kept λb o e=>Heap.get?_push_of_some _ e;refine⟨(g.heap.push {cls:=.type "range",data:=.fields #[.int ((n:Int) - 1) t,.int (-1) t',.int (-1) d]}).objs.size,[(g.heap.push {cls:=.type "range",data:=.fields #[.int ((n:Int) - 1) t,.int (-1) t',.int (-1) d]}).objs.size],_,_,u,Xb,
     l.kept (t':=g.toks) λb o e=>Heap.get?_push_of_some _ e,QY _ ((n:Int) - 1) n,?_,λb B=>?_,q⟩
    .have y:((n:Int) - 1)+((0:Nat):Int)*(-1)=(n:Int) - 1:=by simp
     have z:(n:Int) - ((0:Nat):Int)=Builtin.Range.rangeSize ((n:Int) - 1) (-1) (-1):=by rw[rangeSize_down];simp
     show Lw _ _ (((n:Int) - 1)+((0:Nat):Int)*(-1)) ((n:Int) - ((0:Nat):Int)) (-1);rw[y,z];exact Heap.get?_push_size _ rfl
    .have e:b=(g.heap.push {cls:=.type "range",data:=.fields #[.int ((n:Int) - 1) t,.int (-1) t',.int (-1) d]}).objs.size:=by simpa using B
     subst e;exact l.iD (Gm _) (l.Zv.fresh (Gm _))
theorem Ke{h:Int}{n:Nat}{g:TG}{k:TS}{D:Ends}(b:Nat->St->Hp->Prop)(l:b 0 σ H)
  (q:∀i σ H,i<n->b i σ H->g (.int (h - i)) σ H λf H2=>k {D with nx:=b (i+1),ct:=b (i+1),bk:=D.nx} f H2)(o:∀σ H,b n σ H->D.nx σ H):
  ∃W:Nat->Nat->St->Hp->Prop,(∃m,W 0 m σ H)/\∀i m σ H,W i m σ H->
   ((jG h n).stop i H/\D.nx σ H)\/((jG h n).go i H/\∃N:St->Hp->Prop,(∀d a,N d a->∃j,j<m/\W (i+1) j d a)/\∀x a,(jG h n).yld i H x a->g x σ a λf H2=>k {D with nx:=N,ct:=N,bk:=D.nx} f H2):=by
 exists λi m σ H=>m=n - i/\i<=n/\b i σ H,{n,by simp,Gw _,l};rintro i m σ H ⟨rfl,r,p⟩;by_cases c:i<n
 .refine .inr {c,b (i+1),λd a j=>{n - (i+1),by ext,Xb,c,j},λx a y=>?_};obtain⟨e,y⟩:=y;subst e y;exact q i σ _ c p
 .have e:i=n:=by ext
  subst e;exact .inl {Gm _,o σ H p}
inductive vy(vs:List V)(H:Hp)(Q:VK):Prop
 |mk (d:_) (zw:_) (ks:_) (h0:vs=[.ref d]) (h1:H d=Ga (.dK zw)) (h2:zw.map (·.1)=ks.map Sg) (h3:zw.length<64) (h4:∀(r:Gc)(ns:List Int),H r=Ge->ns.Perm ks->ns.Pairwise (·<=·)->Q (.ref r) (zj H r (.lst (ns.map V.int)))):vy vs H Q
def Cq:List V->Hp->VK->Prop:=λa H Q=>vy a H Q
theorem JU{h:Heap}:∀{b:List (Xm×V)}{d:List (Xm×Value)}{c:List Int}{a:List Value},KV b d->b.map (·.1)=c.map Sg->a.length=d.length->(∀(i:Nat)(u:Value),a[i]?=Ga u->∃k x,d[i]?=Ga (k,x)/\(Ya P w).is k u=Gg)->Lg a c:=by
 intro b;induction b with
 |nil=>
  intro d c a t e f _;cases t;cases a with
  |cons=>cases f
  |nil=>
   cases c with
   |nil=>exact .nil
   |cons=>cases e
 |cons p b n=>
  intro d c a t e f g;cases t with
  |cons r t=>
   cases c with
   |nil=>cases e
   |cons k c=>
    cases a with
    |nil=>cases f
    |cons u a=>
     simp only[List.map_cons,List.cons.injEq]at e;obtain⟨o,x,j,l⟩:=g 0 u rfl;simp at j;have:o=Sg k:=by rw[<-e.1,r.1,j]
     subst this;obtain⟨q,rfl⟩:=Value.isInt_shape (k:=k) (v:=u) l;exact .cons _ _ (n t e.2 (by simpa using f) λi u m=>g (i+1) u m)
theorem IJ{a:List Value}{b:List Int}(h:Lg a b):Zt (b.map V.int) a:=by
 induction h with
 |nil=>exact .nil
 |cons n t r c=>exact .cons {_,Xb} c
theorem KB(M:X.calm=Gg):V9 X (.builtin "sorted") Cq:=by
 intro m s U H Y W Q I r h;obtain⟨d,zw,D,rfl,R,C,P,q⟩:=h;obtain⟨u,rfl,T⟩:=vals1 r;cases(show u=Value.ref d from T);obtain⟨z,N,y,n,K⟩:=jE I.Zv R;obtain⟨ep,t⟩:=K.dictAt;have c:zw.length=y.length:=n.length;refine Sx kind_sorted plain_sorted entry_sorted (args_sorted1 _) ?_;unfold Builtin.«sorted»;refine Gb (m:=checkCount "sorted" 1 1 _) (Gf ?_);refine Gb (NU (A:=X.A.in1) (Bj (knd:=Ya X.prog X.w) (kvs:=y) (ep:=ep) N) (I.ok.hd M) t (by rw[<-c];exact z) λf E a w g=>?_);have j:a.toList.length=y.length:=by rw[TF];exact g.1
 have L:Lg a.toList D:=JU (P:=X.prog) (w:=X.w) (h:=f) n C j λi u S=>g.2 i u (by rw[<-T9];exact S);have A:zu X m U H {s with heap:=f,toks:=E}:=I.kept w;refine Gb (wpAny_newList ?_ (by rw[j,<-c];exact z));have v:(f.push {cls:=.type "list",data:=.seq a.toList.toArray}).get? f.objs.size=Ga (seqObj "list" a.toList.toArray 0):=Heap.get?_push_size _ rfl;refine Gb (T5 ?_);refine Tz Nr {_,v,Xb} Nb ?_ (MY _);refine list_sort_tree v L (by rw[j,<-c];exact P) λout l G B J=>?_;exists _,Xb;refine Gf {_,Xb,?_};obtain⟨e,O⟩:=sortedHeap_at (out:=out) v;have k:∀b o,f.get? b=Ga o->(sortedHeap (f.push {cls:=.type "list",data:=.seq a.toList.toArray}) f.objs.size a.toList out).get? b=Ga o:=λb o p=>by rw[sortedHeap_old (Tg (Heap.lt_size p)) (by rw[size_push'];exact Fp (Heap.lt_size p))];exact Heap.get?_push_of_some _ p
 have x:l.length<=Gj:=by
  rw[B.length_eq];have:D.length=zw.length:=by have:=congrArg List.length C;simpa using this.symm
  rw[this];exact z
 have F:=A.laid (a:=f.objs.size) (o:=.lst (l.map V.int)) (t':=E) k (Gm _) {by rw[List.length_map];exact x,out.toList,e,IJ G,by rw[Eb];exact O};exact{.ref f.objs.size,_,F,Xb,q _ _ (A.Zv.fresh (Gm _)) B J}
end L2
namespace K07
open PySem L2 Sb Nt
variable{X:Gc->Prop}{H H' H1 H0:Hp}{v:V}{k a b p q tb m j:Nat}{fs:List Fm}{x:Nn}{N:Nat->Nat->Option Nat}{u t:Th}{S ts U:List Th}{f C r n L d D fW fB M fR fL f0 fI fN CP CB fC fA:Gc}{fd fdW fdB fdR fdL fdI fdN:Tp}{A:Na}{lks:List Lk}{xs ys:List V}{P:Gi}{w:Gu}{ens:List En}{tl:Tl}{α:Type}{ds:List TW}{K:Gd}
inductive xk(C:Gc)(vs:List V)(H:Hp)(Q:VK):Prop
 |mk (n:Gc) (A:Na) (fs:List Fm) (x:Nn) (p:Nat) (h0:vs=[.ref n,jv p]) (h1:(∃dx,H n=Ga (.ins C dx (Y9 A)))) (h2:(∃ws,H A.f=Ga (.lst ws)/\Paired (Rn H) ws fs)) (h3:Rd H A.l (.dK (dS x.S λp=>jv (x.lead p)))) (h4:p<fs.length) (h5:(∀q∈Zo fs p,q∈x.S)) (h6:(Zo fs p).length<=1000000) (h7:∀(c:Gc)(H':Hp),Qx H H'->H c=Ge->Rn H' (.ref c) (Zm (Yg fs) (Zo fs) x.lead p)->Q (.ref c) H'):xk C vs H Q
def sC(C:Gc):Sp:=λa H Q _=>xk C a H Q
abbrev Row:=GY×List Nat×Nat
inductive Ig(H:Hp)(X:Gc->Prop)(v:V)(r:Row):Prop
 |mk (c:_) (l:_) (h0:v=.ref c) (h1:H c=Ga (.tup [.str r.1,.ref l,jv r.2.2])) (h2:H l=Ga (.lst (r.2.1.map jv))) (h3:¬X l):Ig H X v r
theorem Ig.kp(i:∀{c:Gc}{a:List V},H c=Ga (.tup a)->H' c=Ga (.tup a))(g:∀{c:Gc}{a:List V},H c=Ga (.lst a)->¬X c->H' c=Ga (.lst a)){r:Row}(h:Ig H X v r):Ig H' X v r:=by obtain⟨c,l,d,e,f,b⟩:=h;exact{c,l,d,i e,g f b,b}
theorem Ig.ex{Y:Gc->Prop}(f:∀c a,H c=Ga (.lst a)->¬X c->¬Y c){r:Row}(h:Ig H X v r):Ig H Y v r:=by obtain⟨c,l,b,d,a,e⟩:=h;exact{c,l,b,d,a,f _ _ a e}
inductive Uy(H:Hp)(X:Gc->Prop)(v:V)(rs:List Row):Prop
 |mk (r:_) (es:_) (h0:v=.ref r) (h1:H r=Ga (.lst es)) (h2:¬X r) (h3:Paired (Ig H X) es rs):Uy H X v rs
theorem Uy.kp{X:Gc->Prop}{H b:Hp}(l:∀{c:Gc}{a:List V},H c=Ga (.tup a)->b c=Ga (.tup a))(e:∀{c:Gc}{a:List V},H c=Ga (.lst a)->¬X c->b c=Ga (.lst a)){v:V}{f:List Row}(h:Uy H X v f):Uy b X v f:=by obtain⟨r,g,i,j,d,k⟩:=h;exact{r,g,i,e j d,d,L2.Paired.Yb k λ_ _ h=>h.kp l e}
theorem Uy.ex{X Y:Gc->Prop}{H:Hp}(b:∀c a,H c=Ga (.lst a)->¬X c->¬Y c){v:V}{d:List Row}(h:Uy H X v d):Uy H Y v d:=by obtain⟨r,e,f,a,g,i⟩:=h;exact{r,e,f,a,b _ _ a g,L2.Paired.Yb i λ_ _ h=>h.ex b}
def Vq(fs:List Fm)(x:Nn)(N:Nat->Nat)(p:Nat):Row:=(Yg fs p,(Zo fs p).map (λq=>N (x.lead q)),N (x.lead p))
structure vX(fs:List Fm)(x:Nn)(rs:List Row):Prop where
 ex:∃N:Nat->Nat,(∀p∈x.S,∀q∈x.S,N (x.lead p)=N (x.lead q)->x.lead p=x.lead q)/\(∀p∈x.S,Vq fs x N p∈rs)/\∀r∈rs,∃p∈x.S,r=Vq fs x N p
 nd:(rs.map λr=>(r.1,r.2.1)).Nodup
inductive uc(P:Gi)(w:Gu)(C:Gc)(vs:List V)(H:Hp)(Q:VK):Prop
 |mk (n:Gc) (A:Na) (fs:List Fm) (tb:Nat) (x:Nn) (h0:vs=[.ref n]) (h1:Z7 P w C H n A fs tb x) (h2:g8 fs x.S) (h3:Wc (Yg fs) (Zo fs) x []) (h4:x.S.length<=1000) (h5:∀(v:V)(rs:List Row)(H':Hp),Qx H H'->Uy H' (λb=>∃o,H b=Ga o) v rs->vX fs x rs->Q v H'):uc P w C vs H Q
def rK(P:Gi)(w:Gu)(C:Gc):Sp:=λa H Q _=>uc P w C a H Q
theorem JW{a:List Nat}{l:Nat}(c:l∉a)(b:k∈a++[l]):(a++[l]).idxOf k=if k=l then a.length else a.idxOf k:=by
 rw[List.idxOf_append];by_cases h:k=l
 .subst h;rw[Gh c,Gn rfl];simp
 .have:k∈a:=by
   rcases List.mem_append.mp b with z|z
   .exact z
   .exact absurd (by simpa using z) h
  rw[Gn this,Gh h]
theorem m9{c:List Nat}(f:a∈c)(g:b∈c)(h:c.idxOf a=c.idxOf b):a=b:=by have d:=List.getElem_idxOf (List.idxOf_lt_length_of_mem f);have e:=List.getElem_idxOf (List.idxOf_lt_length_of_mem g);rw[<-d,<-e];simp only[h]
def iv(fs:List Fm)(x:Nn)(N:Nat->Nat)(X:Gc->Prop)(H:Hp)(e:KE)(p:Nat):Prop:=e.1=Y1 (Zm (Yg fs) (Zo fs) x.lead p)/\Ig H X e.2.2 (Vq fs x N p)
theorem tN{N:Nat->Nat}{d:List KE}{f:List Nat}(h:Paired (iv fs x N X H) d f)(k:Fm):(Yf d (Y1 k)).isSome=Gg↔∃p∈f,Zm (Yg fs) (Zo fs) x.lead p=k:=by
 induction h with
 |nil=>simp[Yf]
 |@cons e p d f g t i=>
  by_cases c:e.1=Y1 k
  .rw[Ym c];simp only[LZ,true_iff];exact{p,List.mem_cons_self,Je (g.1.symm.trans c)}
  .rw[Yl c,i];constructor
   .rintro⟨q,a,b⟩;exact{q,List.mem_cons_of_mem _ a,b}
   .rintro⟨q,a,b⟩;rcases List.mem_cons.mp a with rfl|a
    .exact absurd (by rw[g.1,b]) c
    .exact⟨q,a,b⟩
theorem CL{N:Nat->Nat}{f:List KE}{b:List Nat}(i:Ig H X v (Vq fs x N p))(a:∀q∈b,Zm (Yg fs) (Zo fs) x.lead q=Zm (Yg fs) (Zo fs) x.lead p->Vq fs x N q=Vq fs x N p)(h:Paired (iv fs x N X H) f b):
  Paired (iv fs x N X H) (f.map λe=>if e.1=Y1 (Zm (Yg fs) (Zo fs) x.lead p)then(e.1,e.2.1,v)else e) b:=by
 induction h with
 |nil=>exact .nil
 |@cons e q f b d t j=>
  refine .cons ?_ (j λq g=>a q (List.mem_cons_of_mem _ g));dsimp only;by_cases c:e.1=Y1 (Zm (Yg fs) (Zo fs) x.lead p)
  .rw[Gn c];exists d.1;rw[a q List.mem_cons_self (Je (d.1.symm.trans c))];exact i
  .rw[Gh c];exact d
theorem OS{a:Gc}{u:HO}(r:Rd H a u)(g:Qx H H'):Rd H' a u:=by
 rcases r with r|⟨o,r⟩
 .exact .inl (g _ _ r)
 .exact .inr {o,g _ _ r}
theorem nJ{a:Gc}{S:List Nat}{f:Nat->V}(h:Rd H a (.dK (dS S f)))(b:p∈S):Wn H a (jv p) (Ga (f p)):=.inl {_,ki p,h,Xb,(iW b).symm}
section
variable{P:Gi}{w:Gu}{K:Gd}{mg:GY->Option Value}{base:Heap}
theorem QF(F:Wj K "key_of" "Net.key_of" jx f fd)(j:Um K mg C)(M:Ii mg):Qu P w K mg base Z5 1 f fd ["self","place"] (sC C):=by
 refine F.ok kK (λvs r O N d=>?_) (λab g ac s r vs O N X d=>?_)
 .obtain⟨n,g,a,x,p,rfl,_⟩:=d;rfl
 obtain⟨n,g,a,x,p,rfl,⟨t,H⟩,⟨J,S,v⟩,le,B,W,hl,T⟩:=d;have Y:=Jg X;have nd:=kK.nd;exists _,Qd (Qt 2 nd (Qn Ze (Qm (pv 0) rfl) (pv 1)))
  (Qh (Qv (Za (Qa (Qn Q3 (pv 2) Qj) (Qa (Xx Wh rfl M.tuple TR (Qa
   (V0 (te:=jQ (kU K (Vw 1) "leads") (Vw 0)) (own:=["part"]) (fv:=[(0,"self")]) rfl (S:=(by eq_refl:Wa (Qk jx) _)) (.cons rfl (De Xb) rfl .nil) (V4 (Qn Q3 (pv 2) Qj))
    (λ_ _ _ _ _=>Xe (i:=0) yT rfl (De Xb) (Ej Xb)) (λ_ _ _ _ _=>We) (λ_ _ _ _ _=>Zw Y (Qm (pv 1) rfl) (pv 0) (λ_ _=>rfl))) Qe)) Qe)))))
 have hw:p<J.length:=by rw[Gr v];exact B
 obtain⟨y,E,c,k,R,z,A⟩:=Qy v (List.getElem?_eq_getElem hw);rw[js B]at E;cases E;have Q:atI [V.str (Yg a p),V.ref k] (1:Int)=Ga (.ref k):=Qz (j:=1) rfl;exists _,Xb,n,C,t,_,_,Xb,H,j.cl,j.Qc7,U5 _,_,Xb,g.f,J,_,_,Xb,Xb,Zb.of S,Qz (List.getElem?_eq_getElem hw);rw[R];refine{_,Xb,c,_,_,_,Xb,Xb,Zz.of z,R8 _ _,_,Xb,c,_,_,_,Xb,Xb,Zz.of z,Q,k,Xb,{_,Zz.of A},λaa D=>?_};have s3:=Qf D (.lst []);refine Jd (K:=K) (a:=k) (xs:=(Zo a p).map jv) (small (by rw[List.length_map];ext)) (λi m o h=>(∃L,o=[L,Ga (.ref n)])/\Qx r h/\m=((Zo a p).take i).map λq=>jv (x.lead q))
  {{_,Xb},s3,by simp} (λi m o h _ d=>Zz.of (d.2.1 _ _ A)) ?_ ?_
 .rintro i y m o h e Z ⟨⟨L,rfl⟩,b,rfl⟩ l;rw[List.getElem?_map]at e;cases eq:(Zo a p)[i]? with
  |none=>rw[eq]at e;cases e
  |some q=>
   rw[eq]at e;cases e;exists _,Xb,n,C,t,_,_,Xb,b _ _ H,j.cl,j.W9,Yn _,_,Xb,g.l,_,Xb,nJ (OS le b) (W q (List.mem_of_getElem? eq)),l,{_,Xb},λG I u=>?_
   .rw[Qg (Qc u D)];exact b _ _ u
   .rw[List.take_add_one,eq,List.map_append];rfl
 .rintro m o h Z ⟨_,b,rfl⟩ l;rw[List.length_map,List.take_length]at l;refine{aa,_,Xb,.inl {Zb.of l,λG U=>?_}};have s4:=Qf U (.tup ((Zo a p).map λq=>jv (x.lead q)));refine{by show 2<=Gj;decide,λe u=>?_};have I:=Qf u (.tup [.str (Yg a p),.ref G]);refine T e _ ((b.trans s4).trans I) (b.free (s4.free u)) {e,G,Xb,Qb,?_};rw[I _ _ Qb];simp only[Zm,List.map_map];rfl
theorem rb{S:List Nat}{f:Nat->V}{i:Nat}{a:Xm×V}(h:(dS S f)[i]?=Ga a):∃p,S[i]?=Ga p/\a=(ki p,f p):=by
 unfold dS at h;rw[List.getElem?_map]at h;cases e:S[i]? with
 |none=>rw[e]at h;cases h
 |some p=>rw[e]at h;cases h;exact⟨p,Xb,Xb⟩
theorem uB:Qw ["self","numbers","place","found","key"] ["self"] (Qk ix):=by eq_refl
theorem Cd:(["lead","numbers"]:List GY).Nodup:=by decide+kernel
theorem Am{fK:Gc}{aJ:Tp}(F:Wj K "rows" "Net.rows" ix f fd)(Y:Um K mg C)(aH:Ii mg)(mK:Yc K C "key_of" fK)(GK:Qu P w K mg base Z5 1 fK aJ ["self","place"] (sC C))(bK:zk K aJ ["self","place"] []):
  Qu P w K mg base Z5 2 f fd ["self"] (rK P w C):=by
 refine F.ok uB (λN J L G g=>?_) (λR j U s J N L G O g=>?_)
 .obtain⟨n,j,e,tb,x,rfl,_⟩:=g;rfl
 obtain⟨n,j,e,tb,x,rfl,X,FO,aI,hS,q⟩:=g;have hu:=Jg O;have a7:=O.units;have a6:Yd 1 _:=O.mono (by lia);have nd:=uB.nd;show∃t,Ik ?my _ t/\_;let w5:Xf ?my ix 4:={_,Qh (Qv (Xx (JB Xb) rfl aH.list TV (Qa (QV SO MZ Px (pv 3)) Qe)))}
 let w4:Xf ?my ix 3:=⟨_,Qd (yG (Z8 Gv rfl (yi (Qm (pv 0) rfl)) (Z6 2 nd)
   (Qd (Qt 4 nd (Zf (pv 0) Y.cl mK GK a6 bK .nil Q5 (Qa (pv 2) Qe)))
   (Qh (Oj (Za (Qa (Qn Q3 (pv 4) Qj) (Qa
     (V0 (te:=jQ (Vw 1) (Vw 0)) (own:=["lead"]) (fv:=[(1,"numbers")]) rfl (S:=(by eq_refl:Wa (Qk ix) _)) (.cons rfl (De Xb) rfl .nil) (V4 (Qn Q3 (pv 4) Qj))
      (λ_ _ _ _ _=>Xe (i:=0) Cd rfl (De Xb) (Ej Xb)) (λ_ _ _ _ _=>We) (λ_ _ _ _ _=>Zw hu (pv 1) (pv 0) (λ_ _=>rfl)))
     (Qa (Zw hu (pv 1) (Zw hu (Qm (pv 0) rfl) (pv 2) (λ_ _=>rfl)) (λ_ _=>rfl)) Qe))))
    (jk (pv 3) (pv 4) (jd a7))))))) w5.2⟩
 let w3:Xf ?my ix 2:={_,Qd (Ub (i:=3) (te:=pO P w) nd rfl (De Xb) Ip) w4.2}
 let w2:Xf ?my ix 1:=⟨_,Qd (yG (Z8 Gv rfl (yi (Qm (pv 0) rfl)) (Z6 2 nd)
   (Qh (Zc (Xk DS Er Es Kb (pv 1) (Qa (Zw hu (Qm (pv 0) rfl) (pv 2) (λ_ _=>rfl)) (Qa (Qo zV rfl aH.len GX (Qa (pv 1) Qe)) Qe))))))) w3.2⟩
 exists _,Qd (Ub (i:=1) nd rfl (Ej Xb) U6) w2.2;obtain⟨dx,o1⟩:=X.ob;intro num ap;have s1:=Qf ap (.dK []);have X1:=X.same s1;have nl:num≠j.l:=Gp (Qc X.le ap);have nn:num≠n:=Gp (Qc o1 ap);have ln:n≠j.l:=Ye o1 X.le nofun;exists j.l,_,X1.le;refine⟨_,Xb,n,C,dx,_,_,Xb,s1 _ _ o1,Y.cl,Y.W9,Yn _,j.l,_,Xb,X1.le,λh=>sR (λi M W=>ia λ(x2:Option V)(v:List Nat)=>hJ (M=[Ga (.ref n),Ga (.ref num),x2,Ge,Ge]) (W num=Ga (.dK (dS v λk=>jv (v.idxOf k)))) (v.Nodup) (v.length<=i) (∀p∈x.S.take i,x.lead p∈v) (W j.l=Ga (fz h (dS x.S λp=>jv (x.lead p)))) (∀d u,J d=Ga u->d≠j.l->W d=Ga u))
  {_,[],Xb,Qi Qb nl,List.nodup_nil,Gw _,by simp,Qb,λd u b I=>Qi (s1 _ _ b) I} (by rintro i M W _ ⟨_,_,_,_,_,_,_,g,_⟩;exact g) ?_ ?_⟩
 .rintro i pr M W hi ⟨x2,v,rfl,ae,aF,aM,ad,ak,fr⟩;obtain⟨p,l,rfl⟩:=rb hi;have pS:p∈x.S:=List.mem_of_getElem? l;have a3:i<x.S.length:=(List.getElem?_eq_some_iff.mp l).1;refine{_,Xb,.inr (.inr (.inl {Xb,.inl {_,ae}})),_,Xb,n,C,dx,_,_,Xb,fr _ _ o1 ln,Y.cl,Y.W9,Yn _,_,Xb,j.l,_,Xb,nJ (.inr ⟨h,ak⟩) pS,_,Xb,num,_,Xb,ae,num,ki (x.lead p),_,_,Xb,Xb,ae,by rw[Vi,Gz];lia,λQ hv=>?_,λhv=>?_}
  .have T:x.lead p∈v:=by refine Mt λz=>?_;rw[qm z]at hv;cases hv
   refine{_,v,Xb,ae,aF,by lia,λD O=>?_,ak,fr};rw[List.take_add_one,l]at O;rcases List.mem_append.mp O with g|g
   .exact ad D g
   .have:D=p:=by simpa using g
    rw[this];exact T
  .have T:x.lead p∉v:=λz=>by rw[iW z]at hv;cases hv
   have eo:Wm (dS v λk=>jv (v.idxOf k)) (ki (x.lead p)) (.int ((dS v λk=>jv (v.idxOf k)).length:Int))=dS (v++[x.lead p]) λk=>jv ((v++[x.lead p]).idxOf k):=by rw[ja T,Vi];refine Wu λk G=>?_;rw[JW T G];split<;>rfl
   rw[eo];refine{_,v++[x.lead p],Xb,Qb,List.nodup_append.mpr {aF,by simp,λa ha d I=>by simp at I;subst I;exactλz=>T (z▸ha)},by rw[List.length_append,List.length_singleton];lia,λD O=>?_,Qi ak (Gp nl),λd u b I=>Qi (fr d u b I) (Qc b ap)};rw[List.take_add_one,l]at O;rcases List.mem_append.mp O with g|g
   .exact List.mem_append_left _ (ad D g)
   .have:D=p:=by simpa using g
    rw[this];simp
 rintro M W ⟨x2,v,rfl,ae,aF,aM,ad,ak,fr⟩;rw[Vi,List.take_length]at ad;rw[Vi]at aM;exists h,ak;have t2:∀d u,J d=Ga u->(zj W j.l (.dK (dS x.S λp=>jv (x.lead p)))) d=Ga u:=λd u b=>by
  by_cases g:d=j.l
  .subst g;rw[Qb,<-b];exact X.le.symm
  .exact Qi (fr d u b g) g
 generalize a4:(dS v λk=>jv (v.idxOf k))=au at ae;have ar:∀p∈x.S,Yt au (ki (x.lead p))=Ga (jv (v.idxOf (x.lead p))):=λp l=>by rw[<-a4];exact iW (ad p l)
 generalize aK:(λk=>v.idxOf k)=m;have ar:∀p∈x.S,Yt au (ki (x.lead p))=Ga (jv (m (x.lead p))):=λp l=>by rw[<-aK];exact ar p l
 have aL:∀p∈x.S,∀q∈x.S,m (x.lead p)=m (x.lead q)->x.lead p=x.lead q:=λp l q E b=>by rw[<-aK]at b;exact m9 (ad p l) (ad q E) b
 have aG:(zj W j.l (.dK (dS x.S λp=>jv (x.lead p)))) num=Ga (.dK au):=Qi ae nl;generalize zj W j.l (.dK (dS x.S λp=>jv (x.lead p)))=H3 at t2 aG;intro r ao;have s4:=Qf ao (Vx P w r []);have g4:Qx J (zj H3 r (Vx P w r [])):=λd u b=>s4 _ _ (t2 d u b);have X4:=X.same g4;have nf:num≠r:=Qc aG ao;have fl:j.l≠r:=Qc (t2 _ _ X.le) ao;exists j.l,_,X4.le;refine⟨_,Xb,n,C,dx,_,_,Xb,g4 _ _ o1,Y.cl,Y.W9,Yn _,j.l,_,Xb,X4.le,λh=>sR (λi M H=>ke λ(x2 x4:Option V)(A:List KE)=>jF (M=[Ga (.ref n),Ga (.ref num),x2,Ga (.ref r),x4]) (DH P w H r A) (∃o:List Nat,o.length<=i/\Paired (iv e x m (λd=>∃h,J d=Ga h) H) A o/\(o.map λp=>Zm (Yg e) (Zo e) x.lead p).Nodup/\(∀p∈o,p∈x.S)/\∀p∈x.S.take i,∃p'∈o,Zm (Yg e) (Zo e) x.lead p'=Zm (Yg e) (Zo e) x.lead p) (H num=Ga (.dK au)) (H j.l=Ga (fz h (dS x.S λp=>jv (x.lead p)))) (∀d u,J d=Ga u->d≠j.l->H d=Ga u))
  {_,_,[],Xb,{Qi Qb (Gp fl),(λp l=>nomatch l)},{[],Gw _,.nil,List.nodup_nil,(λp l=>nomatch l),by simp},Qi (Qi aG nf) nl,Qb,λd u b I=>Qi (g4 _ _ b) I} (by rintro i M H _ ⟨_,_,_,_,_,_,_,g,_⟩;exact g) ?_ ?_⟩
 .rintro i pr M H hi ⟨x2,x4,A,rfl,D5,⟨o,a5,aq,av,af,aj⟩,aN,ab,ac⟩;obtain⟨p,l,rfl⟩:=rb hi;have pS:p∈x.S:=List.mem_of_getElem? l;have a3:i<x.S.length:=(List.getElem?_eq_some_iff.mp l).1;have a9:=FO.few p;obtain⟨ws,f1,f2⟩:=X.fo;have tu:Qp J H:=λd xs b=>ac d _ b (Ye b X.le nofun);have fA:H j.f=Ga (.lst ws):=ac _ _ f1 (Ye f1 X.le nofun);have o5:=ac _ _ o1 ln;refine{_,Xb,n,dx,_,Xb,o5,nB _,_,Xb,n,j,e,x,p,Xb,⟨dx,o5⟩,{ws,fA,L2.Paired.Yb f2 λ_ _ g=>g.Ql tu},.inr ⟨h,ab⟩,FO.lt p pS,FO.pts p pS,by lia,λc H6 L a8 fm=>?_};obtain⟨c',b,ec,h1,S⟩:=id fm;cases ec;simp only[Zm]at h1 S;have am:=L _ _ aN;have D6:DH P w H6 r A:={L _ _ D5.at_,Q8 (Qp.of L) D5.keys};refine{_,Xb,c,_,_,_,Xb,Xb,Zz.of h1,R8 _ _,_,Xb,c,_,_,_,Xb,Xb,Zz.of h1,Rq _ _ _,b,Xb,{_,Zz.of S},λD al=>?_};have s7:=Qf al (.lst []);have ba:=Gr aq;refine Jd (K:=K) (a:=b) (xs:=((Zo e p).map x.lead).map jv) (small (by rw[List.length_map,List.length_map];lia)) (λi ys M G=>(∃x0,M=[x0,Ga (.ref num)])/\Qx H6 G/\ys=((Zo e p).take i).map λq=>jv (m (x.lead q))) {{_,Xb},s7,by simp} (λi ys M G _ g=>Zz.of (g.2.1 _ _ S)) ?_ ?_
  .rintro aw y ys M G N a2 ⟨⟨x0,rfl⟩,U,rfl⟩ ai;rw[List.getElem?_map,List.getElem?_map]at N;cases eq:(Zo e p)[aw]? with
   |none=>rw[eq]at N;cases N
   |some R=>rw[eq]at N;cases N;have hv:=ar R (FO.pts p pS R (List.mem_of_getElem? eq));exists _,Xb,_,Xb,num,_,Xb,(by have:=Wn.k (k:=ki (x.lead R)) (U _ _ am);rw[hv]at this;exact this),ai,{_,Xb},λd h eb=>Qi (U _ _ eb) (Qc eb al);rw[List.take_add_one,eq,List.map_append];rfl
  .rintro ys M G a2 ⟨_,U,rfl⟩ ai;rw[List.length_map,List.length_map,List.take_length]at ai;have hv:=ar p pS;have a0:=U _ _ am;have dg:Wn G num (jv (x.lead p)) (Ga (jv (m (x.lead p)))):=by have:=Wn.k (k:=ki (x.lead p)) a0;rw[hv]at this;exact this
   refine{_,Xb,_,Xb,n,C,dx,_,_,Xb,U _ _ (L _ _ o5),Y.cl,Y.W9,Yn _,_,Xb,j.l,_,Xb,nJ (.inr {h,U _ _ (L _ _ ab)}) pS,num,_,Xb,dg,by show 3<=Gj;decide,λB hm=>?_};generalize aY:jv (m (x.lead p))=Q;have s8:=Qf hm (.tup [.str (Yg e p),.ref D,Q]);have N:Qx H6 (zj G B (.tup [.str (Yg e p),.ref D,Q])):=U.trans s8;have D8:DH P w (zj G B (.tup [.str (Yg e p),.ref D,Q])) r A:={N _ _ D6.at_,Q8 (Qp.of N) D6.keys};have k8:=(fm.Ql (Qp.of N)).key (FO.str p);exists _,Xb,_,Xb,r,c,_,A,Xb,Xb,D8,k8,(by rw[Gz];lia);have a1:∀d h,J d=Ga h->∃u,H6 d=Ga u:=λd h eb=>by
    by_cases I:d=j.l
    .rw[I];exact{_,L _ _ ab}
    .exact{h,L _ _ (ac d h eb I)}
   have aD:Ig (zj G B (.tup [.str (Yg e p),.ref D,Q])) (λd=>∃h,J d=Ga h) (.ref B) (Vq e x m p):=⟨B,D,Xb,by rw[<-aY];exact Qb,by
    show _=Ga (HO.lst (((Zo e p).map λq=>m (x.lead q)).map jv));rw[List.map_map];exact s8 _ _ ai,λ⟨h,eo⟩=>by
    obtain⟨u,aa⟩:=a1 _ _ eo;rw[al]at aa;cases aa⟩
   generalize aC:Wv A (Y1 (Zm (Yg e) (Zo e) x.lead p)) c (.ref B)=ah;have aE:∀{d:Gc}{xs:List V},(zj G B (.tup [.str (Yg e p),.ref D,Q])) d=Ga (.tup xs)->(zj (zj G B (.tup [.str (Yg e p),.ref D,Q])) r (Vx P w r ah)) d=Ga (.tup xs):=λb=>Qi b (Ye b D8.at_ nofun);have aZ:∀{d:Gc}{xs:List V},(zj G B (.tup [.str (Yg e p),.ref D,Q])) d=Ga (.lst xs)->(zj (zj G B (.tup [.str (Yg e p),.ref D,Q])) r (Vx P w r ah)) d=Ga (.lst xs):=λb=>Qi b (Ye b D8.at_ nofun);have ag:Paired (iv e x m (λd=>∃h,J d=Ga h) (zj G B (.tup [.str (Yg e p),.ref D,Q]))) A o:=L2.Paired.Yb aq λ_ _ g=>{g.1,g.2.kp (λb=>N _ _ (L _ _ b)) (λb _=>N _ _ (L _ _ b))};have aX:∀q∈o,Zm (Yg e) (Zo e) x.lead q=Zm (Yg e) (Zo e) x.lead p->Vq e x m q=Vq e x m p:=λq E b=>by have Z:=aI.cong (af q E) pS b;simp only[Zm,TX]at b;unfold Vq;rw[b.1,Z];congr 2;have:=congrArg (List.map m) b.2;rw[List.map_map,List.map_map]at this;exact this
   have aW:∃R:List Nat,R.length<=i+1/\Paired (iv e x m (λd=>∃h,J d=Ga h) (zj G B (.tup [.str (Yg e p),.ref D,Q]))) ah R/\(R.map λp=>Zm (Yg e) (Zo e) x.lead p).Nodup/\(∀p∈R,p∈x.S)/\∀q∈x.S.take (i+1),∃p'∈R,Zm (Yg e) (Zo e) x.lead p'=Zm (Yg e) (Zo e) x.lead q:=by
    rw[<-aC];unfold Wv;by_cases T:(Yf A (Y1 (Zm (Yg e) (Zo e) x.lead p))).isSome=Gg
    .rw[Gn T];refine{o,by lia,CL aD aX ag,av,af,λq E=>?_};rw[List.take_add_one,l]at E;rcases List.mem_append.mp E with g|g
     .exact aj q g
     .have:q=p:=by simpa using g
      rw[this];exact(tN ag _).mp T
    .rw[Gh T];have aA:∀q∈o,Zm (Yg e) (Zo e) x.lead q≠Zm (Yg e) (Zo e) x.lead p:=λq E b=>T ((tN ag _).mpr ⟨q,E,b⟩);refine{o++[p],by rw[List.length_append,List.length_singleton];lia,DN ag ⟨Xb,aD⟩,?_,λq E=>?_,λq E=>?_}
     .rw[List.map_append];refine List.nodup_append.mpr {av,by simp,λa ha d I=>?_};obtain⟨q,E,rfl⟩:=List.mem_map.mp ha;have:d=Zm (Yg e) (Zo e) x.lead p:=by simpa using I
      rw[this];exact aA q E
     .rcases List.mem_append.mp E with g|g
      .exact af q g
      .have:q=p:=by simpa using g
       rw[this];exact pS
     .rw[List.take_add_one,l]at E;rcases List.mem_append.mp E with g|g
      .obtain⟨p',h1,S⟩:=aj q g;exact{p',List.mem_append_left _ h1,S}
      .have:q=p:=by simpa using g
       rw[this];exact{p,by simp,Xb}
   obtain⟨R,aQ,aR,aT,aU,aV⟩:=aW;exact{_,_,ah,Xb,{Qb,Q8 (λd xs b=>aE b) (by rw[<-aC];exact D8.keys.put k8)},{R,aQ,L2.Paired.Yb aR λ_ _ g=>{g.1,g.2.kp aE (λb _=>aZ b)},aT,aU,aV},Qi (N _ _ am) nf,Qi (N _ _ (L _ _ ab)) fl,λd u b I=>Qi (N _ _ (L _ _ (ac d u b I))) (Qc (t2 _ _ b) ao)}
 .rintro M H ⟨x2,x4,A,rfl,D5,⟨o,a5,aq,av,af,aj⟩,aN,ab,ac⟩;rw[Vi,List.take_length]at aj;exists h,ab;have t6:Qx J (zj H j.l (.dK (dS x.S λp=>jv (x.lead p)))):=λd u b=>by
   by_cases g:d=j.l
   .subst g;rw[Qb,<-b];exact X.le.symm
   .exact Qi (ac d u b g) g
  have az:∀{d:Gc}{xs:List V},H d=Ga (.tup xs)->(zj H j.l (.dK (dS x.S λp=>jv (x.lead p)))) d=Ga (.tup xs):=λb=>Qi b (Ye b ab nofun);have aP:∀{d:Gc}{xs:List V},H d=Ga (.lst xs)->(zj H j.l (.dK (dS x.S λp=>jv (x.lead p)))) d=Ga (.lst xs):=λb=>Qi b (Ye b ab nofun);have D6:DH P w (zj H j.l (.dK (dS x.S λp=>jv (x.lead p)))) r A:={Qi D5.at_ (Gp fl),Q8 (λd xs b=>az b) D5.keys};have ax:Paired (iv e x m (λd=>∃h,J d=Ga h) (zj H j.l (.dK (dS x.S λp=>jv (x.lead p))))) A o:=L2.Paired.Yb aq λ_ _ g=>{g.1,g.2.kp az (λb _=>aP b)};generalize zj H j.l (.dK (dS x.S λp=>jv (x.lead p)))=H6 at t6 D6 ax;refine{_,Xb,{r,A,Xb,D6.at_},r,A,Xb,Xb,D6,λR aO=>?_};have s7:=Qf aO (vvw R r);have D7:DH P w (zj H6 R (vvw R r)) r A:={s7 _ _ D6.at_,Q8 (Qp.of s7) D6.keys};refine{R,r,A,Xb,Qb,D7,λG Z=>?_};have s8:=Qf Z (.lst (A.map λp=>p.2.2));have ay:=s7.trans s8;refine q (.ref G) (o.map (Vq e x m)) _ (t6.trans ay) {G,_,Xb,Qb,(by rintro⟨h,eo⟩;rw[s7.free Z|>t6.free]at eo;cases eo),?_} {{m,aL,λp l=>?_,λD O=>?_},?_}
  .have an:∀{L:Hp},Qx H6 L->∀{A:List KE}{o:List Nat},Paired (iv e x m (λd=>∃h,J d=Ga h) H6) A o->Paired (Ig L (λd=>∃h,J d=Ga h)) (A.map λp=>p.2.2) (o.map (Vq e x m)):=λ{L}N{A o}g=>by
    induction g with
    |nil=>exact .nil
    |cons g t U=>exact .cons (g.2.kp (λb=>N _ _ b) (λb _=>N _ _ b)) U
   exact an ay ax
  .obtain⟨p',h1,S⟩:=aj p l;have Z:=aI.cong (af p' h1) l S;refine List.mem_map.mpr {p',h1,?_};simp only[Zm,TX]at S;unfold Vq;rw[S.1,Z];congr 2;have:=congrArg (List.map m) S.2;rw[List.map_map,List.map_map]at this;exact this
  .obtain⟨p,l,rfl⟩:=List.mem_map.mp O;exact{p,af p l,Xb}
  .rw[List.map_map];have:∀{o:List Nat},(∀p∈o,p∈x.S)->(o.map λp=>Zm (Yg e) (Zo e) x.lead p).Nodup->(o.map ((λD:Row=>(D.1,D.2.1))∘Vq e x m)).Nodup:=by
    intro o N nd;unfold List.Nodup at nd⊢;rw[List.pairwise_map]at nd⊢;refine List.Pairwise.imp_of_mem (λ{a d}ha I g z=>g ?_) nd;simp only[LP,Vq,TX]at z;simp only[Zm,TX];exists z.1;have aS:=N a ha;have bS:=N d I;have aB:∀{G B:List Nat},(∀q∈G,q∈x.S)->(∀q∈B,q∈x.S)->G.map (λq=>m (x.lead q))=B.map (λq=>m (x.lead q))->G.map x.lead=B.map x.lead:=by
     intro G;induction G with
     |nil=>intro B _ _ b;cases B with
      |nil=>rfl
      |cons _ _=>simp at b
     |cons u G U=>
      intro B Z hm b;cases B with
      |nil=>simp at b
      |cons L B=>simp only[List.map_cons,List.cons.injEq]at b⊢;exact{aL u (Z u List.mem_cons_self) L (hm L List.mem_cons_self) b.1,U (λq E=>Z q (List.mem_cons_of_mem _ E)) (λq E=>hm q (List.mem_cons_of_mem _ E)) b.2}
    exact aB (FO.pts a aS) (FO.pts d bS) z.2
   exact this af av
end
def Wi(fs:List Fm)(a:Lk):List (Nat×Nat):=match a.2.2 with
 |none=>(Zo fs a.1).zip (Zo fs a.2.1)
 |some _=>[]
inductive vk(P:Gi)(w:Gu)(C:Gc)(vs:List V)(H:Hp)(Q:VK):Prop
 |mk (n:Gc) (A:Na) (fs:List Fm) (tb:Nat) (x:Nn) (v:V) (lk:Lk) (h0:vs=[.ref n,v]) (h1:Z7 P w C H n A fs tb x) (h2:Rm H v lk) (h3:lk.1<fs.length) (h4:lk.2.1<fs.length) (h5:∀(r:Gc)(es:List V)(H':Hp),Qx H H'->H r=Ge->H' r=Ga (.lst es)->Paired (lL H') es (Wi fs lk)->Q (.ref r) H'):vk P w C vs H Q
def mr(P:Gi)(w:Gu)(C:Gc):Sp:=λa H Q _=>vk P w C a H Q
structure Nd(fs:List Fm)(x:Nn)(one other:Nat)(ns:List Nat):Prop where
 lt:∀k∈ns,k<x.links.length
 top:∀st,gH x.up one other st->∀p q,(p,q)∈st->∀k,x.Xg p q=Ga k->k∈ns
 low:∀k∈ns,∀lk,x.links[k]?=Ga lk->∀p q,(p,q)∈Wi fs lk->∀st,gH x.up p q st->∀u v,(u,v)∈st->∀j,x.Xg u v=Ga j->j∈ns/\j<k
 only:∀k∈ns,∃st p q j,gH x.up one other st/\(p,q)∈st/\x.Xg p q=Ga j/\k<=j
inductive rR(P:Gi)(w:Gu)(C:Gc)(vs:List V)(H:Hp)(Q:VK):Prop
 |mk (n:Gc) (A:Na) (fs:List Fm) (tb:Nat) (x:Nn) (one:Nat) (other:Nat) (h0:vs=[.ref n,jv one,jv other]) (h1:Z7 P w C H n A fs tb x) (h2:Wc (Yg fs) (Zo fs) x []) (h3:g8 fs x.S) (h4:one∈x.S) (h5:other∈x.S) (h6:x.lead one=x.lead other) (h7:x.S.length<=1000) (h8:x.links.length<64) (h9:∀(r:Gc)(ns:List Nat)(H':Hp),Qx H H'->H r=Ge->H' r=Ga (.lst (ns.map jv))->ns.Nodup->ns.Pairwise (·<=·)->Nd fs x one other ns->Q (.ref r) H'):rR P w C vs H Q
def tJ(P:Gi)(w:Gu)(C:Gc):Sp:=λa H Q _=>rR P w C a H Q
theorem ve{r:Option Jl}(h:jh H v r):decide (v=V.non)= !r.isSome:=by
 cases r with
 |none=>rw[show v=V.non from h];rfl
 |some r=>
  cases r with
  |told n=>obtain⟨c,rfl,_⟩:=h;rfl
  |asked=>obtain⟨c,rfl,_⟩:=h;rfl
theorem lV(I:Wc (Yg fs) (Zo fs) x []){e:Lk}(j:x.links[k]?=Ga e)(d:(p,q)∈Wi fs e):p∈x.S/\q∈x.S/\Cn (x.links.take k) p q:=by
 obtain⟨a,b,r⟩:=e;obtain⟨f,g,h⟩:=I.lnk k a b r j;cases r with
 |some r=>simp[Wi]at d
 |none=>simp only[Wi]at d;obtain⟨_,l,h⟩:=h rfl;obtain⟨i,c⟩:=List.mem_iff_getElem?.mp d;rw[List.getElem?_zip_eq_some]at c;exact{I.pt_ a f p (List.mem_of_getElem? c.1),I.pt_ b g q (List.mem_of_getElem? c.2),h i p q c.1 c.2}
section
variable{P:Gi}{w:Gu}{K:Gd}{mg:GY->Option Value}{base:Heap}
theorem sL:Qw ["net","link"] ["net","link"] (Qk oK):=by eq_refl
theorem OZ(F:Wj K "pairs_below" "pairs_below" oK f fd)(d:Um K mg C)(j:Ii mg):Qu P w K mg base Z5 1 f fd ["net","link"] (mr P w C):=by
 refine F.ok sL (λvs E H D h=>?_) (λab b ac s E vs H D hr h=>?_)
 .obtain⟨n,b,S,tb,x,aa,y,rfl,_⟩:=h;rfl
 obtain⟨n,b,S,tb,x,aa,y,rfl,X,⟨c,A,rfl,i,Z⟩,u,v,q⟩:=h;have nd:=sL.nd;exists _,Qd (Zq (Qr jy (Qn Q3 (pv 1) Qj) Ux (Q4 _)) (Qh (Qv (Zl Qe))) Q6)
  (Qh (Qv (uG rfl rfl j.list rfl j.zip (Qa (Qn Q3 (Qn Ze (Qm (pv 0) rfl) (Qn Q3 (pv 1) Qj)) Qj) (Qa (Qn Q3 (Qn Ze (Qm (pv 0) rfl) (Qn Q3 (pv 1) Qj)) Qj) Qe)))))
 exists _,Xb,c,_,_,_,Xb,Xb,Zz.of i,iw _ _ _ _,Xb,_,Xb;rw[ve Z];obtain⟨a,I,B⟩:=y;cases B with
 |some B=>refine Y0 {Gw _,λp e=>?_};exact q p [] _ (Qf e _) e Qb .nil
 |none=>
  refine Zu ?_;obtain⟨k,z⟩:=X.ob;obtain⟨g,l,e⟩:=X.fo;have m:a<g.length:=by rw[Gr e];exact u
  have o:I<g.length:=by rw[Gr e];exact v
  obtain⟨y1,r,J,M,O,T,V⟩:=Qy e (List.getElem?_eq_getElem m);obtain⟨y2,t,L,N,Q,U,W⟩:=Qy e (List.getElem?_eq_getElem o);rw[js u]at r;rw[js v]at t;cases r;cases t;exists _,Xb,n,C,k,_,_,Xb,z,d.cl,d.Qc7,U5 _,_,Xb,c,_,_,_,Xb,Xb,Zz.of i,R8 _ _,b.f,g,_,_,Xb,Xb,Zb.of l,Qz (List.getElem?_eq_getElem m),J,_,_,_,O,Xb,Zz.of T,Rq _ _ _;exists _,Xb,n,C,k,_,_,Xb,z,d.cl,d.Qc7,U5 _,_,Xb,c,_,_,_,Xb,Xb,Zz.of i,Rq _ _ _,b.f,g,_,_,Xb,Xb,Zb.of l,Qz (List.getElem?_eq_getElem o),L,_,_,_,Q,Xb,Zz.of U,Rq _ _ _;exact{M,N,_,_,Xb,.inr {Zz.of V,Zz.of W},λA R G sm r0 Y pr=>q A R G sm r0 Y (p6 pr)}
theorem qZ(Z:Um K mg C){J:List V}{h:List (Nat×Nat)}{N0:List Nat}{R S g T U Y:Option V}{v:Ends}
  (X:Z7 P w C H n A fs tb x)(g1:Qx H H1)(d0:H d=Ge)(M:H1 d=Ga (.dK (dS N0 λ_=>V.bl Gg)))(hL:H1 L=Ga (.lst J))(ac:Paired (lL H1) J h)(N:∀p q,(p,q)∈h->∃k,x.Xg p q=Ga k/\k<m)(am:N0.Nodup)(l:m<=64)(hN:∀k∈N0,k<64)
  (q:∀b g f,b.Nodup->(∀k∈N0,k∈b)->(∀k∈b,k∈N0\/(k<m/\∃p q,(p,q)∈h/\x.Xg p q=Ga k))->(∀p q k,(p,q)∈h->x.Xg p q=Ga k->k∈b)->Jk d H1 f->f d=Ga (.dK (dS b λ_=>V.bl Gg))->v.nx [Ga (.ref n),R,S,Ga (.ref d),g,T,U,Y] f):
  ∃W:Nat->Nat->St->Hp->Prop,(∃m,W 0 m [Ga (.ref n),R,S,Ga (.ref d),g,T,U,Y] H1)/\∀i m j H,W i m j H->
   ((hV K L).stop i H/\v.nx j H)\/((hV K L).go i H/\∃b:St->Hp->Prop,(∀o f,b o f->∃l,l<m/\W (i+1) l o f)/\∀x f,(hV K L).yld i H x f->Vn 4 x j f λs H2=>xK (Vw 3) (jQ (kU K (Vw 0) "link_at") (Vw 4)) (tC (V.bl Gg)) {v with nx:=b,ct:=b,bk:=v.nx} s H2):=by
 obtain⟨dx,o1⟩:=X.ob;obtain⟨ar,D,ap,ah⟩:=X.at_;have Ld:L≠d:=Ye hL M nofun;let ao:Nat->St->Hp->Prop:=λi j H2=>ia λ(g:Option V)(b:List Nat)=>hJ (j=[Ga (.ref n),R,S,Ga (.ref d),g,T,U,Y]) (b.Nodup) (∀k∈N0,k∈b) (∀k∈b,k∈N0\/(k<m/\∃p q,(p,q)∈h/\x.Xg p q=Ga k)) (∀p q k,(p,q)∈h.take i->x.Xg p q=Ga k->k∈b) (Jk d H1 H2) (H2 d=Ga (.dK (dS b λ_=>V.bl Gg)))
 refine Xh (K:=K) (a:=L) (xs:=J) ao
  {g,N0,Xb,am,λ_ e=>e,λ_ e=>.inl e,by simp,Jk.refl,M} (by rintro i j H2 _ ⟨_,_,_,_,_,_,_,aa,_⟩;exact Zb.of (aa _ _ hL Ld)) ?_ ?_
 .rintro i y j H2 hi ⟨g,b,rfl,t,F,u,G,r,I⟩;obtain⟨⟨p,o⟩,he,c,rfl,hc⟩:=Qy ac hi;have ae:(p,o)∈h:=List.mem_of_getElem? he;obtain⟨k,O,ak⟩:=N p o ae;have nd1:n≠d:=Qc o1 d0;have al:A.a≠d:=Qc D d0;have o2:=r _ _ (g1 _ _ o1) nd1;have ag:=r _ _ (g1 _ _ D) al;have ai:=r _ _ hc (Ye hc M nofun);have dg:Wn H2 A.a (.ref c) (Ga (jv k)):=by have:=Wn.t (k:=[ki p,ki o]) ag (show H2 c=Ga (.tup ([ki p,ki o].map kV))from ai);rw[ah p o,O]at this;exact this
  have aq:b.length<=64:=by have:b.length<=(List.range 64).length:=Xp t λk N=>List.mem_range.mpr ((u k N).elim (hN k) (λe=>by have:=e.1;ext));rwa[List.length_range]at this
  have dp:=Rp.k (k:=ki k) (v:=V.bl Gg) I (by rw[Vi,Gz];ext);exists _,Xb,_,Xb,n,C,dx,_,_,Xb,o2,Z.cl,Z.Qcm,mj _,_,Xb,A.a,_,Xb,dg,d,_,Xb,dp;have ab:Jk d H1 (zj H2 d (.dK (Wm (dS b λ_=>V.bl Gg) (ki k) (V.bl Gg)))):=λc an af e=>Qi (r c an af e) e;have tk:∀{B:List Nat},(∀l∈b,l∈B)->k∈B->∀p q k,(p,q)∈h.take (i+1)->x.Xg p q=Ga k->k∈B:=λ{B}hs aj p' q' k' ad Q=>by
   rw[List.take_add_one,he]at ad;rcases List.mem_append.mp ad with e|e
   .exact hs _ (G p' q' k' e Q)
   .have:(p',q')=(p,o):=by simpa using e
    cases this;rw[O]at Q;cases Q;exact aj
  by_cases E:k∈b
  .exists _,b,Xb,t,F,u,tk (λ_ e=>e) E,ab;rw[Qb,nQ E];congr 2;exact Wu λp _=>by split<;>rfl
  .exists _,b++[k],Xb,List.nodup_append.mpr {t,by simp,λa D aa hb=>by simp at hb;subst hb;exactλz=>E (z▸D)},λl s=>List.mem_append_left _ (F l s),λl s=>?_,tk (λl s=>List.mem_append_left _ s) (by simp),ab
   .rcases List.mem_append.mp s with e|e
    .exact u l e
    .have:l=k:=by simpa using e
     rw[this];exact .inr ⟨ak,p,o,ae,O⟩
   .rw[Qb,ja E];congr 2;exact Wu λp _=>by split<;>rfl
 .rintro j H2 ⟨g,b,rfl,t,F,u,G,r,I⟩;rw[Gr ac,List.take_length]at G;exact q b g H2 t F u G r I
theorem wZ:Qw ["net","one","other","needed","step","number","part","twin"] ["net","one","other"] (Qk Rh):=by eq_refl
theorem CI(F:Wj K "links_needed" "links_needed" Rh f fd)(L:Um K mg C)(aq:Ii mg)(mW:Yc K C "way" fW)(GW:Qu P w K mg base Z5 2 fW fdW ["self","one","other"] (p7 P w C))(bW:zk K fdW ["self","one","other"] [])
  (GB:Qu P w K mg base Z5 1 fB fdB ["net","link"] (mr P w C))(kB:KI K fB)(bB:zk K fdB ["net","link"] [])(mB:MG mg "pairs_below" fB):
  Qu P w K mg base Z5 3 f fd ["net","one","other"] (tJ P w C):=by
 refine F.ok wZ (λS ah l j b=>?_) (λax T ay s ah S l j hr b=>?_)
 .obtain⟨n,T,G,tb,x,ak,al,rfl,_⟩:=b;rfl
 obtain⟨n,T,G,tb,x,ak,al,rfl,X,ab,FO,oS,tS,he,hS,a5,q⟩:=b;have hu:=Jg hr;have aU:Yd 1 _:=hr.mono (by ext);have nd:=wZ.nd;show∃t,Ik ?my _ t/\_;let w4:Xf ?my Rh 3:={_,Qh (Qv (Qo (KB Xb) rfl aq.sorted M1 (Qa (pv 3) Qe)))}
 let w3:Xf ?my Rh 2:=⟨_,Qd (Z8 Gv rfl (QS rfl aq.range (Qa (Zh kQ (Qo Zg rfl aq.len GX (Qa (Qm (pv 0) rfl) Qe)) Qj) (Qa (Rr Uz Qj) (Qa (Rr Uz Qj) Qe)))) (Z6 5 nd)
   (Qh (Zq (R7 (oi hu (pv 5) (pv 3)))
    (Qh (Z8 Gv rfl (Yx (Zs GB aU rfl mB kB bB .nil Q5 (Qa (pv 0) (Qa (Qn Ze (Qm (pv 0) rfl) (pv 5)) Qe)))) (Vv rfl (Zn (Z6 6 nd) (Zn (Z6 7 nd) Wl)))
     (Qh (Z8 Gv rfl (Yx (Zf (pv 0) L.cl mW GW hr bW .nil Q5 (Qa (pv 6) (Qa (pv 7) Qe)))) (Z6 4 nd)
      (Qh (Wt hu (pv 3) (Zw hu (Qm (pv 0) rfl) (pv 4) (λ_ _=>rfl)) Ww Xb)))))) Q6))) w4.2⟩
 let w2:Xf ?my Rh 1:=⟨_,Qd (Z8 Gv rfl (Yx (Zf (pv 0) L.cl mW GW hr bW .nil Q5 (Qa (pv 1) (Qa (pv 2) Qe)))) (Z6 4 nd)
   (Qh (Wt hu (pv 3) (Zw hu (Qm (pv 0) rfl) (pv 4) (λ_ _=>rfl)) Ww Xb))) w3.2⟩
 exists _,Qd (Qt 3 nd U6) w2.2;intro d d0;have s1:=Qf d0 (.dK []);obtain⟨dx,o1⟩:=X.ob;obtain⟨ls,aH,aI⟩:=X.li;have aW:=Gr aI;have aV:∀p q k,x.Xg p q=Ga k->k<x.links.length:=λp q k b=>by obtain⟨Q,b|b⟩:=ab.fst.Qhc p q k b<;>exact(List.getElem?_eq_some_iff.mp b).1
 refine{_,Xb,n,dx,_,Xb,s1 _ _ o1,pG _,_,Xb,_,Xb,n,T,G,tb,x,ak,al,Xb,X.same s1,ab,oS,tS,he,hS,λaR es v H2 g2 L0 hL aT W=>{aR,Xb,{_,Zb.of hL},?_}};refine qZ L X (s1.trans g2) d0 (N0:=[]) (g2 _ _ Qb) hL aT (m:=x.links.length) (λp q b=>?_) List.nodup_nil (by ext) (λk e=>nomatch e) λh J H3 Y i1 i2 i3 bt e3=>?_
 .obtain⟨k,r,o⟩:=W.lk p q b;exact{k,r,aV _ _ _ r}
 have g3:Qx ah H3:=λD ar A=>bt _ _ (g2 _ _ (s1 _ _ A)) (Qc A d0);exists _,Xb,n,C,dx,_,_,Xb,g3 _ _ o1,L.cl,L.links,Jh _,T.k,_,Xb,.inl (Zb.of (g3 _ _ aH)),_,_,Xb,Xb,_,Xb,_,Xb,x.links.length,by rw[aW],(by ext);let aX:Nat->St->Hp->Prop:=λi R H4=>gZ λ(J x5 x6 x7:Option V)(h:List Nat)=>gP (R=[Ga (.ref n),Ga (jv ak),Ga (jv al),Ga (.ref d),J,x5,x6,x7]) (Qx ah H4) (H4 d=Ga (.dK (dS h λ_=>V.bl Gg))) (h.Nodup) (∀k∈h,k<x.links.length) (∀p q k,(p,q)∈v->x.Xg p q=Ga k->k∈h) (∀k∈h,∃p q g,(p,q)∈v/\x.Xg p q=Ga g/\k<=g) (∀k∈h,x.links.length - i<=k->∀B,x.links[k]?=Ga B->∀p q,(p,q)∈Wi G B->∀v,gH x.up p q v->∀u m,(u,m)∈v->∀g,x.Xg u m=Ga g->g∈h/\g<k)
 refine Ke aX
  {_,_,_,_,h,Xb,g3,e3,Y,λk e=>(i2 k e).elim nofun (·.1),i3,λk e=>(i2 k e).elim nofun (by rintro⟨_,p,q,r,o⟩;exact{p,q,k,r,o,Gm _}),λk e b=>?_} ?_ ?_
 .have:=(i2 k e).elim nofun (·.1);ext
 .rintro i R H4 hi ⟨J,x5,x6,x7,h,rfl,E,U,Y,ac,aj,ae,ai⟩;have aQ:((x.links.length:Int) - 1 - (i:Int))=((x.links.length - 1 - i:Nat):Int):=by ext
  rw[aQ];generalize a4:x.links.length - 1 - i=j;have kl:j<x.links.length:=by ext
  have dg:Wn H4 d (jv j) (Yt (dS h λ_=>V.bl Gg) (ki j)):=Wn.k (k:=ki j) U;exists _,Xb,_,Xb,d,_,Xb,dg,_,Xb;rw[sZ];by_cases af:j∈h
  .rw[Tc af];refine Y0 ?_;have aw:j<ls.length:=by ext
   obtain⟨B,ad,aM⟩:=Qy aI (List.getElem?_eq_getElem aw);have aN:=aM.Ql (Qp.of E);obtain⟨a,D,rs⟩:=B;obtain⟨aS,bS,_⟩:=ab.lnk j a D rs ad;refine{_,Xb,_,Xb,n,C,dx,_,_,Xb,E _ _ o1,L.cl,L.links,Jh _,_,Xb,T.k,ls,_,_,Xb,Xb,Zb.of (E _ _ aH),Qz (List.getElem?_eq_getElem aw),n,T,G,tb,x,_,(a,D,rs),Xb,X.same E,aN,FO.lt a aS,FO.lt D bS,λL5 aL H5 g5 aJ au av=>{L5,Xb,{_,Zb.of au},?_}};have aK:L5≠d:=Gp (Qc U aJ);have aO:∀{l:List Nat}{i':Nat},(∀k∈h,k∈l)->(∀k∈l,k∈h\/k<j)->(∀p q,(p,q)∈Wi G (a,D,rs)->∀v,gH x.up p q v->∀u m,(u,m)∈v->∀g,x.Xg u m=Ga g->g∈l/\g<j)->
     ∀k∈l,x.links.length - (i+1)<=k->∀B,x.links[k]?=Ga B->∀p q,(p,q)∈Wi G B->∀v,gH x.up p q v->∀u m,(u,m)∈v->∀g,x.Xg u m=Ga g->g∈l/\g<k:=λ{l i'}a1 a2 a3 k e b B am p q H Z I u m N g M=>by
    rcases Tn k (x.links.length - i)with o|o
    .have:k=j:=by ext
     subst this;rw[ad]at am;cases am;exact a3 p q H Z I u m N g M
    .have ag:k∈h:=(a2 k e).elim id λz=>by ext
     obtain⟨b1,b2⟩:=ai k ag o B am p q H Z I u m N g M;exact{a1 _ b1,b2}
   let aP:Nat->St->Hp->Prop:=λi5 R S=>gV λ(J x6 x7:Option V)(l:List Nat)=>hJ (R=[Ga (.ref n),Ga (jv ak),Ga (jv al),Ga (.ref d),J,Ga (jv j),x6,x7]) (Jk d H5 S) (S d=Ga (.dK (dS l λ_=>V.bl Gg))) (l.Nodup) (∀k∈h,k∈l) (∀k∈l,k∈h\/k<j) (∀p q,(p,q)∈(Wi G (a,D,rs)).take i5->∀v,gH x.up p q v->∀u m,(u,m)∈v->∀g,x.Xg u m=Ga g->g∈l/\g<j)
   refine Xh (K:=K) (a:=L5) (xs:=aL) aP
    {_,_,_,h,Xb,Jk.refl,g5 _ _ U,Y,λ_ b=>b,λ_ b=>.inl b,by simp} (by rintro i5 R S _ ⟨_,_,_,_,_,bt,_⟩;exact Zb.of (bt _ _ au aK)) ?_ ?_
   .rintro i5 y R S aD ⟨J,x6,x7,l,rfl,aa,e6,an,sub,only,done⟩;obtain⟨⟨p,Q⟩,ap,c,rfl,hc⟩:=Qy av aD;have aF:(p,Q)∈Wi G (a,D,rs):=List.mem_of_getElem? ap;obtain⟨pS,rS,cn⟩:=lV ab ad aF;have g6:Qx ah S:=λD ar A=>aa _ _ (g5 _ _ (E _ _ A)) (Qc A d0);have aE:x.lead p=x.lead Q:=(ab.conn p pS Q rS).mpr (cn.mono λz hz=>List.mem_of_mem_take hz);have c6:=aa _ _ hc (Ye hc (g5 _ _ U) nofun);exists c,_,Xb,Zz.of c6,Xb,_,_,Xb,_,_,Xb,Xb;refine{_,Xb,n,dx,_,Xb,g6 _ _ o1,pG _,_,Xb,_,Xb,n,T,G,tb,x,p,Q,Xb,X.same g6,ab,pS,rS,aE,hS,λL7 aZ a0 H7 g7 aY ao aC W7=>{L7,Xb,{_,Zb.of ao},?_}};refine qZ L X (g6.trans g7) d0 (N0:=l) (g7 _ _ e6) ao aC (m:=j) (λp q b=>?_) an (by ext) (λk e=>?_) λN8 J H8 aG i1 i2 i3 aB e8=>?_
    .obtain⟨k,r,o⟩:=W7.lk p q b;exact{k,r,o j cn}
    .rcases only k e with b|b
     .have:=ac k b;ext
     .ext
    .refine{_,_,_,N8,Xb,λD ar A b=>aB _ _ (g7 _ _ (aa _ _ A b)) b,e8,aG,λk e=>i1 k (sub k e),λk e=>(i2 k e).elim (only k) (λb=>.inr b.1),λp' O H Z I u m N g M=>?_};rw[List.take_add_one,ap]at H;rcases List.mem_append.mp H with b|b
     .obtain⟨b1,b2⟩:=done p' O b Z I u m N g M;exact{i1 _ b1,b2}
     .have:(p',O)=(p,Q):=by simpa using b
      cases this;have:=I.uniq W7.rel;subst this;obtain⟨k,r,o⟩:=W7.lk u m N;rw[M]at r;cases r;exact{i3 u m g N M,o j cn}
   .rintro R S ⟨J,x6,x7,l,rfl,aa,e6,an,sub,only,done⟩;rw[Gr av,List.take_length]at done;exact{_,_,_,_,l,Xb,λD ar A=>aa _ _ (g5 _ _ (E _ _ A)) (Qc A d0),e6,an,λk e=>(only k e).elim (ac k) (λb=>by ext),λp q k r o=>sub _ (aj p q k r o),λk e=>(only k e).elim (ae k) (λb=>by obtain⟨p,q,g,r,o,h3⟩:=ae j af;exact{p,q,g,r,o,by ext}),aO (i':=0) sub only done}
  .rw[GQ af];refine Zu {_,_,_,_,h,Xb,E,U,Y,ac,aj,ae,λk e b=>?_};rcases Tn k (x.links.length - i)with o|o
   .have:k=j:=by ext
    exact absurd (this▸e) af
   .exact ai k e o
 .rintro R H4 ⟨J,x5,x6,x7,h,rfl,E,U,Y,ac,aj,ae,ai⟩;have aA:h.length<64:=by have:h.length<=(List.range x.links.length).length:=Xp Y λk e=>List.mem_range.mpr (ac k e);rw[List.length_range]at this;ext
  refine{_,Xb,d,_,h.map (λk:Nat=>(k:Int)),Xb,U,?_,by rw[Vi];exact aA,λQ j r0 S hs=>?_}
  .unfold dS;rw[List.map_map,List.map_map];rfl
  have az:j=(j.map DT).map (λk:Nat=>(k:Int)):=by rw[List.map_map];refine(List.map_id j).symm.trans (List.map_congr_left λz hz=>?_);have:=S.mem_iff.mp hz;obtain⟨k,_,rfl⟩:=List.mem_map.mp this;rfl
  have l:(j.map DT).Perm h:=by
   have:=S.map DT;rw[List.map_map]at this;have A:(h.map (DT∘λk:Nat=>(k:Int)))=h:=by refine(List.map_congr_left λk _=>?_).trans (List.map_id h);rfl
   rwa[A]at this
  have eo:HO.lst (j.map V.int)=HO.lst ((j.map DT).map jv):=by
   congr 1
   conv=>lhs;rw[az]
   rw[List.map_map];rfl
  have pw:(j.map DT).Pairwise (·<=·):=by rw[List.pairwise_map];exact hs.imp λb=>by ext
  rw[eo];refine q Q (j.map DT) _ (E.trans (Qf r0 _)) (E.free r0) Qb (l.nodup_iff.mpr Y) pw {λk e=>ac k (l.mem_iff.mp e),λZ I p O H k e=>?_,λk e B ad p O H Z I u m N g M=>?_,λk e=>?_}
  .have:=I.uniq W.rel;subst this;exact l.mem_iff.mpr (aj p O k H e)
  .obtain⟨b1,b2⟩:=ai k (l.mem_iff.mp e) (by ext) B ad p O H Z I u m N g M;exact{l.mem_iff.mpr b1,b2}
  .obtain⟨p,O,g,r,o,h3⟩:=ae k (l.mem_iff.mp e);exact{v,p,O,g,W.rel,r,o,h3}
end
inductive Lr where
 |told (n:Nat)
 |asked
 |turn (k:Nat)
 |chain (ks:List Nat)
 |like (ks:List Nat)
abbrev Ln:=Nat×Nat×Lr
variable{ls:List Ln}
def ku(a:List Ln):Nat->List Nat->Nat->Prop
 |p,[],q=>p=q
 |p,k::b,q=>∃m r,a[k]?=Ga (p,m,r)/\ku a m b q
def iT(fs:List Fm)(d:List Lk)(c:List Ln)(a b:Nat):Lr->Prop
 |.told n=>(a,b,Ga (.told n))∈d
 |.asked=>(a,b,Ga .asked)∈d
 |.turn k=>∃r,c[k]?=Ga (b,a,r)
 |.chain e=>ku c a e b
 |.like e=>Yg fs a=Yg fs b/\(Zo fs a).length=(Zo fs b).length/\e.length=(Zo fs a).length/\∀j k p q:Nat,e[j]?=Ga k->(Zo fs a)[j]?=Ga p->(Zo fs b)[j]?=Ga q->∃r,c[k]?=Ga (p,q,r)
def hP(fs:List Fm)(c:List Lk)(ls:List Ln):Prop:=∀(i a b:Nat)r,ls[i]?=Ga (a,b,r)->iT fs c (ls.take i) a b r
theorem hP.nil:hP fs lks []:=λi a b r h=>by simp at h
theorem hP.snoc{r:Lr}(g:hP fs lks ls)(h:iT fs lks ls a b r):hP fs lks (ls++[(a,b,r)]):=λi f j k c=>by
 rcases Tn i ls.length with d|d
 .rw[List.getElem?_append_left d]at c;rw[List.take_append_of_le_length (by lia)];exact g i f j k c
 .rw[List.getElem?_append_right d]at c;have:i=ls.length:=by
   rcases Tn (i - ls.length) 1 with e|e
   .lia
   .rw[List.getElem?_eq_none (by simpa using e)]at c;cases c
  subst this;simp at c;obtain⟨rfl,rfl,rfl⟩:=c;rw[List.take_left];exact h
def gK(H:Hp)(X:Gc->Prop)(v:V):Lr->Prop
 |.told n=>∃c,v=.ref c/\H c=Ga (.tup [.str "told",jv n])
 |.asked=>∃c,v=.ref c/\H c=Ga (.tup [.str "asked"])
 |.turn k=>∃c,v=.ref c/\H c=Ga (.tup [.str "turn",jv k])
 |.chain a=>∃c l,v=.ref c/\H c=Ga (.tup [.str "chain",.ref l])/\H l=Ga (.lst (a.map jv))/\¬X l
 |.like a=>∃c l,v=.ref c/\H c=Ga (.tup [.str "like",.ref l])/\H l=Ga (.lst (a.map jv))/\¬X l
inductive hI(H:Hp)(X:Gc->Prop)(us:List V)(v:V)(l:Ln):Prop
 |mk (c:_) (v1:_) (v2:_) (rv:_) (h0:v=.ref c) (h1:H c=Ga (.tup [v1,v2,rv])) (h2:us[l.1]?=Ga v1) (h3:us[l.2.1]?=Ga v2) (h4:gK H X rv l.2.2):hI H X us v l
structure I9(L M:Gc)(H H':Hp):Prop where
 keep:∀b o,H b=Ga o->b≠L->b≠M->H' b=Ga o
 there:∀b,H' b=Ge->H b=Ge
theorem I9.refl:I9 L M H H:={λ_ _ e _ _=>e,λ_ h=>h}
theorem I9.trans{d:Hp}(a:I9 L M H H1)(b:I9 L M H1 d):I9 L M H d:={λc o e f g=>b.keep c o (a.keep c o e f g) f g,λc h=>a.there c (b.there c h)}
theorem I9.of(g:Qx H H1):I9 L M H H1:={λc o e _ _=>g c o e,λc h=>g.free h}
theorem gK.kp(e:∀{c:Gc}{f:List V},H c=Ga (.tup f)->H' c=Ga (.tup f))(i:∀{c:Gc}{f:List V},H c=Ga (.lst f)->¬X c->H' c=Ga (.lst f)):∀{r:Lr},gK H X v r->gK H' X v r:=by
 intro r h;cases r with
 |told n=>obtain⟨c,a,b⟩:=h;exact{c,a,e b}
 |asked=>obtain⟨c,a,b⟩:=h;exact{c,a,e b}
 |turn k=>obtain⟨c,a,b⟩:=h;exact{c,a,e b}
 |chain j=>obtain⟨c,l,a,b,g,d⟩:=h;exact{c,l,a,e b,i g d,d}
 |like j=>obtain⟨c,l,a,b,g,d⟩:=h;exact{c,l,a,e b,i g d,d}
theorem hI.kp{X:Gc->Prop}{H b:Hp}(d:∀{c:Gc}{a:List V},H c=Ga (.tup a)->b c=Ga (.tup a))(m:∀{c:Gc}{a:List V},H c=Ga (.lst a)->¬X c->b c=Ga (.lst a)){e:List V}{v:V}{l:Ln}(h:hI H X e v l):hI b X e v l:=by obtain⟨c,o,p,n,f,g,i,j,k⟩:=h;exact{c,o,p,n,f,d g,i,j,k.kp d m}
theorem gK.ex{Y:Gc->Prop}(f:∀c a,H c=Ga (.lst a)->¬X c->¬Y c):∀{r:Lr},gK H X v r->gK H Y v r:=by
 intro r h;cases r with
 |told n=>exact h
 |asked=>exact h
 |turn k=>exact h
 |chain g=>obtain⟨c,l,b,d,a,e⟩:=h;exact{c,l,b,d,a,f _ _ a e}
 |like g=>obtain⟨c,l,b,d,a,e⟩:=h;exact{c,l,b,d,a,f _ _ a e}
theorem hI.ex{X Y:Gc->Prop}{H:Hp}(i:∀c b,H c=Ga (.lst b)->¬X c->¬Y c){a:List V}{v:V}{l:Ln}(h:hI H X a v l):hI H Y a v l:=by obtain⟨c,k,m,j,b,d,e,f,g⟩:=h;exact{c,k,m,j,b,d,e,f,g.ex i}
structure Sv where
 sh:Gc
 n:Gc
 t:Gc
 L:Gc
 M:Gc
 A:Na
 fs:List Fm
 tb:Nat
 x:Nn
 us:List V
 H0:Hp
 Ex:Gc->Prop
def iI(v:Sv):List (GY×V):=[("things",.ref v.t),("net",.ref v.n),("lines",.ref v.L),("numbers",.ref v.M)]
structure Ve(P:Gi)(w:Gu)(C D:Gc)(v:Sv)(H:Hp)(ls:List Ln)(N:Nat->Nat->Option Nat):Prop where
 ob:∃dx,H v.sh=Ga (.ins D dx (iI v))
 sam:Qx v.H0 H
 L0:v.H0 v.L=Ge
 M0:v.H0 v.M=Ge
 net:Z7 P w C v.H0 v.n v.A v.fs v.tb v.x
 th:v.H0 v.t=Ga (.lst v.us)
 li:∃vs,H v.L=Ga (.lst vs)/\Paired (hI H v.Ex v.us) vs ls
 nu:∃zw,H v.M=Ga (.dT zw)/\zw.length<=ls.length/\∀i j:Nat,Yt zw [ki i,ki j]=(N i j).map jv
 ok:∀i j k,N i j=Ga k->∃r,ls[k]?=Ga (i,j,r)
 good:hP v.fs v.x.links ls
 exL:v.Ex v.L
 exA:∀b,v.Ex b->∃o,H b=Ga o
theorem I9.tp{a:List (List Xm×V)}(F:I9 L M H H')(d:H M=Ga (.dT a))(b:H L=Ga (.lst xs)){c:Gc}(e:H c=Ga (.tup ys)):H' c=Ga (.tup ys):=F.keep _ _ e (Ye e b nofun) (Ye e d nofun)
theorem I9.lp{a:List (List Xm×V)}(F:I9 L M H H')(d:H M=Ga (.dT a))(b:X L){c:Gc}(e:H c=Ga (.lst ys))(h:¬X c):H' c=Ga (.lst ys):=F.keep _ _ e (λz=>h (z▸b)) (Ye e d nofun)
theorem Ve.fr{v:Sv}(S:Ve P w C D v H ls N)(g:Qx H H'):Ve P w C D v H' ls N:=by obtain⟨c,j⟩:=S.ob;obtain⟨k,f,i⟩:=S.li;obtain⟨a,n1,n2,n3⟩:=S.nu;exact{{c,g _ _ j},S.sam.trans g,S.L0,S.M0,S.net,S.th,{k,g _ _ f,L2.Paired.Yb i λ_ _ h=>h.kp (λe=>g _ _ e) (λe _=>g _ _ e)},{a,g _ _ n1,n2,n3},S.ok,S.good,S.exL,λb d=>let⟨o,e⟩:=S.exA b d;{o,g _ _ e}}
theorem Ve.more{v:Sv}(S:Ve P w C D v H ls N)(g:H r=Ge):Ve P w C D {v with Ex:=λb=>v.Ex b\/b=r} (zj H r (.lst [])) ls N:=by
 have a:=S.fr (Qf g (.lst []));obtain⟨n,k,l⟩:=S.li;obtain⟨i,d,m⟩:=a.li;have:i=n:=by rw[Qf g (.lst []) _ _ k]at d;cases d;rfl
 subst this;refine{a.ob,a.sam,a.L0,a.M0,a.net,a.th,{i,d,L2.Paired.Yb l λ_ _ h=>(h.ex (Y:=λb=>v.Ex b\/b=r) λc o e j z=>?_).kp (λe=>Qf g _ _ _ e) (λe _=>Qf g _ _ _ e)},a.nu,a.ok,a.good,.inl a.exL,λb f=>?_}
 .rcases z with z|z
  .exact j z
  .rw[z,g]at e;cases e
 .rcases f with f|f
  .exact a.exA b f
  .exact{_,by rw[f];exact Qb}
theorem Ve.less{v:Sv}(S:Ve P w C D {v with Ex:=λb=>v.Ex b\/b=r} H ls N)(a:v.Ex v.L):Ve P w C D v H ls N:=by obtain⟨j,g,i⟩:=S.li;exact{S.ob,S.sam,S.L0,S.M0,S.net,S.th,{j,g,L2.Paired.Yb i λ_ _ h=>h.ex λc k e f z=>f (.inl z)},S.nu,S.ok,S.good,a,λb d=>S.exA b (.inl d)}
theorem Ve.grow{v:Sv}{s:List V}(S:Ve P w C D v H ls N)(m:v.Ex r)(c:H r=Ga (.lst ys))(j:r≠v.L)(i:v.H0 r=Ge):Ve P w C D v (zj H r (.lst s)) ls N:=by
 obtain⟨g,f⟩:=S.ob;obtain⟨q,n,p⟩:=S.li;obtain⟨d,n1,n2,n3⟩:=S.nu;refine{{g,Qi f (Ye f c nofun)},λb o e=>Qi (S.sam _ _ e) (Qc e i),S.L0,S.M0,S.net,S.th,{q,Qi n (Gp j),L2.Paired.Yb p λ_ _ h=>h.kp (λe=>Qi e (Ye e c nofun)) (λe l=>Qi e (λz=>l (z▸m)))},{d,Qi n1 (Ye n1 c nofun),n2,n3},S.ok,S.good,S.exL,λb k=>?_};by_cases a:b=r
 .exact{_,by rw[a];exact Qb}
 .obtain⟨o,e⟩:=S.exA b k;exact{o,Qi e a}
theorem Ve.same{v:Sv}(S:Ve P w C D v H ls N)(F:I9 v.L v.M H H'):Qx v.H0 H':=λb o e=>F.keep b o (S.sam b o e) (Qc e S.L0) (Qc e S.M0)
def putN(N:Nat->Nat->Option Nat)(a b m:Nat):Nat->Nat->Option Nat:=λi j=>if i=a/\j=b then Ga m else N i j
structure ju(K:Gd)(D:Gc):Prop where
 cl:gC K D
 things:Yp K D "things"
 net:Yp K D "net"
 lines:Yp K D "lines"
 J1:Yp K D "numbers"
theorem zl(v:Sv):(iI v).lookup ("things":GY)=Ga (.ref v.t):=by rfl
theorem zP(v:Sv):(iI v).lookup ("net":GY)=Ga (.ref v.n):=by rfl
theorem pF(v:Sv):(iI v).lookup ("lines":GY)=Ga (.ref v.L):=by rfl
theorem Vf(v:Sv):(iI v).lookup ("numbers":GY)=Ga (.ref v.M):=by rfl
theorem rz(v:Sv):(iI v).lookup ("write":GY)=Ge:=by rfl
theorem P2(v:Sv):(iI v).lookup ("write_link":GY)=Ge:=by rfl
theorem R4(v:Sv):(iI v).lookup ("line_for":GY)=Ge:=by rfl
inductive sj(P:Gi)(w:Gu)(C:Gc)(D:Gc)(vs:List V)(H:Hp)(Q:VK):Prop
 |mk (v:Sv) (ls:List Ln) (N:Nat->Nat->Option Nat) (a:Nat) (b:Nat) (rv:V) (r:Lr) (h0:vs=[.ref v.sh,jv a,jv b,rv]) (h1:Ve P w C D v H ls N) (h2:a<v.us.length) (h3:b<v.us.length) (h4:gK H v.Ex rv r) (h5:iT v.fs v.x.links ls a b r) (h6:ls.length<=1000000) (h7:∀H',Ve P w C D v H' (ls++[(a,b,r)]) (putN N a b ls.length)->I9 v.L v.M H H'->Q .non H'):sj P w C D vs H Q
def pD(P:Gi)(w:Gu)(C D:Gc):Sp:=λa H Q _=>sj P w C D a H Q
section
variable{P:Gi}{w:Gu}{K:Gd}{mg:GY->Option Value}{base:Heap}
theorem BA:Qw ["self","one","other","reason"] ["self","one","other","reason"] (Qk nH):=by eq_refl
theorem Ah(F:Wj K "write" "Showing.write" nH f fd)(g:ju K D)(X:Ii mg):Qu P w K mg base Z5 1 f fd ["self","one","other","reason"] (pD P w C D):=by
 refine F.ok BA (λh j aa Y b=>?_) (λah af aj s j h aa Y hr b=>?_)
 .obtain⟨v,ls,Z,a,d,A,R,rfl,_⟩:=b;rfl
 obtain⟨v,ls,Z,a,d,A,R,rfl,S,al,bl,ae,Zv,ai,q⟩:=b;have hu:=Jg hr;exists _,Qd (Wt hu (Qm (pv 0) rfl) (Za (Qa (pv 1) (Qa (pv 2) Qe))) (Qo Zg rfl X.len GX (Qa (Qm (pv 0) rfl) Qe)) rfl)
  (Qh (Zc (Xk Gs Gy GJ Zr (Qm (pv 0) rfl) (Qa (Za (Qa (Qn Ze (Qm (pv 0) rfl) (pv 1)) (Qa (Qn Ze (Qm (pv 0) rfl) (pv 2)) (Qa (pv 3) Qe)))) Qe))))
 obtain⟨l,o⟩:=S.ob;obtain⟨h,n,O⟩:=S.li;obtain⟨I,n1,n2,n3⟩:=S.nu;have ad:=Gr O;refine{_,Xb,v.sh,D,l,_,_,Xb,o,g.cl,g.lines,pF _,v.L,h,Xb,.inl (Zb.of n),_,Xb,v.sh,D,l,_,_,Xb,o,g.cl,g.J1,Vf _,_,Xb,_,Xb,by show 2<=Gj;decide,λc hc=>?_};have L:=Qf hc (.tup [jv a,jv d]);have dp:=Rp.t (k:=[ki a,ki d]) (v:=.int (h.length:Int)) (L _ _ n1) (show(zj j c (.tup [jv a,jv d])) c=Ga (.tup ([ki a,ki d].map kV))from Qb) (by rw[Gz];lia);exists v.M,_,Xb,dp;have M:v.L≠v.M:=Ye n n1 nofun;have Q:v.sh≠v.M:=Ye o n1 nofun;have oL:v.sh≠v.L:=Ye o n nofun;generalize G:zj (zj j c (.tup [jv a,jv d])) v.M (.dT (Wm I [ki a,ki d] (.int (h.length:Int))))=t;have x:∀{e y},j e=Ga y->e≠v.M->t e=Ga y:=λm b=>by rw[<-G];exact Qi (L _ _ m) b
 have t2:∀{e},t e=Ge->j e=Ge:=λ{e}b=>by rw[<-G]at b;exact L.free (Z0 b)
 have M2:t v.M=Ga (.dT (Wm I [ki a,ki d] (.int (h.length:Int)))):=by rw[<-G];exact Qb
 have J:=x o Q;have E:=x n M;have T:j v.t=Ga (.lst v.us):=S.sam _ _ S.th;have U:=x T (Ye T n1 nofun);have V:v.us[a]?=Ga v.us[a]:=List.getElem?_eq_getElem al;have W:v.us[d]?=Ga v.us[d]:=List.getElem?_eq_getElem bl;refine{_,Xb,v.sh,D,l,_,_,Xb,J,g.cl,g.lines,pF _,.inl {Xb,_,Zb.of E},_,Xb,v.sh,D,l,_,_,Xb,J,g.cl,g.things,zl _,_,Xb,v.t,v.us,_,_,Xb,Xb,Zb.of U,Qz V,_,Xb,v.sh,D,l,_,_,Xb,J,g.cl,g.things,zl _,_,Xb,v.t,v.us,_,_,Xb,Xb,Zb.of U,Qz W,_,Xb,by show 3<=Gj;decide,λp H=>?_};have B:=Qf H (.tup [v.us[a],v.us[d],A]);have ab:p≠v.L:=Gp (Qc E H);have ag:p≠v.M:=Gp (Qc M2 H);exists v.L,h,_,Xb,Xb,B _ _ E,(by rw[Gz];lia);have F:I9 v.L v.M j (zj (zj t p (.tup [v.us[a],v.us[d],A])) v.L (.lst (h++[.ref p]))):={λe y m h1 h2=>Qi (B _ _ (x m h2)) h1,λe b=>t2 (B.free (Z0 b))};refine q _ {{l,F.keep _ _ o oL Q},S.same F,S.L0,S.M0,S.net,S.th,{_,Qb,DN (L2.Paired.Yb O λ_ _ b=>b.kp (F.tp n1 n) (F.lp n1 S.exL)) {p,v.us[a],v.us[d],A,Xb,Qi Qb ab,V,W,ae.kp (F.tp n1 n) (F.lp n1 S.exL)}},{_,Qi (B _ _ M2) (Gp M),?_,λi u=>?_},λi u k r=>?_,S.good.snoc Zv,S.exL,λe ac=>?_} F
 .have:=X8 I [ki a,ki d] (.int (h.length:Int));rw[List.length_append,List.length_singleton];lia
 .rw[oX,n3];unfold putN;by_cases b:i=a/\u=d
  .obtain⟨rfl,rfl⟩:=b;rw[Gn Xb,Gn ⟨Xb,Xb⟩,ad];rfl
  .rw[Gh b,Gh];intro z;simp only[List.cons.injEq,F0]at z;exact b {Jq z.1,Jq z.2}
 .unfold putN at r;by_cases b:i=a/\u=d
  .rw[Gn b]at r;cases r;obtain⟨rfl,rfl⟩:=b;exact{R,by simp}
  .rw[Gh b]at r;obtain⟨r',N⟩:=S.ok i u k r;exact{r',by rw[List.getElem?_append_left (List.getElem?_eq_some_iff.mp N).1];exact N}
 .obtain⟨y,m⟩:=S.exA e ac;exact Ss.mp λz=>by rw[F.there e z]at m;cases m
end
def Dr(N:Nat->Nat->Option Nat)(a b:Nat):Prop:=(N a b).isSome=Gg\/(N b a).isSome=Gg
def ic(N a:Nat->Nat->Option Nat):Prop:=∀i j,(N i j).isSome=Gg->(a i j).isSome=Gg
def gz(v:Sv)(N:Nat->Nat->Option Nat)(m:Nat):Prop:=∀i j,(N i j).isSome=Gg->Cn (v.x.links.take m) i j
theorem Dr.sub{c:Nat->Nat->Option Nat}(h:Dr N a b)(s:ic N c):Dr c a b:=h.elim (λh=>.inl (s _ _ h)) λh=>.inr (s _ _ h)
theorem uL:ic N (putN N a b m):=λi j h=>by
 unfold putN;split
 .rfl
 .exact h
theorem tI{v:Sv}(h:gz v N m)(c:Cn (v.x.links.take m) a b):gz v (putN N a b k) m:=λi j z=>by
 unfold putN at z;split at z
 .rename_i e
  rw[e.1,e.2];exact c
 .exact h i j z
theorem p8:putN N a b m a b=Ga m:=Gn ⟨Xb,Xb⟩
structure Go(v:Sv)(N:Nat->Nat->Option Nat)(a b:Nat):Prop where
 inv:Wc (Yg v.fs) (Zo v.fs) v.x []
 aS:a∈v.x.S
 bS:b∈v.x.S
 eq:v.x.lead a=v.x.lead b
 hS:v.x.S.length<=1000
 st:∀st,gH v.x.up a b st->∀p q,(p,q)∈st->Dr N p q
inductive rT(P:Gi)(w:Gu)(C:Gc)(D:Gc)(g:Bool)(vs:List V)(H:Hp)(Q:VK):Prop
 |mk (v:Sv) (ls:List Ln) (N:Nat->Nat->Option Nat) (a:Nat) (b:Nat) (h0:vs=[.ref v.sh,jv a,jv b]) (h1:Ve P w C D v H ls N) (h2:a<v.us.length) (h3:b<v.us.length) (h4:(∀p∈v.x.S,p<v.us.length)) (h5:(Dr N a b\/(g=Gg/\Go v N a b))) (h6:ls.length+(if g=Gg then 3000 else 0)<=900000) (h7:∀(k:Nat)(more:List Ln)(N':Nat->Nat->Option Nat)(H':Hp),Ve P w C D v H' (ls++more) N'->I9 v.L v.M H H'->N' a b=Ga k->ic N N'->more.length<=2*v.x.S.length+1->(∀m,gz v N m->Cn (v.x.links.take m) a b->gz v N' m)->(N a b=Ge->∃r,(ls++more).getLast?=Ga (a,b,r))->(g=Gq->more.length<=1)->(N a b≠Ge->more=[])->Q (jv k) H'):rT P w C D g vs H Q
def jT(P:Gi)(w:Gu)(C D:Gc)(g:Bool):Sp:=λa H Q _=>rT P w C D g a H Q
def qd(P:Gi)(w:Gu)(C D:Gc):Bool->Sp
 |true=>jT P w C D Gq
 |false=>λ_ _ _ _=>False
theorem qL{c:List Ln}:∀{b:List (Nat×Nat)}{a:List Nat}{p q:Nat},jj p b q->a.length=b.length->(∀j k u v:Nat,a[j]?=Ga k->b[j]?=Ga (u,v)->∃r,c[k]?=Ga (u,v,r))->ku c p a q
 |[],[],p,q,h,_,_=>by cases h;rfl
 |[],_::_,_,_,_,h,_=>by simp at h
 |_::_,[],_,_,_,h,_=>by simp at h
 |_::b,k::a,p,q,.cons t,h,f=>by obtain⟨r,g⟩:=f 0 k _ _ rfl rfl;exact{_,r,g,qL t (by simpa using h) λj i u v d e=>f (j+1) i u v d e}
theorem sy{a:List Ln}{l:Ln}(h:ls[k]?=Ga l):(ls++a)[k]?=Ga l:=by rw[List.getElem?_append_left (List.getElem?_eq_some_iff.mp h).1];exact h
section
variable{P:Gi}{w:Gu}{K:Gd}{mg:GY->Option Value}{base:Heap}
theorem xy:Qw ["self","one","other","reason"] ["self","one","other"] (Qk On):=by eq_refl
theorem tU:(["start","end","self"]:List GY).Nodup:=by decide+kernel
set_option hygiene false
local macro_rules
 |`(tactic|infer_instance)=>`(tactic|(
 obtain⟨dx1,o1'⟩:=S1.ob
 refine{_,Xb,v.sh,dx1,_,Xb,o1',rz _,_,Xb,_,Xb,_,Xb,v,ls++more1,N1,a,b,rv,r,Xb,S1,al,bl,hrv,Zv,by rw[List.length_append];ext,λH2 S2 F2=>?_}
 obtain⟨dx2,o2⟩:=S2.ob
 obtain⟨kv2,m2,_,vv2⟩:=S2.nu
 refine{_,Xb,v.sh,D,dx2,_,_,Xb,o2,T.cl,T.J1,Vf _,_,Xb,_,Xb,by show 2<=Gj;decide,λc3 hc3=>?_}
 have s3:=Qf hc3 (.tup [jv a,jv b])
 have dg3:=Wn.t (k:=[ki a,ki b]) (s3 _ _ m2) (show(zj H2 c3 (.tup [jv a,jv b])) c3=Ga (.tup ([ki a,ki b].map kV))from Qb)
 rw[vv2,p8]at dg3
 exists v.M,_,Xb,dg3
 have S3:=S2.fr s3
 rw[List.append_assoc]at S3
 exact q _ (more1++[(a,b,r)]) _ _ S3 ((F1.trans F2).trans (I9.of s3)) p8 (λi j h=>uL _ _ (sub1 i j h)) (by rw[List.length_append,List.length_singleton];ext) (λm hc hm=>tI (cov1 m hc hm) hm) (λ_=>{r,by rw[<-List.append_assoc,List.getLast?_concat]}) (λhg=>by rw[List.length_append,List.length_singleton];have:=mof hg;ext) (λz=>absurd hN z)))
set_option hygiene true
theorem tX{g:Bool}(hk:2<=k)(F:Wj K "line_for" "Showing.line_for" On f fd)(T:ju K D)(TN:Um K mg C)(mL:Yc K D "line_for" f)(bL:zk K fd ["self","one","other"] [])(aw:Qu P w K mg base Z5 k f fd ["self","one","other"] (qd P w C D g))
  (mW:Yc K C "way" fW)(GW:Qu P w K mg base Z5 2 fW fdW ["self","one","other"] (p7 P w C))(bW:zk K fdW ["self","one","other"] [])(mR:Yc K D "write" fR)(GR:Qu P w K mg base Z5 1 fR fdR ["self","one","other","reason"] (pD P w C D))(bR:zk K fdR ["self","one","other","reason"] []):
  Qu P w K mg base Z5 (k+1) f fd ["self","one","other"] (jT P w C D g):=by
 refine F.ok xy (λX H az av h=>?_) (λaX aW a5 s H X az av hr h=>?_)
 .obtain⟨v,ls,N,a,b,rfl,_⟩:=h;rfl
 obtain⟨v,ls,N,a,b,rfl,S,al,bl,Sl,aq,aJ,q⟩:=h;have hu:=Jg hr;have aL:Yd 1 _:=hr.mono (by ext);have aM:Yd 2 _:=hr.mono (by ext);have nd:=xy.nd;have aZ:ls.length<=900000:=by ext
 exists _,Qd (Zq (R7 (Ct hu (Za (Qa (pv 1) (Qa (pv 2) Qe))) (Qm (pv 0) rfl)))
   (Qd (Zq (R7 (oi hu (Za (Qa (pv 2) (Qa (pv 1) Qe))) (Qm (pv 0) rfl)))
    (Qh (Qt 3 nd (Za (Qa Q7 (Qa (Zw hu (Qm (pv 0) rfl) (Za (Qa (pv 2) (Qa (pv 1) Qe))) (λ_ _=>rfl)) Qe)))))
    (Qh (Qt 3 nd (Za (Qa Q7 (Qa
     (V0 (te:=kq D "line_for" (qd P w C D g) [] E0 (Vw 2) (jo (Vw 0) (jo (Vw 1) jc))) (g:=qf K 2 (jL (Vn 0) (jL (Vn 1) qk))) (own:=["start","end"]) (fv:=[(0,"self")]) rfl (S:=(by eq_refl:Wa (Qk On) _)) (.cons rfl (De Xb) rfl .nil)
      (Yx (Zf (Qm (pv 0) rfl) TN.cl mW GW aM bW .nil Q5 (Qa (pv 1) (Qa (pv 2) Qe))))
      (λ_ _ _ _ _=>Vv rfl (Zn (Xe (i:=0) tU rfl (De Xb) (Ej Xb)) (Zn (Xe (i:=1) tU rfl (De Xb) (Ej Xb)) Wl))) (λ_ _ _ _ _=>We)
      (λ_ _ _ _ _=>Zf (pv 2) T.cl mL aw hr bL .nil Q5 (Qa (pv 0) (Qa (pv 1) Qe)))) Qe))))))
   (Qh (Zc (Zf (pv 0) T.cl mR GR aL bR .nil Q5 (Qa (pv 1) (Qa (pv 2) (Qa (pv 3) Qe))))))) Q6)
  (Qh (Qv (Zw hu (Qm (pv 0) rfl) (Za (Qa (pv 1) (Qa (pv 2) Qe))) (λ_ _=>rfl))))
 obtain⟨dx,o1⟩:=S.ob;obtain⟨a3,n1,n2,n3⟩:=S.nu;refine{_,Xb,_,Xb,by show 2<=Gj;decide,λc hc=>?_};have U:=Qf hc (.tup [jv a,jv b]);have ai:=Wn.t (k:=[ki a,ki b]) (U _ _ n1) (show(zj H c (.tup [jv a,jv b])) c=Ga (.tup ([ki a,ki b].map kV))from Qb);rw[n3]at ai;exists _,Xb,v.sh,D,dx,_,_,Xb,U _ _ o1,T.cl,T.J1,Vf _,v.M,_,Xb,ai,_,Xb;cases hN:N a b with
 |some e=>refine Zu ?_;have S1:=S.fr U;obtain⟨dx2,o2⟩:=S1.ob;obtain⟨kv2,m2,_,vv2⟩:=S1.nu;refine{_,Xb,v.sh,D,dx2,_,_,Xb,o2,T.cl,T.J1,Vf _,_,Xb,_,Xb,by show 2<=Gj;decide,λc3 hc3=>?_};have s3:=Qf hc3 (.tup [jv a,jv b]);have dg3:=Wn.t (k:=[ki a,ki b]) (s3 _ _ m2) (show(zj (zj H c (.tup [jv a,jv b])) c3 (.tup [jv a,jv b])) c3=Ga (.tup ([ki a,ki b].map kV))from Qb);rw[vv2,hN]at dg3;exists v.M,_,Xb,dg3;have S3:=S1.fr s3;exact q e [] N _ (by rw[List.append_nil];exact S3) (I9.of (U.trans s3)) hN (λ_ _ h=>h) (Gw _) (λ_ h _=>h) (λz=>by rw[hN]at z;cases z) (λ_=>Gw _) (λ_=>rfl)
 |none=>
  refine Y0 ?_;refine{_,Xb,_,Xb,by show 2<=Gj;decide,λc2 aE=>?_};have Q:=U.trans (Qf aE (.tup [jv b,jv a]));have aj:=Wn.t (k:=[ki b,ki a]) (Q _ _ n1) (show(zj (zj H c (.tup [jv a,jv b])) c2 (.tup [jv b,jv a])) c2=Ga (.tup ([ki b,ki a].map kV))from Qb);rw[n3]at aj;exists _,Xb,v.sh,D,dx,_,_,Xb,Q _ _ o1,T.cl,T.J1,Vf _,v.M,_,Xb,aj,_,Xb;generalize zj (zj H c (.tup [jv a,jv b])) c2 (.tup [jv b,jv a])=Y at Q;have Sb:=S.fr Q;cases hT:N b a with
  |some e=>
   refine Y0 ?_;obtain⟨r0,aK⟩:=S.ok b a e hT;obtain⟨dx2,o2⟩:=Sb.ob;obtain⟨kv2,m2,_,vv2⟩:=Sb.nu;refine{_,Xb,v.sh,D,dx2,_,_,Xb,o2,T.cl,T.J1,Vf _,_,Xb,_,Xb,by show 2<=Gj;decide,λc3 hc3=>?_};have s3:=Qf hc3 (.tup [jv b,jv a]);have dg3:=Wn.t (k:=[ki b,ki a]) (s3 _ _ m2) (show(zj Y c3 (.tup [jv b,jv a])) c3=Ga (.tup ([ki b,ki a].map kV))from Qb);rw[vv2,hT]at dg3;refine{v.M,_,Xb,dg3,by show 2<=Gj;decide,λl ae=>?_};have s4:=Qf ae (.tup [.str "turn",jv e]);have S1:Ve P w C D v (zj (zj Y c3 (.tup [jv b,jv a])) l (.tup [.str "turn",jv e])) (ls++[]) N:=by rw[List.append_nil];exact(Sb.fr s3).fr s4
   have F1:I9 v.L v.M H (zj (zj Y c3 (.tup [jv b,jv a])) l (.tup [.str "turn",jv e])):=I9.of ((Q.trans s3).trans s4);generalize ah:V.ref l=rv;have hrv:gK (zj (zj Y c3 (.tup [jv b,jv a])) l (.tup [.str "turn",jv e])) v.Ex rv (.turn e):={l,ah.symm,Qb};have Zv:iT v.fs v.x.links (ls++[]) a b (.turn e):={r0,by rw[List.append_nil];exact aK};obtain⟨more1,ao⟩:∃m:List Ln,m=[]:={_,Xb};rw[<-ao]at S1 Zv;obtain⟨r,hr'⟩:∃r:Lr,r=.turn e:={_,Xb};rw[<-hr']at hrv Zv;obtain⟨N1,ad⟩:∃N1:Nat->Nat->Option Nat,N1=N:={_,Xb};have sub1:ic N N1:=by rw[ad];exactλ_ _ h=>h
   have cov1:∀m,gz v N m->Cn (v.x.links.take m) a b->gz v N1 m:=by rw[ad];exactλ_ h _=>h
   rw[<-ad]at S1;have ml:more1.length=0:=by rw[ao];rfl
   have mof:g=Gq->more1.length=0:=λ_=>ml;infer_instance
  |none=>
   refine Zu ?_;cases g with
   |false=>
    exfalso;rcases aq with(h|h)|⟨h,_⟩
    .rw[hN]at h;cases h
    .rw[hT]at h;cases h
    .cases h
   |true=>
   have d:Go v N a b:=by
    rcases aq with(h|h)|⟨_,h⟩
    .rw[hN]at h;cases h
    .rw[hT]at h;cases h
    .exact h
   have X2:=S.net.same Sb.sam;obtain⟨aD,on⟩:=X2.ob;obtain⟨dx2,o2⟩:=Sb.ob;refine{_,Xb,v.sh,D,dx2,_,_,Xb,o2,T.cl,T.net,zP _,v.n,aD,_,Xb,on,pG _,_,Xb,_,Xb,v.n,v.A,v.fs,v.tb,v.x,a,b,Xb,X2,d.inv,d.aS,d.bS,d.eq,d.hS,λZ es st H5 g5 aa ak am W=>{Z,Xb,{_,Zb.of ak},λx A=>?_}};have a1:=W.len;have aY:=Gr am;have hS:=d.hS;have J:=Sb.fr g5;have ax:Z≠v.L:=λz=>by obtain⟨X,L,_⟩:=Sb.li;rw[z,L]at aa;cases aa
   have ay:Z≠v.M:=λz=>by obtain⟨X,L,_⟩:=Sb.nu;rw[z,L]at aa;cases aa
   have ar:x≠v.L:=λz=>by obtain⟨X,L,_⟩:=J.li;rw[z,L]at A;cases A
   have aU:x≠v.M:=λz=>by obtain⟨X,L,_⟩:=J.nu;rw[z,L]at A;cases A
   have aT:v.H0 x=Ge:=J.sam.free A;have s5:=Qf A (.lst []);obtain⟨a6,aN,_⟩:=J.li;obtain⟨a2,aO,_⟩:=J.nu;refine oJ (K:=K) (a:=Z) (xs:=es) (small (by ext)) (λi ys ab G=>gZ λ(x0 x1:Option V)(O:List Ln)(N1:Nat->Nat->Option Nat)(n:List Nat)=>kj (ab=[x0,x1,Ga (.ref v.sh)]) (ys=n.map jv) (n.length=i) (Ve P w C D {v with Ex:=λb=>v.Ex b\/b=x} G (ls++O) N1) (I9 v.L v.M H5 G) (ic N N1) (O.length<=i) (∀m,gz v N m->Cn (v.x.links.take m) a b->gz v N1 m) (∀j k u u':Nat,n[j]?=Ga k->st[j]?=Ga (u,u')->∃r,(ls++O)[k]?=Ga (u,u',r)))
    {_,_,[],N,[],Xb,Xb,Xb,by rw[List.append_nil];exact J.more A,I9.of s5,λ_ _ h=>h,Gw _,λ_ h _=>h,by simp} (by rintro i ys ab G _ ⟨_,_,_,_,_,_,_,_,_,E,_⟩;exact Zb.of (E.keep _ _ ak ax ay)) ?_ ?_
   .rintro i y ys ab G hi aP ⟨x0,x1,O,N1,n,rfl,rfl,af,S6,E,au,aR,aA,ac⟩ ag;obtain⟨⟨p,B⟩,hp,c5,rfl,aF⟩:=Qy am hi;have an:(p,B)∈st:=List.mem_of_getElem? hp;have c6:=E.tp aO aN aF;have il:i<es.length:=(List.getElem?_eq_some_iff.mp hi).1;obtain⟨kk,aG,aH⟩:=W.lk p B an;obtain⟨rr,ap⟩:=d.inv.fst.Qhc p B kk aG;have pS:p∈v.x.S/\B∈v.x.S:=by
     rcases ap with h|h
     .exact{(d.inv.lnk _ _ _ _ h).1,(d.inv.lnk _ _ _ _ h).2.1}
     .exact{(d.inv.lnk _ _ _ _ h).2.1,(d.inv.lnk _ _ _ _ h).1}
    have cn:∀m,Cn (v.x.links.take m) a b->Cn (v.x.links.take m) p B:=λm hm=>by
     have km:=aH m hm;rcases ap with h|h
     .exact .link (List.mem_of_getElem? (i:=kk) (by rw[List.getElem?_take_of_lt km];exact h))
     .exact .symm (.link (List.mem_of_getElem? (i:=kk) (by rw[List.getElem?_take_of_lt km];exact h)))
    obtain⟨aC,o6⟩:=S6.ob;exists c5,_,Xb,Zz.of c6,Xb,_,_,Xb,_,_,Xb,Xb;refine{_,Xb,v.sh,aC,_,Xb,o6,R4 v,_,Xb,_,Xb,{v with Ex:=λb=>v.Ex b\/b=x},ls++O,N1,p,B,Xb,S6,Sl p pS.1,Sl B pS.2,Sl,.inl ((d.st st W.rel p B an).sub au),by rw[Gh (by decide)];rw[Gn rfl]at aJ;rw[List.length_append];ext,λk' aS N2 H7 S7 F7 aI aV a4 aB _ aQ _=>?_};have r7:=F7.keep _ _ ag ar aU;have a0:=aQ rfl;refine{r7,_,_,O++aS,N2,n++[k'],Xb,by rw[List.map_append];rfl,by rw[List.length_append,List.length_singleton,af],by rw[<-List.append_assoc];exact S7.grow (.inr Xb) r7 ar aT,{λb' o R h1 h2=>Qi (F7.keep _ _ (E.keep _ _ R h1 h2) h1 h2) (Qc R A),λb' h=>E.there _ (F7.there _ (Z0 h))},λi j h=>aV _ _ (au _ _ h),by rw[List.length_append];ext,λm hc hm=>aB m (aA m hc hm) (cn m hm),λj e u u' h1 h2=>?_}
    .rcases Tn j n.length with hj|hj
     .rw[List.getElem?_append_left hj]at h1;obtain⟨r,hr'⟩:=ac j e u u' h1 h2;rw[<-List.append_assoc];exact{r,sy hr'}
     .rw[List.getElem?_append_right hj]at h1;have:j=n.length:=by
       rcases Tn (j - n.length) 1 with h'|h'
       .ext
       .rw[List.getElem?_eq_none (by simpa using h')]at h1;cases h1
      subst this;simp at h1;subst h1;rw[af,hp]at h2;cases h2;rw[<-List.append_assoc];exact S7.ok _ _ _ aI
   .rintro ys ab G aP ⟨x0,x1,more1,N1,n,rfl,rfl,af,S6,E,sub1,aR,cov1,ac⟩ ag;refine{by show 2<=Gj;decide,λl ae=>?_};have s4:=Qf ae (.tup [.str "chain",.ref x]);have S1:=(S6.less S.exL).fr s4;have F1:I9 v.L v.M H (zj G l (.tup [.str "chain",.ref x])):=(I9.of (Q.trans g5)).trans (E.trans (I9.of s4));generalize ah:V.ref l=rv;obtain⟨r,hr'⟩:∃r:Lr,r=.chain n:={_,Xb};have hrv:gK (zj G l (.tup [.str "chain",.ref x])) v.Ex rv r:=by rw[hr'];exact{l,x,ah.symm,Qb,s4 _ _ ag,λz=>by obtain⟨o,R⟩:=J.exA x z;rw[A]at R;cases R}
    have Zv:iT v.fs v.x.links (ls++more1) a b r:=by rw[hr'];exact qL W.path (by ext) ac
    have ml:more1.length<=2*v.x.S.length:=by ext
    have mof:Gg=Gq->more1.length=0:=λz=>by cases z
    infer_instance
theorem IE:Qu P w K mg base Z5 2 f fd ["self","one","other"] (qd P w C D Gq):=
 {λc H Q E h=>False.elim h,λA a s H b d c Q E _ _ _ _ h=>False.elim h}
end
inductive sx(P:Gi)(w:Gu)(C:Gc)(D:Gc)(vs:List V)(H:Hp)(Q:VK):Prop
 |mk (v:Sv) (ls:List Ln) (N:Nat->Nat->Option Nat) (lv:V) (a:Nat) (b:Nat) (rs:Option Jl) (h0:vs=[.ref v.sh,lv]) (h1:Ve P w C D v H ls N) (h2:Rm H lv (a,b,rs)) (h3:(a,b,rs)∈v.x.links) (h4:a<v.fs.length) (h5:b<v.fs.length) (h6:v.fs.length=v.us.length) (h7:(∀p∈v.x.S,p<v.us.length)) (h8:v.x.S.length<=60) (h9:(Zo v.fs a).length<=100) (h10:(rs=Ge->Yg v.fs a=Yg v.fs b/\(Zo v.fs a).length=(Zo v.fs b).length)) (h11:(∀p q,(p,q)∈Wi v.fs (a,b,rs)->Go v N p q)) (h12:ls.length<=880000) (h13:∀(more:List Ln)(N1:Nat->Nat->Option Nat)(r:Lr)(H':Hp),Ve P w C D v H' (ls++more++[(a,b,r)]) (putN N1 a b (ls++more).length)->I9 v.L v.M H H'->ic N N1->more.length<=12100->(∀m,gz v N m->(∀p q,(p,q)∈Wi v.fs (a,b,rs)->Cn (v.x.links.take m) p q)->gz v N1 m)->Q .non H'):sx P w C D vs H Q
def zF(P:Gi)(w:Gu)(C D:Gc):Sp:=λa H Q _=>sx P w C D a H Q
theorem Go.sub{v:Sv}{N d:Nat->Nat->Option Nat}{a b:Nat}(g:Go v N a b)(s:ic N d):Go v d a b:={g.inv,g.aS,g.bS,g.eq,g.hS,λe c p q h=>(g.st e c p q h).sub s}
section
variable{P:Gi}{w:Gu}{K:Gd}{mg:GY->Option Value}{base:Heap}
theorem zM:Qw ["self","link","reason"] ["self","link"] (Qk Vj):=by eq_refl
theorem vc:(["part","twin","self"]:List GY).Nodup:=by decide+kernel
set_option hygiene false
local macro_rules
 |`(tactic|infer_instance)=>`(tactic|(
 obtain⟨dx1,o1'⟩:=S1.ob
 refine{_,Xb,v.sh,dx1,_,Xb,o1',rz _,_,Xb,c,_,_,_,Xb,Xb,Zz.of hc1,R8 _ _,_,Xb,c,_,_,_,Xb,Xb,Zz.of hc1,Rq _ _ _,_,Xb,v,ls++more1,N1,a,b,rv,r,Xb,S1,al,bl,hrv,Zv,by rw[List.length_append];ext,λH2 S2 F2=>?_}
 exact q more1 N1 r H2 S2 (F1.trans F2) sub1 ml cov1))
set_option hygiene true
theorem C2(F:Wj K "write_link" "Showing.write_link" Vj f fd)(T:ju K D)(mL:Yc K D "line_for" fL)(bL:zk K fdL ["self","one","other"] [])(GL:Qu P w K mg base Z5 4 fL fdL ["self","one","other"] (jT P w C D Gg))
  (GB:Qu P w K mg base Z5 1 fB fdB ["net","link"] (mr P w C))(kB:KI K fB)(bB:zk K fdB ["net","link"] [])(mB:MG mg "pairs_below" fB)(mR:Yc K D "write" fR)(GR:Qu P w K mg base Z5 1 fR fdR ["self","one","other","reason"] (pD P w C D))(bR:zk K fdR ["self","one","other","reason"] []):
  Qu P w K mg base Z5 5 f fd ["self","link"] (zF P w C D):=by
 refine F.ok zM (λQ H aw ar h=>?_) (λaS aR a0 s H Q aw ar hr h=>?_)
 .obtain⟨v,ls,N,lv,a,b,O,rfl,_⟩:=h;rfl
 obtain⟨v,ls,N,lv,a,b,O,rfl,S,⟨c,rv,rfl,hc,Y⟩,ah,ax,ay,aV,Sl,hS,aT,aH,aF,aW,q⟩:=h;have al:a<v.us.length:=by ext
 have bl:b<v.us.length:=by ext
 have ak:Yd 1 _:=hr.mono (by ext);have nd:=zM.nd;show∃t,Ik ?my _ t/\_;let w3:Xf ?my Vj 2:={_,Qh (Zc (Zf (pv 0) T.cl mR GR ak bR .nil Q5 (Qa (Qn Q3 (pv 1) Qj) (Qa (Qn Q3 (pv 1) Qj) (Qa (pv 2) Qe)))))}
 let w2:Xf ?my Vj 1:=⟨_,Qd (Zq (Qr Ag (pv 2) Ux (Q4 _))
   (Qh (Qt 2 nd (Za (Qa Q7 (Qa
     (V0 (te:=kq D "line_for" (jT P w C D Gg) [] E0 (Vw 2) (jo (Vw 0) (jo (Vw 1) jc))) (g:=qf K 2 (jL (Vn 0) (jL (Vn 1) qk))) (own:=["part","twin"]) (fv:=[(0,"self")]) rfl (S:=(by eq_refl:Wa (Qk Vj) _)) (.cons rfl (De Xb) rfl .nil)
      (Yx (Zs GB ak rfl mB kB bB .nil Q5 (Qa (Qm (pv 0) rfl) (Qa (pv 1) Qe))))
      (λ_ _ _ _ _=>Vv rfl (Zn (Xe (i:=0) vc rfl (De Xb) (Ej Xb)) (Zn (Xe (i:=1) vc rfl (De Xb) (Ej Xb)) Wl))) (λ_ _ _ _ _=>We)
      (λ_ _ _ _ _=>Zf (pv 2) T.cl mL GL hr bL .nil Q5 (Qa (pv 0) (Qa (pv 1) Qe)))) Qe))))) Q6) w3.2⟩
 exists _,Qd (Qt 2 nd (Qn Q3 (pv 1) Qj)) w2.2;exists _,Xb,c,_,_,_,Xb,Xb,Zz.of hc,iw _ _ _ _;exists _,Xb,Xb,_,Xb;rw[ve Y];cases O with
 |some O=>
  refine Zu ?_;have S1:Ve P w C D v H (ls++[]) N:=by rw[List.append_nil];exact S
  have F1:I9 v.L v.M H H:=I9.refl;have hc1:=hc;obtain⟨r,hrv,Zv⟩:∃r:Lr,gK H v.Ex rv r/\iT v.fs v.x.links (ls++[]) a b r:=by
   cases O with
   |told n=>exact{.told n,Y,ah}
   |asked=>exact{.asked,Y,ah}
  obtain⟨more1,aj⟩:∃m:List Ln,m=[]:={_,Xb};rw[<-aj]at S1 Zv;obtain⟨N1,ac⟩:∃N1:Nat->Nat->Option Nat,N1=N:={_,Xb};have sub1:ic N N1:=by rw[ac];exactλ_ _ h=>h
  have cov1:∀m,gz v N m->(∀p q,(p,q)∈Wi v.fs (a,b,Ga O)->Cn (v.x.links.take m) p q)->gz v N1 m:=by rw[ac];exactλ_ h _=>h
  rw[<-ac]at S1;have ml:more1.length<=12100:=by rw[aj];exact Gw _
  infer_instance
 |none=>
  refine Y0 ?_;have X2:=S.net.same S.sam;obtain⟨dx,o1⟩:=S.ob;refine{_,Xb,v.sh,D,dx,_,_,Xb,o1,T.cl,T.net,zP _,_,Xb,v.n,v.A,v.fs,v.tb,v.x,.ref c,(a,b,Ge),Xb,X2,⟨c,rv,Xb,hc,Y⟩,ax,ay,λR es H5 g5 U af ag=>{R,Xb,{_,Zb.of af},λe g=>?_}};obtain⟨aK,aI⟩:=aH rfl;have aU:=Gr ag;have aX:(Wi v.fs (a,b,Ge)).length=(Zo v.fs a).length:=by simp only[Wi,List.length_zip];ext
  have B:=S.fr g5;have au:R≠v.L:=λz=>by obtain⟨Q,E,_⟩:=S.li;rw[z,E]at U;cases U
  have av:R≠v.M:=λz=>by obtain⟨Q,E,_⟩:=S.nu;rw[z,E]at U;cases U
  have ap:e≠v.L:=λz=>by obtain⟨Q,E,_⟩:=B.li;rw[z,E]at g;cases g
  have aP:e≠v.M:=λz=>by obtain⟨Q,E,_⟩:=B.nu;rw[z,E]at g;cases g
  have aO:v.H0 e=Ge:=B.sam.free g;have s5:=Qf g (.lst []);obtain⟨a1,am,_⟩:=B.li;obtain⟨aY,an,_⟩:=B.nu;refine oJ (K:=K) (a:=R) (xs:=es) (small (by ext)) (λi ys aa A=>gZ λ(x0 x1:Option V)(J:List Ln)(N1:Nat->Nat->Option Nat)(d:List Nat)=>kj (aa=[x0,x1,Ga (.ref v.sh)]) (ys=d.map jv) (d.length=i) (Ve P w C D {v with Ex:=λb=>v.Ex b\/b=e} A (ls++J) N1) (I9 v.L v.M H5 A) (ic N N1) (J.length<=i*121) (∀m,gz v N m->(∀p q,(p,q)∈Wi v.fs (a,b,Ge)->Cn (v.x.links.take m) p q)->gz v N1 m) (∀j k u Z:Nat,d[j]?=Ga k->(Wi v.fs (a,b,Ge))[j]?=Ga (u,Z)->∃r,(ls++J)[k]?=Ga (u,Z,r)))
   {_,_,[],N,[],Xb,Xb,Xb,by rw[List.append_nil];exact B.more g,I9.of s5,λ_ _ h=>h,Gw _,λ_ h _=>h,by simp} (by rintro i ys aa A _ ⟨_,_,_,_,_,_,_,_,_,l,_⟩;exact Zb.of (l.keep _ _ af au av)) ?_ ?_
  .rintro i y ys aa A hi aL ⟨x0,x1,J,N1,d,rfl,rfl,ad,W,l,aq,aM,az,ab⟩ ae;obtain⟨⟨p,G⟩,hp,c5,rfl,aD⟩:=Qy ag hi;have ai:(p,G)∈Wi v.fs (a,b,Ge):=List.mem_of_getElem? hp;have c6:=l.tp an am aD;have il:i<es.length:=(List.getElem?_eq_some_iff.mp hi).1;have x:=(aF p G ai).sub aq;obtain⟨aB,o6⟩:=W.ob;exists c5,_,Xb,Zz.of c6,Xb,_,_,Xb,_,_,Xb,Xb;refine{_,Xb,v.sh,aB,_,Xb,o6,R4 v,_,Xb,_,Xb,{v with Ex:=λb=>v.Ex b\/b=e},ls++J,N1,p,G,Xb,W,Sl p x.aS,Sl G x.bS,Sl,.inr {Xb,{x.inv,x.aS,x.bS,x.eq,x.hS,x.st}},by rw[Gn Xb,List.length_append];ext,λk' ao N2 H7 S7 F7 aG aQ aN aA _ _ _=>?_};have r7:=F7.keep _ _ ae ap aP;have aZ:ao.length<=2*v.x.S.length+1:=aN;refine{r7,_,_,J++ao,N2,d++[k'],Xb,by rw[List.map_append];rfl,by rw[List.length_append,List.length_singleton,ad],by rw[<-List.append_assoc];exact S7.grow (.inr Xb) r7 ap aO,{λb' o L h1 h2=>Qi (F7.keep _ _ (l.keep _ _ L h1 h2) h1 h2) (Qc L g),λb' h=>l.there _ (F7.there _ (Z0 h))},λi j h=>aQ _ _ (aq _ _ h),by rw[List.length_append];ext,λm aE hm=>aA m (az m aE hm) (hm p G ai),λj k0 u Z h1 h2=>?_};rcases Tn j d.length with hj|hj
   .rw[List.getElem?_append_left hj]at h1;obtain⟨r,hr'⟩:=ab j k0 u Z h1 h2;rw[<-List.append_assoc];exact{r,sy hr'}
   .rw[List.getElem?_append_right hj]at h1;have:j=d.length:=by
     rcases Tn (j - d.length) 1 with h'|h'
     .ext
     .rw[List.getElem?_eq_none (by simpa using h')]at h1;cases h1
    subst this;simp at h1;subst h1;rw[ad,hp]at h2;cases h2;rw[<-List.append_assoc];exact S7.ok _ _ _ aG
  .rintro ys aa A aL ⟨x0,x1,more1,N1,d,rfl,rfl,ad,W,l,sub1,aM,cov1,ab⟩ ae;refine{by show 2<=Gj;decide,λX aC=>?_};have s4:=Qf aC (.tup [.str "like",.ref e]);have S1:=(W.less S.exL).fr s4;have F1:I9 v.L v.M H (zj A X (.tup [.str "like",.ref e])):=(I9.of g5).trans (l.trans (I9.of s4));have hc1:=s4 _ _ (l.tp an am (g5 _ _ hc));generalize aJ:V.ref X=rv;obtain⟨r,hr'⟩:∃r:Lr,r=.like d:={_,Xb};have hrv:gK (zj A X (.tup [.str "like",.ref e])) v.Ex rv r:=by rw[hr'];exact{X,e,aJ.symm,Qb,s4 _ _ ae,λz=>by obtain⟨o,L⟩:=B.exA e z;rw[g]at L;cases L}
   have Zv:iT v.fs v.x.links (ls++more1) a b r:=by rw[hr'];refine{aK,aI,by ext,λj k p G h1 h2 h3=>ab j k p G h1 ?_};simp only[Wi];rw[List.getElem?_zip_eq_some];exact⟨h2,h3⟩
   have ml:more1.length<=12100:=by ext
   infer_instance
end
inductive yM(P:Gi)(w:Gu)(C:Gc)(D:Gc)(vs:List V)(H:Hp)(Q:VK):Prop
 |mk (sh:Gc) (dx:Gc) (t:Gc) (n:Gc) (A:Na) (fs:List Fm) (tb:Nat) (x:Nn) (us:List V) (H0:Hp) (h0:vs=[.ref sh,.ref t,.ref n]) (h1:H sh=Ga (.ins D dx [])) (h2:H0 sh=Ge) (h3:Qx H0 H) (h4:Z7 P w C H0 n A fs tb x) (h5:H0 t=Ga (.lst us)) (h6:∀(L M:Gc)(H':Hp),Ve P w C D ⟨sh,n,t,L,M,A,fs,tb,x,us,H0,λb=>b=L\/∃o,H0 b=Ga o⟩ H' [] (λ_ _=>Ge)->Q .non H'):yM P w C D vs H Q
def v9(P:Gi)(w:Gu)(C D:Gc):Sp:=λa H Q _=>yM P w C D a H Q
inductive oe(H:Hp)(X:Gc->Prop)(us:List V)(v:V)(ls:List Ln):Prop
 |mk (L:_) (vs:_) (h0:v=.ref L) (h1:H L=Ga (.lst vs)) (h2:¬X L) (h3:Paired (hI H X us) vs ls):oe H X us v ls
inductive yg(P:Gi)(w:Gu)(C:Gc)(vs:List V)(H:Hp)(Q:VK):Prop
 |mk (t:Gc) (n:Gc) (A:Na) (fs:List Fm) (tb:Nat) (x:Nn) (us:List V) (one:Nat) (other:Nat) (h0:vs=[.ref t,.ref n,jv one,jv other]) (h1:Z7 P w C H n A fs tb x) (h2:Wc (Yg fs) (Zo fs) x []) (h3:g8 fs x.S) (h4:one∈x.S) (h5:other∈x.S) (h6:x.lead one=x.lead other) (h7:x.S.length<=60) (h8:x.links.length<64) (h9:(∀p,(Zo fs p).length<=100)) (h10:H t=Ga (.lst us)) (h11:fs.length=us.length) (h12:∀(v:V)(ls:List Ln)(H':Hp),Qx H H'->oe H' (λb=>∃o,H b=Ga o) us v ls->hP fs x.links ls->(∃r,ls.getLast?=Ga (one,other,r))->Q v H'):yg P w C vs H Q
def yK(P:Gi)(w:Gu)(C:Gc):Sp:=λa H Q _=>yg P w C a H Q
abbrev mkv(c n t L M:Gc)(A:Na)(fs:List Fm)(tb:Nat)(x:Nn)(d:List V)(a:Hp):Sv:={c,n,t,L,M,A,fs,tb,x,d,a,λb=>b=L\/∃o,a b=Ga o}
theorem nU(I:Wc (Yg fs) (Zo fs) x []){c:List (Nat×Nat)}(h:gH x.up a b c)(i:(p,q)∈c):∃k,x.Xg p q=Ga k/\∀n,Cn (x.links.take n) a b->k<n:=by obtain⟨l,o,P,Q,s,m,d,e,f,g,j,rfl⟩:=h;exact I.fst.way d e f g j p q i
section
variable{P:Gi}{w:Gu}{K:Gd}{mg:GY->Option Value}{base:Heap}
theorem Pg:Qw ["self","things","net"] ["self","things","net"] (Qk Re):=by eq_refl
theorem IT(F:Wj K "__init__" "Showing.__init__" Re f0 fd)(c:ju K D):Qu P w K mg base Z5 1 f0 fd ["self","things","net"] (v9 P w C D):=by
 refine F.ok Pg (λV v M L l=>?_) (λaa B ab s v V M L hr l=>?_)
 .obtain⟨b,f,t,n,B,N,T,x,U,E,rfl,_⟩:=l;rfl
 obtain⟨b,f,t,n,B,N,T,x,U,E,rfl,A,I,d,X,R,q⟩:=l;show∃t,Ik ?my _ t/\_;let Z:Xf ?my Re 3:={_,Qh (Yw (pv 0) ma Xb)}
 let Y:Xf ?my Re 2:={_,Qd (Yw (pv 0) (Zl Qe) rfl) Z.2}
 let W:Xf ?my Re 1:={_,Qd (Yw (pv 0) (pv 2) rfl) Y.2}
 exists _,Qd (Yw (pv 0) (pv 1) rfl) W.2;exists _,Xb,_,Xb,b,D,f,[],Xb,A,c.cl,c.things,(by show 0<1000;decide);refine{_,Xb,_,Xb,b,D,f,_,Xb,Qb,c.cl,c.net,by show 1<1000;decide,Gw _,λg J=>?_};rw[Vz]at J⊢;have p:v g=Ge:=Z0 J;have h:g≠b:=Gp (Qc A p);refine{_,Xb,b,D,f,_,Xb,Qi Qb (Gp h),c.cl,c.lines,by show 2<1000;decide,λo O=>?_};have y:=Z0 O;have Q:=Z0 y;have r:v o=Ge:=Z0 Q;have H:o≠b:=Gp (Qc A r);have G:g≠o:=λz=>by rw[<-z,Qb]at y;cases y
 exists _,Xb,b,D,f,_,Xb,Qi Qb (Gp H),c.cl,c.J1,(by show 3<1000;decide);refine q g o _ {⟨f,Qb⟩,λj u a=>?_,d.free p,d.free r,X,R,{[],?_,.nil},{[],?_,Gw _,λi S=>rfl},(λi S k l=>nomatch l),hP.nil,.inl Xb,λj m=>?_}
 .have e:j≠b:=Qc a I;exact Qi (Qi (Qi (Qi (Qi (d _ _ a) e) (Qc (d _ _ a) p)) e) (Qc (d _ _ a) r)) e
 .exact Qi (Qi (Qi Qb h) G) h
 .exact Qi Qb H
 .have m:j=g\/∃u,E j=Ga u:=m;rcases m with m|⟨u,a⟩
  .rw[m];exact{_,Qi (Qi (Qi Qb h) G) h}
  .have e:j≠b:=Qc a I;exact{u,Qi (Qi (Qi (Qi (Qi (d _ _ a) e) (Qc (d _ _ a) p)) e) (Qc (d _ _ a) r)) e}
theorem vE:Qw ["things","net","one","other","showing","number"] ["things","net","one","other"] (Qk iY):=by eq_refl
theorem Pa(F:Wj K "lines_between" "lines_between" iY f fd)(ah:ju K D)(TN:Um K mg C)(mD:MG mg "Showing" D)(aO:Mk K D fI)(GI:Qu P w K mg base Z5 1 fI fdI ["self","things","net"] (v9 P w C D))(bI:zk K fdI ["self","things","net"] [])
  (GN:Qu P w K mg base Z5 3 fN fdN ["net","one","other"] (tJ P w C))(kN:KI K fN)(bN:zk K fdN ["net","one","other"] [])(mN:MG mg "links_needed" fN)
  (mL:Yc K D "line_for" fL)(bL:zk K fdL ["self","one","other"] [])(GL:Qu P w K mg base Z5 4 fL fdL ["self","one","other"] (jT P w C D Gg))(mW:Yc K D "write_link" fW)(bW:zk K fdW ["self","link"] [])(GW:Qu P w K mg base Z5 5 fW fdW ["self","link"] (zF P w C D)):
  Qu P w K mg base Z5 6 f fd ["things","net","one","other"] (yK P w C):=by
 refine F.ok vE (λvs o M L d=>?_) (λY m Z s o vs M L hr d=>?_)
 .obtain⟨t,n,m,r,J,x,I,O,Q,rfl,_⟩:=d;rfl
 obtain⟨t,n,m,r,J,x,I,O,Q,rfl,X,A,FO,oS,tS,he,hS,aT,aQ,ht,an,q⟩:=d;have aW:Yd 2 _:=hr.mono (by lia);have aX:Yd 3 _:=hr.mono (by lia);have aY:Yd 4 _:=hr.mono (by lia);have nd:=vE.nd;show∃t,Ik ?my _ t/\_;let w4:Xf ?my iY 3:={_,Qh (Qv (Qm (pv 4) rfl))}
 let w3:Xf ?my iY 2:={_,Qd (Zc (Zf (pv 4) ah.cl mL GL aY bL .nil Q5 (Qa (pv 2) (Qa (pv 3) Qe)))) w4.2}
 let w2:Xf ?my iY 1:=⟨_,Qd (Z8 Gv rfl (Yx (Zs GN aX rfl mN kN bN .nil Q5 (Qa (pv 1) (Qa (pv 2) (Qa (pv 3) Qe))))) (Z6 5 nd)
   (Qh (Zc (Zf (pv 4) ah.cl mW GW hr bW .nil Q5 (Qa (Qn Ze (Qm (pv 1) rfl) (pv 5)) Qe))))) w3.2⟩
 exists _,Qd (Qt 4 nd (mQ aO GI aW rfl mD bI .nil Q5 (Qa (pv 0) (Qa (pv 1) Qe)))) w2.2;refine{_,Xb,_,Xb,λh dx aA aR a7=>?_};have s0:Qx o (zj (zj o dx (.own h)) h (.ins D dx [])):=λc a0 aa=>by rw[Qg (Qc aa aA),Qg (Qc aa aR)];exact aa
 refine{h,dx,t,n,m,r,J,x,I,o,Xb,Qb,aA,s0,X,ht,λB N H1 S1=>{Xb,?_}};have X1:=X.same S1.sam;obtain⟨aB,aU,aC⟩:=X.li;obtain⟨aP,on⟩:=X.ob;refine{_,Xb,_,Xb,_,Xb,n,m,r,J,x,O,Q,Xb,X1,A,FO,oS,tS,he,by lia,aT,λL2 l H2 g2 ag ax ap a4 Dn=>{L2,Xb,{_,Zb.of ax},?_}};have S2:=S1.fr g2;have S2:Ve P w C D (mkv h n t B N m r J x I o) H2 [] (λ_ _=>Ge):=S2;have aM:L2≠B:=λz=>by obtain⟨vs,l1,_⟩:=S1.li;rw[z,l1]at ag;cases ag
 have aN:L2≠N:=λz=>by obtain⟨vs,l1,_⟩:=S1.nu;rw[z,l1]at ag;cases ag
 have av:∀{b i k v:Nat},b<i->l[b]?=Ga k->l[i]?=Ga v->k<v:=λ{b i k v}ai h1 h2=>by obtain⟨L,Y⟩:=List.getElem?_eq_some_iff.mp h1;obtain⟨M,Z⟩:=List.getElem?_eq_some_iff.mp h2;have le:=List.pairwise_iff_getElem.mp a4 b i L M ai;have ne:=List.pairwise_iff_getElem.mp ap b i L M ai;rw[Y,Z]at le ne;lia
 have aw:∀{g:Nat->Nat->Option Nat}{i:Nat},(∀b k a j H,b<i->l[b]?=Ga k->x.links[k]?=Ga (a,j,H)->(g a j).isSome=Gg)->∀{u R b k:Nat},b<i->l[b]?=Ga k->x.Xg u R=Ga k->Dr g u R:=λ{g i}d{u R b k}e hk hl=>by
  obtain⟨H,h1|h1⟩:=A.fst.Qhc u R k hl
  .exact .inl (d b k u R H e hk h1)
  .exact .inr (d b k R u H e hk h1)
 have a8:=Gr aC;let a3:Nat->St->Hp->Prop:=λi aj H3=>ke λ(x5:Option V)(S:List Ln)(g:Nat->Nat->Option Nat)=>hJ (aj=[Ga (.ref t),Ga (.ref n),Ga (jv O),Ga (jv Q),Ga (.ref h),x5]) (Ve P w C D (mkv h n t B N m r J x I o) H3 S g) (I9 B N H2 H3) (S.length<=i*12101) (∀b k a j H,b<i->l[b]?=Ga k->x.links[k]?=Ga (a,j,H)->(g a j).isSome=Gg) (∀G,(∀b k,b<i->l[b]?=Ga k->k<G)->gz (mkv h n t B N m r J x I o) g G) ((g O Q).isSome=Gg->∃H,S.getLast?=Ga (O,Q,H))
 refine Xh (K:=K) (a:=L2) (xs:=l.map jv) a3
  {_,[],_,Xb,S2,I9.refl,Gw _,(λb k a j H d=>by lia),(λG _ i b d=>by cases d),(λd=>by cases d)} (by rintro i aj H3 _ ⟨_,_,_,_,_,F3,_⟩;exact Zb.of (F3.keep _ _ ax aM aN)) ?_ ?_
 .rintro i y aj H3 hi ⟨x5,S,g,rfl,T,F3,az,ac,am,ay⟩;rw[List.getElem?_map]at hi;cases eq:l[i]? with
  |none=>rw[eq]at hi;cases hi
  |some k=>
   rw[eq]at hi;cases hi;have af:k∈l:=List.mem_of_getElem? eq;have kl:=Dn.lt k af;have kw:k<aB.length:=by lia
   have a6:i<l.length:=(List.getElem?_eq_some_iff.mp eq).1;have aV:l.length<=64:=by have:l.length<=(List.range x.links.length).length:=Xp ap λk hk=>List.mem_range.mpr (Dn.lt k hk);rw[List.length_range]at this;lia
   obtain⟨⟨a,j,rs⟩,L,aH⟩:=Qy aC (List.getElem?_eq_getElem kw);obtain⟨aS,bS,aq⟩:=A.lnk k a j rs L;have aJ:=T.sam _ _ on;have aI:=T.sam _ _ aU;obtain⟨al,o3⟩:=T.ob;have aK:Qp o H3:=Qp.of T.sam;have aG:∀p q,(p,q)∈Wi r (a,j,rs)->Go (mkv h n t B N m r J x I o) g p q:=λp q M=>by
    obtain⟨pS,qS,Z⟩:=lV A L M;refine{A,pS,qS,(A.conn p pS q qS).mpr (Z.mono λz hz=>List.mem_of_mem_take hz),by show x.S.length<=1000;lia,λst W u R ab=>?_};obtain⟨v,E,_⟩:=nU A W ab;obtain⟨Y,d2⟩:=Dn.low k af _ L p q M st W u R ab v E;obtain⟨b,e⟩:=List.mem_iff_getElem?.mp Y;have ai:b<i:=by
     rcases Fq b i with d|d|d
     .exact d
     .subst d;rw[eq]at e;cases e;lia
     .have:=av d eq e;lia
    exact aw ac ai e E
   refine{_,Xb,h,al,_,Xb,o3,P2 _,_,Xb,n,C,aP,_,_,Xb,aJ,TN.cl,TN.links,Jh _,_,Xb,m.k,aB,_,_,Xb,Xb,Zb.of aI,Qz (List.getElem?_eq_getElem kw),mkv h n t B N m r J x I o,S,g,_,a,j,rs,Xb,T,aH.Ql aK,List.mem_of_getElem? L,FO.lt a aS,FO.lt j bS,an,λp hp=>by show p<I.length;rw[<-an];exact FO.lt p hp,hS,aQ a,λz=>{(aq z).1,(aq z).2.1},aG,by lia,λao N1 H H4 U F4 aD aZ ak=>?_};have aE:∀G,k<G->∀p q,(p,q)∈Wi r (a,j,rs)->Cn (x.links.take G) p q:=λG hm p q M=>by
    obtain⟨pS,qS,Z⟩:=lV A L M;refine Z.mono λz hz=>?_;have:x.links.take k=(x.links.take G).take k:=by rw[List.take_take,E8 (by lia)]
    rw[this]at hz;exact List.mem_of_mem_take hz
   have aF:gz (mkv h n t B N m r J x I o) N1 k:=ak k (am k λb v e E=>av e E eq) λp q M=>(lV A L M).2.2;refine{_,S++ao++[(a,j,H)],_,Xb,U,F3.trans F4,by rw[List.length_append,List.length_append,List.length_singleton];lia,λb v a' b' r' e ad ae=>?_,λG hm=>?_,λd=>?_}
   .rcases Tn b i with d|d
    .exact uL _ _ (aD _ _ (ac b v a' b' r' d ad ae))
    .have:b=i:=by lia
     subst this;rw[eq]at ad;cases ad;rw[L]at ae;cases ae;rw[p8];rfl
   .have Y:=hm i k (by lia) eq;exact tI (ak G (am G λb v e E=>hm b v (by lia) E) (aE G Y)) (.link (List.mem_of_getElem? (i:=k) (by rw[List.getElem?_take_of_lt Y];exact L)))
   .by_cases Y:O=a/\Q=j
    .obtain⟨rfl,rfl⟩:=Y;exact{H,List.getLast?_concat}
    .unfold putN at d;rw[Gh Y]at d;have Z:=aF _ _ d;obtain⟨st,p,q',b,W,M,e,aL⟩:=Dn.only k af;obtain⟨v,E,hb⟩:=nU A W M;rw[e]at E;cases E;have:=hb k Z;lia
 .rintro aj H3 ⟨x5,S,g,rfl,T,F3,az,ac,am,ay⟩;rw[List.length_map]at az ac;have aV:l.length<=64:=by have:l.length<=(List.range x.links.length).length:=Xp ap λk hk=>List.mem_range.mpr (Dn.lt k hk);rw[List.length_range]at this;lia
  obtain⟨al,o3⟩:=T.ob;have Y:Go (mkv h n t B N m r J x I o) g O Q:=by refine{A,oS,tS,he,by show x.S.length<=1000;lia,λst W u R ab=>?_};obtain⟨v,E,_⟩:=nU A W ab;obtain⟨b,e⟩:=List.mem_iff_getElem?.mp (Dn.top st W u R ab v E);exact aw ac (List.getElem?_eq_some_iff.mp e).1 e E
  have L:∀p∈x.S,p<I.length:=λp hp=>by rw[<-an];exact FO.lt p hp
  refine{_,Xb,h,al,_,Xb,o3,R4 _,_,Xb,_,Xb,mkv h n t B N m r J x I o,S,g,O,Q,Xb,T,L O oS,L Q tS,L,.inr ⟨Xb,Y⟩,by rw[Gn rfl];lia,λk ao N4 H4 U F4 a5 aD aZ ak ar _ au=>?_};obtain⟨M,o4⟩:=U.ob;obtain⟨vs,l1,l2⟩:=U.li;refine{_,Xb,h,D,M,_,_,Xb,o4,ah.cl,ah.lines,pF _,q (.ref B) (S++ao) H4 U.sam {B,vs,Xb,l1,(by rintro⟨a0,aa⟩;have:=U.L0;dsimp only[mkv]at this;rw[this]at aa;cases aa),_root_.L2.Paired.Yb l2 λ_ _ d=>d.ex λc ys _ Z z=>Z (.inr z)} U.good ?_};cases hN:g O Q with
  |none=>exact ar hN
  |some k0=>rw[au (by rw[hN];exactλz=>nomatch z),List.append_nil];exact ay (by rw[hN];rfl)
end
def tfs(ts:List Th):List Fm:=ts.map (fm ts)
def tg(ts:List Th)(p:Nat):Th:=ts.getD p (.mk Et [])
theorem Ur(h:ts[p]?=Ga t):tg ts p=t:=by unfold tg;rw[List.getD_eq_getElem?_getD,h];rfl
theorem R5(h:t∈ts):tg ts (ts.idxOf t)=t:=Ur (Ri h)
theorem Wp(h:p<ts.length):ts[p]?=Ga (tg ts p):=by rw[List.getElem?_eq_getElem h,Ur (List.getElem?_eq_getElem h)]
theorem Wy(h:ts[p]?=Ga t):Yg (tfs ts) p=t.word/\Zo (tfs ts) p=t.parts.map λq=>ts.idxOf q:=by unfold Yg Zo tfs;rw[List.getD_eq_getElem?_getD,List.getElem?_map,h];exact⟨Xb,Xb⟩
theorem Vm(a:List Th):(tfs a).length=a.length:=by simp[tfs]
structure jB(fs:List Fm)(x:Nn)(sm:List (Nat×Nat)):Prop where
 ins:∀p q,(p,q)∈sm->p∈x.S/\q∈x.S
 eq:∀p q,(p,q)∈sm->x.lead p=x.lead q
 snd:∀E,Ec (Yg fs) (Zo fs) x.S E->(∀p q,(p,q)∈sm->E p q)->∀p∈x.S,∀q∈x.S,x.lead p=x.lead q->E p q
def jI(a:List En):List (Nat×Nat):=a.filterMap λ(e:En)=>if e.1=("same":GY)then Ga e.2 else Ge
theorem Uc:(p,q)∈jI ens↔sme p q∈ens:=by
 unfold jI;rw[List.mem_filterMap];constructor
 .rintro⟨⟨k,a,b⟩,h,e⟩;split at e
  .rename_i c
   have c:k=("same":GY):=c;cases e;subst c;exact h
  .cases e
 .exactλh=>{_,h,Gn Xb}
theorem yv(U:hA fs x ens ens.length):jB fs x (jI ens):=by refine{λp q h=>U.ins _ (Uc.mp h),λp q h=>?_,λE X h=>U.snd E X λj p q _ a=>h p q (Uc.mpr (List.mem_of_getElem? a))};obtain⟨j,a⟩:=List.mem_iff_getElem?.mp (Uc.mp h);exact U.eq j p q (List.getElem?_eq_some_iff.mp a).1 a
theorem SC{d:Nn}{c:List (Nat×Nat)}{r:Option Jl}(Q:jB fs x c)(M:gI fs x d a b r [])(f:a∈x.S)(g:b∈x.S):jB fs d (c++[(a,b)]):=by
 have e:=M.S;refine{λp q h=>?_,λp q h=>?_,λE X h=>?_}
 .rw[e];rcases List.mem_append.mp h with h|h
  .exact Q.ins p q h
  .simp at h;rw[h.1,h.2];exact⟨f,g⟩
 .rcases List.mem_append.mp h with h|h
  .obtain⟨i,j⟩:=Q.ins p q h;exact M.mono p i q j (Q.eq p q h)
  .simp at h;rw[h.1,h.2];exact M.eq.nil
 .rw[e]at X;have i:=Q.snd E X λp q j=>h p q (List.mem_append_left _ j);exact(M.snd E X {i,λu v s m=>by simp at m;rw[m.1,m.2.1];exact h a b (by simp)}).1
theorem jB.cg(nd:ts.Nodup)(o:V5 ts){y:List (Nat×Nat)}(I:Wc (Yg (tfs ts)) (Zo (tfs ts)) x [])(C:g8 (tfs ts) x.S)(Q:jB (tfs ts) x y)
  (G:∀a b,(Gg,a,b)∈tl->∃p q,(p,q)∈y/\ts[p]?=Ga a/\ts[q]?=Ga b)(H:∀p q,(p,q)∈y->(Gg,tg ts p,tg ts q)∈tl)(d:p∈x.S)(g:q∈x.S):x.lead p=x.lead q↔Cg tl (tg ts p) (tg ts q):=by
 have J:∀p∈x.S,p<ts.length:=λp d=>by have:=C.lt p d;rwa[Vm]at this
 have f:∀p∈x.S,ts[p]?=Ga (tg ts p):=λp d=>Wp (J p d);have j:∀p∈x.S,tg ts p∈ts:=λp d=>List.mem_of_getElem? (f p d);have n:∀p∈x.S,ts.idxOf (tg ts p)=p:=λp d=>R6 nd (f p d);constructor
 .refineλh=>Q.snd (λp q=>Cg tl (tg ts p) (tg ts q)) {λ_=>.refl _,λ_ _ h=>.symm h,λ_ _ _ h k=>.trans h k,λp d q g hw e=>?_} (λp q h=>.told (H p q h)) p d q g h;obtain⟨A,m⟩:=Wy (f p d);obtain⟨B,z⟩:=Wy (f q g);rw[A,B]at hw;rw[m,z]at e;have K:=j p d;have L:=j q g;generalize tg ts p=a at*;generalize tg ts q=b at*;cases a with
  |mk u F=>
   cases b with
   |mk v M=>simp only[Th.word,Th.parts]at hw e;subst hw;have D:=Xv o K;have E:=Xv o L;simp only[Th.parts]at D E;obtain⟨r,e⟩:=e;rw[List.length_map,List.length_map]at r;refine .cong (gk.of r λi s t w l=>?_);have:=e i (ts.idxOf s) (ts.idxOf t) (by rw[List.getElem?_map,w];rfl) (by rw[List.getElem?_map,l];rfl);dsimp only at this;rwa[R5 (D s (List.mem_of_getElem? w)),R5 (E t (List.mem_of_getElem? l))]at this
 .intro c;have T:Rw tl (x.S.map (tg ts)) (λt=>((x.lead (ts.idxOf t):Nat):Int)):=by
   refine{λw F h q g=>?_,λa b h=>?_,λw F M l v e=>?_}
   .obtain⟨p,d,e⟩:=List.mem_map.mp h;have r:=Xv o (j p d) q (by rw[e];exact g);obtain⟨_,m⟩:=Wy (f p d);have:ts.idxOf q∈Zo (tfs ts) p:=by rw[m,e];exact List.mem_map.mpr ⟨q,g,Xb⟩
    exact List.mem_map.mpr {_,C.pts p d _ this,R5 r}
   .obtain⟨p,q,E,r,D⟩:=G a b h;obtain⟨K,L⟩:=Q.ins p q E;exists List.mem_map.mpr {p,K,Ur r},List.mem_map.mpr {q,L,Ur D};rw[R6 nd r,R6 nd D,Q.eq p q E]
   .obtain⟨p,d,r⟩:=List.mem_map.mp l;obtain⟨q,g,D⟩:=List.mem_map.mp v;obtain⟨A,m⟩:=Wy (f p d);obtain⟨B,z⟩:=Wy (f q g);have:=I.cong d g (by simp only[Zm,TX];rw[A,B,m,z,r,D];exists Xb;simp only[Th.parts,List.map_map];have:=congrArg (List.map DT) e;simp only[List.map_map]at this;exact this)
    rw[<-r,<-D,n p d,n q g,this]
  have:=T.complete (List.mem_map.mpr ⟨p,d,Xb⟩) (List.mem_map.mpr ⟨q,g,Xb⟩) c;simp only[n p d,n q g]at this;lia
abbrev Lt:=Th×Th×Lr
def mh(a:List Lt):Th->List Nat->Th->Prop
 |p,[],q=>p=q
 |p,k::b,q=>∃m r,a[k]?=Ga (p,m,r)/\mh a m b q
def IA(tl:Tl)(e:Option (Th×Th))(c:List Lt)(a b:Th):Lr->Prop
 |.told n=>tl[n]?=Ga (Gg,a,b)
 |.asked=>e=Ga (a,b)
 |.turn k=>∃r,c[k]?=Ga (b,a,r)
 |.chain d=>mh c a d b
 |.like d=>a.word=b.word/\a.parts.length=b.parts.length/\d.length=a.parts.length/\∀(j k:Nat)(p q:Th),d[j]?=Ga k->a.parts[j]?=Ga p->b.parts[j]?=Ga q->∃r,c[k]?=Ga (p,q,r)
def lF(tl:Tl)(c:Option (Th×Th))(ls:List Lt):Prop:=∀(i:Nat)a b r,ls[i]?=Ga (a,b,r)->IA tl c (ls.take i) a b r
def lth(ts:List Th)(l:Ln):Lt:=(tg ts l.1,tg ts l.2.1,l.2.2)
theorem pR{a:List Ln}{r:Lr}(h:a[k]?=Ga (p,q,r)):(a.map (lth ts))[k]?=Ga (tg ts p,tg ts q,r):=by rw[List.getElem?_map,h];rfl
theorem zJ{b:List Th}{a:List Ln}:∀{c:List Nat}{p q:Nat},ku a p c q->mh (a.map (lth b)) (tg b p) c (tg b q)
 |[],p,q,h=>by have:p=q:=h;rw[this];rfl
 |k::c,p,q,⟨m,r,d,e⟩=>{tg b m,r,pR d,zJ e}
theorem mY(m:V5 ts){z:Option (Th×Th)}(g:hP (tfs ts) lks ls)(I:∀l∈ls,l.1<ts.length/\l.2.1<ts.length)
  (F:∀a b n,(a,b,Ga (.told n))∈lks->tl[n]?=Ga (Gg,tg ts a,tg ts b))(D:∀a b,(a,b,Ga .asked)∈lks->z=Ga (tg ts a,tg ts b)):lF tl z (ls.map (lth ts)):=by
 intro i a b r c;rw[List.getElem?_map]at c;cases e:ls[i]? with
 |none=>rw[e]at c;cases c
 |some l=>
  rw[e]at c;obtain⟨p,q,L⟩:=l;cases c;dsimp only;generalize L=r at*;have ok:=g i p q r e;obtain⟨x,y⟩:=I _ (List.mem_of_getElem? e);rw[<-List.map_take];cases r with
  |told n=>exact F p q n ok
  |asked=>exact D p q ok
  |turn k=>obtain⟨f,h⟩:=ok;exact{f,pR h}
  |chain H=>exact zJ ok
  |like H=>obtain⟨B,o,s,C⟩:=ok;obtain⟨M,h⟩:=Wy (Wp x);obtain⟨N,A⟩:=Wy (Wp y);have J:tg ts p∈ts:=List.mem_of_getElem? (Wp x);have K:tg ts q∈ts:=List.mem_of_getElem? (Wp y);rw[h,A,List.length_map,List.length_map]at o;rw[h,List.length_map]at s;refine{by rw[<-M,<-N];exact B,o,s,λj k u v E t w=>?_};have G:=C j k (ts.idxOf u) (ts.idxOf v) E (by rw[h,List.getElem?_map,t];rfl) (by rw[A,List.getElem?_map,w];rfl);obtain⟨f,d⟩:=G;have:=pR (ts:=ts) d;rw[R5 (Xv m J u (List.mem_of_getElem? t)),R5 (Xv m K v (List.mem_of_getElem? w))]at this;exact⟨f,this⟩
inductive n9(H:Hp)(X:Gc->Prop)(v:V)(l:Lt):Prop
 |mk (c:_) (v1:_) (v2:_) (rv:_) (h0:v=.ref c) (h1:H c=Ga (.tup [v1,v2,rv])) (h2:Z2 H v1 l.1) (h3:Z2 H v2 l.2.1) (h4:gK H X rv l.2.2):n9 H X v l
inductive Wk(H:Hp)(X:Gc->Prop)(v:V)(ls:List Lt):Prop
 |mk (L:_) (vs:_) (h0:v=.ref L) (h1:H L=Ga (.lst vs)) (h2:¬X L) (h3:Paired (n9 H X) vs ls):Wk H X v ls
theorem Wk.kp{X:Gc->Prop}{H b:Hp}(a:Qp H b)(f:∀{c:Gc}{d:List V},H c=Ga (.lst d)->¬X c->b c=Ga (.lst d)){v:V}{g:List Lt}(h:Wk H X v g):Wk b X v g:=by obtain⟨L,t,i,j,d,k⟩:=h;exact{L,t,i,f j d,d,L2.Paired.Yb k (by rintro _ _ ⟨c,r,s,q,l,m,n,o,p⟩;exact{c,r,s,q,l,a _ _ m,n.Ql a,o.Ql a,p.kp (λe=>a _ _ e) f})}
theorem Wk.ex{X Y:Gc->Prop}{H:Hp}(b:∀c a,H c=Ga (.lst a)->¬X c->¬Y c){v:V}{d:List Lt}(h:Wk H X v d):Wk H Y v d:=by obtain⟨L,q,e,a,f,g⟩:=h;exact{L,q,e,a,b _ _ a f,L2.Paired.Yb g (by rintro _ _ ⟨c,o,p,n,i,j,k,l,m⟩;exact{c,o,p,n,i,j,k,l,m.ex b})}
theorem Af{g:List V}(f:Zp H g ts)(h:oe H X g v ls):Wk H X v (ls.map (lth ts))/\∀l∈ls,l.1<ts.length/\l.2.1<ts.length:=by
 obtain⟨L,d,r,s,w,k⟩:=h;have a:=f.length;have e:∀{d:List V}{ls:List Ln},Paired (hI H X g) d ls->Paired (n9 H X) d (ls.map (lth ts))/\∀l∈ls,l.1<ts.length/\l.2.1<ts.length:=by
  intro d ls h;induction h with
  |nil=>exact{.nil,λl b=>nomatch b}
  |@cons v l d ls u t m=>
   obtain⟨c,E,F,D,z,A,n,o,B⟩:=u;have p:l.1<ts.length:=by rw[<-a];exact(List.getElem?_eq_some_iff.mp n).1
   have q:l.2.1<ts.length:=by rw[<-a];exact(List.getElem?_eq_some_iff.mp o).1
   obtain⟨G,i,x⟩:=f.at (Wp p);obtain⟨I,j,y⟩:=f.at (Wp q);rw[n]at i;rw[o]at j;cases i;cases j;refine{.cons ⟨c,E,F,D,z,A,x,y,B⟩ m.1,λC b=>?_};rcases List.mem_cons.mp b with rfl|b
   .exact⟨p,q⟩
   .exact m.2 C b
 exact{{L,d,r,s,w,(e k).1},(e k).2}
structure ou(tl:Tl)(S:List Th)(rs:List Row):Prop where
 ex:∃L:Th->Nat,(∀s∈S,∀t∈S,L s=L t↔Cg tl s t)/\(∀t∈S,(t.word,t.parts.map L,L t)∈rs)/\∀r∈rs,∃t∈S,r=(t.word,t.parts.map L,L t)
 cl:∀t∈S,∀p∈t.parts,p∈S
 nd:(rs.map λr=>(r.1,r.2.1)).Nodup
theorem yz(nd:ts.Nodup)(m:V5 ts){l:List Row}(k:g8 (tfs ts) x.S)(W:vX (tfs ts) x l)(h:∀p∈x.S,∀q∈x.S,x.lead p=x.lead q↔Cg tl (tg ts p) (tg ts q)):ou tl (x.S.map (tg ts)) l:=by
 have u:∀p∈x.S,p<ts.length:=λp a=>by have:=k.lt p a;rwa[Vm]at this
 have b:∀p∈x.S,ts[p]?=Ga (tg ts p):=λp a=>Wp (u p a);have i:∀p∈x.S,tg ts p∈ts:=λp a=>List.mem_of_getElem? (b p a);have g:∀p∈x.S,ts.idxOf (tg ts p)=p:=λp a=>R6 nd (b p a);obtain⟨N,n1,n2,n3⟩:=W.ex;have f:∀p∈x.S,Vq (tfs ts) x N p=((tg ts p).word,(tg ts p).parts.map (λt=>N (x.lead (ts.idxOf t))),N (x.lead (ts.idxOf (tg ts p)))):=λp a=>by obtain⟨e,j⟩:=Wy (b p a);unfold Vq;rw[e,j,List.map_map,g p a];rfl
 refine{{λt=>N (x.lead (ts.idxOf t)),λs o t d=>?_,λt d=>?_,λr n=>?_},λt d q c=>?_,W.nd}
 .obtain⟨p,a,rfl⟩:=List.mem_map.mp o;obtain⟨q,c,rfl⟩:=List.mem_map.mp d;dsimp only;rw[g p a,g q c,<-h p a q c];exact{n1 p a q c,λe=>by rw[e]}
 .obtain⟨p,a,rfl⟩:=List.mem_map.mp d;rw[<-f p a];exact n2 p a
 .obtain⟨p,a,rfl⟩:=n3 r n;exact{_,List.mem_map.mpr ⟨p,a,Xb⟩,f p a}
 .obtain⟨p,a,rfl⟩:=List.mem_map.mp d;have e:=Xv m (i p a) q c;obtain⟨_,j⟩:=Wy (b p a);have:ts.idxOf q∈Zo (tfs ts) p:=by rw[j];exact List.mem_map.mpr ⟨q,c,Xb⟩
  exact List.mem_map.mpr {_,k.pts p a _ this,R5 e}
def Wx(p t e:Gc):List (GY×V):=[("places",.ref p),("told",.ref t),("entries",.ref e)]
theorem U9(p t e:Gc):(Wx p t e).lookup ("places":GY)=Ga (.ref p):=by rfl
theorem pC(p t e:Gc):(Wx p t e).lookup ("told":GY)=Ga (.ref t):=by rfl
theorem Uh(p t e:Gc):(Wx p t e).lookup ("entries":GY)=Ga (.ref e):=by rfl
theorem Kq(p t e:Gc):(Wx p t e).lookup ("answer":GY)=Ge:=by rfl
theorem JP(p t e:Gc):(Wx p t e).lookup ("go_back":GY)=Ge:=by rfl
theorem OI(p t e:Gc):(Wx p t e).lookup ("tell":GY)=Ge:=by rfl
theorem AI(p t e:Gc):(Wx p t e).lookup ("ask":GY)=Ge:=by rfl
theorem Iq(p t e:Gc):(Wx p t e).lookup ("lines_for":GY)=Ge:=by rfl
theorem PX(a f d:Gc):(Rb a f d).lookup ("things":GY)=Ga (.ref a):=by rfl
theorem vF(a f d:Gc):(Rb a f d).lookup ("forms":GY)=Ga (.ref f):=by rfl
theorem za(a f d:Gc):(Rb a f d).lookup ("place_of":GY)=Ge:=by rfl
theorem JQ(p t e a:Gc):Yj "told" (.ref a) (Wx p t e)=Wx p a e:=by rfl
theorem xf(p t e a:Gc):Yj "entries" (.ref a) (Wx p t e)=Wx p t a:=by rfl
def hF(ts:List Th):List En->Tl->Prop:=Paired λ(e:En)(p:Bool×Th×Th)=>e.1=tw p.1/\ts[e.2.1]?=Ga p.2.1/\ts[e.2.2]?=Ga p.2.2
structure Ua(P:Gi)(w:Gu)(CP CB:Gc)(H:Hp)(bk p a f d t e:Gc)(ts:List Th)(tl:Tl):Prop where
 ob:∃dx,H bk=Ga (.ins CB dx (Wx p t e))
 pl:Pl P w CP H p a f d ts
 to:∃vs,H t=Ga (.lst vs)/\Vr H vs tl
 en:∃es ens,H e=Ga (.lst es)/\Paired (gT H) es ens/\hF ts ens tl
 ta:t≠a
 tf:t≠f
 te:t≠e
 ea:e≠a
 ef:e≠f
structure iu(U ts:List Th)(tl:Tl):Prop where
 sub:∀t∈ts,t∈U
 cl:V5 U
 good:∀t∈U,t.good
 len:U.length<=60
 tl:tl.length<=900
theorem JR{l:List Th}(nd:l.Nodup)(h:∀p∈l,p∈S):l.length<=S.length:=by
 induction l generalizing S with
 |nil=>simp
 |cons a r c=>rw[List.nodup_cons]at nd;have:=c (S:=S.erase a) nd.2 λp b=>(List.mem_erase_of_ne (show p≠a fromλz=>nd.1 (by rw[<-z];exact b))).mpr (h p (List.mem_cons_of_mem _ b));have e:=List.length_erase_of_mem (h a List.mem_cons_self);have d:0<S.length:=List.length_pos_of_mem (h a List.mem_cons_self);simp only[List.length_cons];ext
theorem iu.le(h:iu U ts tl)(nd:ts.Nodup):ts.length<=60:=Tw (JR nd h.sub) h.len
def oz(tl b:Tl)(n:Nat)(a c:Th):Prop:=tl[n]?=Ga (Gq,a,c)/\Cg b a c/\∀(j:Nat)d e,j<n->tl[j]?=Ga (Gq,d,e)->¬Cg b d e
def Ih(H:Hp)(X:Gc->Prop)(tl:Tl):Dd->V->Prop
 |.back i,v=>v=(Vt tl (.back i)).2
 |.tell b s t,v=>(¬Yv (tl++[(b,s,t)])/\v=.int ((tl.length:Int)+1))\/
   ∃d n a c e ls,v=.ref d/\H d=Ga (.tup [.str "clash",jv n,e])/\oz (tl++[(b,s,t)]) (tl++[(b,s,t)]) n a c/\Wk H X e ls/\lF (tl++[(b,s,t)]) Ge ls/\∃r,ls.getLast?=Ga (a,c,r)
 |.ask s t,v=>(Cg tl s t/\∃d e ls,v=.ref d/\H d=Ga (.tup [.str "equal",e])/\Wk H X e ls/\lF tl Ge ls/\∃r,ls.getLast?=Ga (s,t,r))\/
   (¬Cg tl s t/\∃d n a c e ls,v=.ref d/\H d=Ga (.tup [.str "unlike",jv n,e])/\oz tl (tl++[(Gg,s,t)]) n a c/\Wk H X e ls/\lF tl (Ga (s,t)) ls/\∃r,ls.getLast?=Ga (a,c,r))\/
   (¬Cg tl s t/\(∀a c,(Gq,a,c)∈tl->¬Cg (tl++[(Gg,s,t)]) a c)/\∃d h j f g S,v=.ref d/\H d=Ga (.tup [.str "open",h,j])/\Uy H X h f/\Uy H X j g/\ou tl S f/\ou (tl++[(Gg,s,t)]) S g/\s∈S/\t∈S/\∀b a c,(b,a,c)∈tl->a∈S/\c∈S)
theorem Ih.kp{X:Gc->Prop}{H u:Hp}(f:Qp H u)(p:∀{c:Gc}{b:List V},H c=Ga (.lst b)->¬X c->u c=Ga (.lst b)){z:Tl}:∀{d:Dd}{v:V},Ih H X z d v->Ih u X z d v
 |.back i,v,h=>h
 |.tell b s t,v,h=>by
  rcases h with h|⟨g,n,a,c,r,q,j,k,l,m,o⟩
  .exact .inl h
  .exact .inr {g,n,a,c,r,q,j,f _ _ k,l,m.kp f p,o}
 |.ask s t,v,h=>by
  rcases h with⟨b,g,r,q,j,k,l,m⟩|⟨b,g,n,a,c,r,q,j,k,l,m,o⟩|⟨b,w,g,A,B,x,y,S,j,k,l,m,o⟩
  .exact .inl {b,g,r,q,j,f _ _ k,l.kp f p,m}
  .exact .inr (.inl {b,g,n,a,c,r,q,j,f _ _ k,l,m.kp f p,o})
  .exact .inr (.inr {b,w,g,A,B,x,y,S,j,f _ _ k,l.kp (λe=>f _ _ e) p,m.kp (λe=>f _ _ e) p,o})
theorem Ih.ex{X Y:Gc->Prop}{H:Hp}(m:∀c b,H c=Ga (.lst b)->¬X c->¬Y c){w:Tl}:∀{d:Dd}{v:V},Ih H X w d v->Ih H Y w d v
 |.back i,v,h=>h
 |.tell b s t,v,h=>by
  rcases h with h|⟨e,n,a,c,p,o,f,g,j,k,l⟩
  .exact .inl h
  .exact .inr {e,n,a,c,p,o,f,g,j,k.ex m,l}
 |.ask s t,v,h=>by
  rcases h with⟨b,e,p,o,f,g,j,k⟩|⟨b,e,n,a,c,p,o,f,g,j,k,l⟩|⟨b,q,e,x,y,r,u,S,f,g,j,k,l⟩
  .exact .inl {b,e,p,o,f,g,j.ex m,k}
  .exact .inr (.inl {b,e,n,a,c,p,o,f,g,j,k.ex m,l})
  .exact .inr (.inr {b,q,e,x,y,r,u,S,f,g,j.ex m,k.ex m,l})
theorem Ih.head{X:Gc->Prop}{H:Hp}{m:Tl}:∀{d:Dd}{v:V},Ih H X m d v->OG H v (Vt m d).2
 |.back i,v,h=>.inl h
 |.tell b s t,v,h=>by
  rcases h with⟨e,f⟩|⟨g,n,a,c,k,o,e,f,j,_⟩
  .left;simp only[Vt];rw[Gh e,f]
  .right;have l:Yv (m++[(b,s,t)]):={a,c,List.mem_of_getElem? j.1,j.2.1};simp only[Vt];rw[Gn l];exact{g,_,e,f}
 |.ask s t,v,h=>by
  right;rcases h with⟨b,g,k,o,e,f,_⟩|⟨b,g,n,a,c,k,o,e,f,j,_⟩|⟨b,l,g,r,u,w,x,S,e,f,_⟩
  .exists g,[k],e;simp only[Vt,kindOf];rw[Gn b];exact f
  .exists g,[jv n,k],e;simp only[Vt,kindOf];rw[Gh b,Gn {a,c,List.mem_of_getElem? j.1,j.2.1}];exact f
  .exists g,[r,u],e;simp only[Vt,kindOf];rw[Gh b,Gh (by rintro⟨a,c,p,q⟩;exact l a c p q)];exact f
theorem Kk(h:t.good):t.parts.length<=100:=by
 cases t with
 |mk u a=>have:=Zj a;have:=h.2.2;simp only[Th.size]at this;simp only[Th.parts];lia
theorem IZ{p:Th}(h:p∈t.parts):p.depth<t.depth:=by
 cases t with
 |mk u a=>simp only[Th.parts]at h;have:=X7 h;simp only[Th.depth];ext
theorem HY(h:t.ok=Gg):Dc t.word=Gg:=by
 cases t with
 |mk u a=>simp only[Th.ok,Td]at h;exact h.1
theorem yZ(h:¬p<ts.length):Yg (tfs ts) p=Et/\Zo (tfs ts) p=[]:=by unfold Yg Zo tfs;rw[List.getD_eq_getElem?_getD,List.getElem?_eq_none (by rw[List.length_map];ext)];exact⟨Xb,Xb⟩
theorem xS(nd:ts.Nodup)(d:V5 ts)(e:∀t∈ts,t.good)(a:ts.length<=60):qj (tfs ts) (λp=>(tg ts p).depth)/\∀p,(tg ts p).depth<59:=by
 have a:∀{p:Nat},p<ts.length->tg ts p∈ts:=λh=>List.mem_of_getElem? (Wp h);refine{{λp=>?_,λp=>?_,λp b q c=>?_,λp q b c f g=>?_,by rw[Vm];ext},λp=>?_}
 .by_cases h:p<ts.length
  .rw[(Wy (Wp h)).1];exact HY (e _ (a h)).1
  .rw[(yZ h).1];decide+kernel
 .by_cases h:p<ts.length
  .rw[(Wy (Wp h)).2,List.length_map];exact Kk (e _ (a h))
  .rw[(yZ h).2];exact Gw _
 .rw[Vm]at b⊢;rw[(Wy (Wp b)).2]at c;obtain⟨s,i,rfl⟩:=List.mem_map.mp c;have:=Xv d (a b) s i;exists List.idxOf_lt_length_of_mem this;rw[R5 this];exact IZ i
 .rw[Vm]at b c;obtain⟨k,i⟩:=Wy (Wp b);obtain⟨l,j⟩:=Wy (Wp c);rw[k,l]at f;rw[i,j]at g;have:=qp (ts:=ts) (Xv d (a b)) (Xv d (a c)) (Fh f g);rw[<-R6 nd (Wp b),<-R6 nd (Wp c),this]
 .by_cases h:p<ts.length
  .have:=(e _ (a h)).2.1;ext
  .have:tg ts p=.mk Et []:=by unfold tg;rw[List.getD_eq_getElem?_getD,List.getElem?_eq_none (by ext)];rfl
   rw[this];simp[Th.depth,X6]
theorem oI{b:Bool}(h:("same":GY)=tw b):b=Gg:=by
 cases b with
 |true=>rfl
 |false=>exact absurd h (by decide+kernel)
theorem KA{b:Bool}(h:("unlike":GY)=tw b):b=Gq:=by
 cases b with
 |true=>exact absurd h (by decide+kernel)
 |false=>rfl
theorem kJ(R:hF ts ens tl){k:GY}(h:ens[j]?=Ga (k,p,q)):∃b,k=tw b/\tl[j]?=Ga (b,tg ts p,tg ts q):=by obtain⟨⟨b,s,t⟩,a,c,d,e⟩:=Qy R h;exact{b,c,by rw[a,Ur d,Ur e]}
theorem Ou(R:hF ts ens tl){b:Bool}{s:Th}(h:tl[j]?=Ga (b,s,t)):∃p q,ens[j]?=Ga (tw b,p,q)/\ts[p]?=Ga s/\ts[q]?=Ga t:=by
 have g:=Gr R;have c:j<ens.length:=by rw[g];exact(List.getElem?_eq_some_iff.mp h).1
 obtain⟨⟨i,k,l⟩,a,d,e,f⟩:=Qy R (List.getElem?_eq_getElem c);rw[h]at a;cases a;refine{ens[j].2.1,ens[j].2.2,?_,e,f};rw[List.getElem?_eq_getElem c,<-d]
theorem qx{c:List En}(R:hF ts ens tl)(g:∀p q,sme p q∈c↔sme p q∈ens):
  (∀a b,(Gg,a,b)∈tl->∃p q,(p,q)∈jI c/\ts[p]?=Ga a/\ts[q]?=Ga b)/\∀p q,(p,q)∈jI c->(Gg,tg ts p,tg ts q)∈tl:=by
 constructor
 .intro a b h;obtain⟨j,f⟩:=List.mem_iff_getElem?.mp h;obtain⟨p,q,e,d,i⟩:=Ou R f;exact{p,q,Uc.mpr ((g p q).mpr (List.mem_of_getElem? e)),d,i}
 .intro p q h;obtain⟨j,f⟩:=List.mem_iff_getElem?.mp ((g p q).mp (Uc.mp h));obtain⟨b,e,d⟩:=kJ R f;rw[oI e]at d;exact List.mem_of_getElem? d
theorem ub{b:Tl}(R:hF ts ens tl)(k:∀e∈ens,e.2.1∈x.S/\e.2.2∈x.S)(f:∀p∈x.S,∀q∈x.S,x.lead p=x.lead q↔Cg b (tg ts p) (tg ts q))(h:oU x ens Ge):∀a c,(Gq,a,c)∈tl->¬Cg b a c:=λa c n l=>by obtain⟨j,m⟩:=List.mem_iff_getElem?.mp n;obtain⟨p,q,d,g,i⟩:=Ou R m;obtain⟨o,r⟩:=k _ (List.mem_of_getElem? d);refine h j p q d ((f p o q r).mpr ?_);rw[Ur g,Ur i];exact l
theorem uQ{a:Tl}{n:Nat}(R:hF ts ens tl)(l:∀e∈ens,e.2.1∈x.S/\e.2.2∈x.S)(i:∀p∈x.S,∀q∈x.S,x.lead p=x.lead q↔Cg a (tg ts p) (tg ts q))(h:oU x ens (Ga n)):
  ∃p q,ens[n]?=Ga (unl p q)/\x.lead p=x.lead q/\p∈x.S/\q∈x.S/\oz tl a n (tg ts p) (tg ts q):=by
 obtain⟨⟨p,q,c,k⟩,v⟩:=h;obtain⟨s,u⟩:=l _ (List.mem_of_getElem? c);obtain⟨b,w,m⟩:=kJ R c;rw[KA w]at m;refine{p,q,c,k,s,u,m,(i p s q u).mp k,λj C D z d y=>?_};obtain⟨r,t,o,A,B⟩:=Ou R d;obtain⟨f,g⟩:=l _ (List.mem_of_getElem? o);refine v j r t z o ((i r f t g).mpr ?_);rw[Ur A,Ur B];exact y
structure iy(K:Gd)(mg:GY->Option Value)(C:Gc):Prop where
 cl:gC K C
 places:Yp K C "places"
 told:Yp K C "told"
 entries:Yp K C "entries"
 mgC:mg "Book"=Ga (.ref C)
 no:∃u,mg "NO_MOMENT"=Ga u/\zm (.str "no moment") u
structure zR(fs:List Fm)(x:Nn):Prop where
 inv:Wc (Yg fs) (Zo fs) x []
 fok:g8 fs x.S
 len:x.S.length<=60
 lk:x.links.length<64
 few:∀p,(Zo fs p).length<=100
inductive yP(P:Gi)(w:Gu)(C:Gc)(CP:Gc)(CB:Gc)(vs:List V)(H:Hp)(Q:VK):Prop
 |mk (bk:Gc) (p:Gc) (a:Gc) (f:Gc) (d:Gc) (t:Gc) (e:Gc) (ts:List Th) (tl:Tl) (n:Gc) (A:Na) (tb:Nat) (x:Nn) (ev:V) (k:GY) (p1:Nat) (p2:Nat) (h0:vs=[.ref bk,.ref n,ev]) (h1:Ua P w CP CB H bk p a f d t e ts tl) (h2:gT H ev (k,p1,p2)) (h3:Z7 P w C H n A (tfs ts) tb x) (h4:zR (tfs ts) x) (h5:p1∈x.S) (h6:p2∈x.S) (h7:x.lead p1=x.lead p2) (h8:∀(v:V)(ls:List Ln)(H':Hp),Qx H H'->Wk H' (λb=>∃o,H b=Ga o) v (ls.map (lth ts))->(∀l∈ls,l.1<ts.length/\l.2.1<ts.length)->hP (tfs ts) x.links ls->(∃r,ls.getLast?=Ga (p1,p2,r))->Q v H'):yP P w C CP CB vs H Q
def Oe(P:Gi)(w:Gu)(C b a:Gc):Sp:=λc H Q _=>yP P w C b a c H Q
section
variable{P:Gi}{w:Gu}{K:Gd}{mg:GY->Option Value}{base:Heap}
theorem Ua.same{i c:Gc}{H j:Hp}{bk p a f d t e:Gc}{l:List Th}{k:Tl}(B:Ua P w i c H bk p a f d t e l k)(g:Qx H j):Ua P w i c j bk p a f d t e l k:=by obtain⟨m,s⟩:=B.ob;obtain⟨x,u,v⟩:=B.to;obtain⟨r,b,n,o,q⟩:=B.en;exact{{m,g _ _ s},B.pl.same g,{x,g _ _ u,v.Ql (Qp.of g)},{r,b,g _ _ n,L2.Paired.Yb o λ_ _ h=>h.Ql (Qp.of g),q},B.ta,B.tf,B.te,B.ea,B.ef}
theorem zU:Qw ["self","net","entry"] ["self","net","entry"] (Qk qq):=by eq_refl
theorem KJ(F:Wj K "lines_for" "Book.lines_for" qq f0 fd)(h:iy K mg CB)(TP:gX K mg CP)(z:Qu P w K mg base Z5 6 fB fdB ["things","net","one","other"] (yK P w C))(R:KI K fB)(E:zk K fdB ["things","net","one","other"] [])(V:MG mg "lines_between" fB):
  Qu P w K mg base Z5 7 f0 fd ["self","net","entry"] (Oe P w C CP CB):=by
 refine F.ok zU (λvs A D y g=>?_) (λab e ac s A vs D y Q g=>?_)
 .obtain⟨i,p,a,J,d,t,I,u,tl,n,e,r,x,ev,k,m,o,rfl,_⟩:=g;rfl
 obtain⟨i,p,a,J,d,t,I,u,tl,n,e,r,x,ev,k,m,o,rfl,f,⟨c,rfl,l⟩,X,b,Z,qS,L,q⟩:=g;exists _,Qh (Qv (Zs z Q rfl V R E .nil Q5 (Qa (Qm (Qm (pv 0) rfl) rfl) (Qa (pv 1) (Qa (Qn Q3 (pv 2) Qj) (Qa (Qn Q3 (pv 2) Qj) Qe))))));obtain⟨H,W⟩:=f.ob;obtain⟨G,Y⟩:=f.pl.ob;obtain⟨us,u1,v⟩:=f.pl.th;refine{_,Xb,i,CB,H,_,_,Xb,W,h.cl,h.places,U9 _ _ _,p,CP,G,_,_,Xb,Y,TP.cl,TP.nT,PX _ _ _,_,Xb,_,Xb,c,_,_,_,Xb,Xb,Zz.of l,Rq _ _ _,_,Xb,c,_,_,_,Xb,Xb,Zz.of l,iw _ _ _ _,a,n,e,tfs u,r,x,us,m,o,Xb,X,b.inv,b.fok,Z,qS,L,b.len,b.lk,b.few,u1,by rw[Vm,v.length],λaa U B j N M O=>?_};obtain⟨S,T⟩:=Af (v.same j) N;exact q aa U B j S T M O
end
theorem gE.same{P:Gi}{w:Gu}{C:Gc}{b H a:Hp}{n:Gc}{A:Na}{c:List Fm}{d:Nat}{x:Nn}(N:gE P w C b H n A c d x)(g:Qx H a):gE P w C b a n A c d x:={N.at_.same g,N.inv,N.fok,N.new,N.nn,N.sam.trans g,N.len,N.tt,N.cl,N.tbb}
theorem gE.lng(N:gE P w C H0 H n A fs tb x)(a:∀p,(Zo fs p).length<=100):zR fs x:={N.inv,N.fok,N.len,by have:=N.cl;have:=N.len;lia,a}
theorem gE.room(N:gE P w C H0 H n A fs tb x):x.S.length<=10000/\Ud x<=10000/\cls x+x.links.length<=10000/\tb+cls x*Ud x<=900000:=by
 have b:=N.len;have a:=N.tt;have c:=N.cl;have d:=N.tbb;have e:x.links.length*Ud x+cls x*Ud x<=60*6000:=by rw[<-El];exact Ma (by lia) a
 exact{by lia,by lia,by lia,by lia}
inductive vI(P:Gi)(w:Gu)(CP:Gc)(CB:Gc)(vs:List V)(H:Hp)(Q:VK):Prop
 |mk (bk:Gc) (p:Gc) (a:Gc) (f:Gc) (d:Gc) (t:Gc) (e:Gc) (ts:List Th) (tl:Tl) (U:List Th) (ev:V) (p1:Nat) (p2:Nat) (h0:vs=[.ref bk,ev]) (h1:Ua P w CP CB H bk p a f d t e ts tl) (h2:iu U ts tl) (h3:gT H ev (("ask":GY),p1,p2)) (h4:p1<ts.length) (h5:p2<ts.length) (h6:∀(v:V)(H':Hp),Qx H H'->Ih H' (λb=>∃o,H b=Ga o) tl (.ask (tg ts p1) (tg ts p2)) v->Q v H'):vI P w CP CB vs H Q
variable{w:GY}
def tr(P:Gi)(w:Gu)(b a:Gc):Sp:=λc H Q _=>vI P w b a c H Q
theorem vb(R:hF ts ens tl):∀e∈ens,e.2.1<ts.length/\e.2.2<ts.length:=λe c=>by obtain⟨j,d⟩:=List.mem_iff_getElem?.mp c;obtain⟨y,_,_,a,b⟩:=Qy R d;exact{(List.getElem?_eq_some_iff.mp a).1,(List.getElem?_eq_some_iff.mp b).1}
theorem ng(h:∃r,ls.getLast?=Ga (p,q,r)):∃r,(ls.map (lth ts)).getLast?=Ga (tg ts p,tg ts q,r):=by obtain⟨r,h⟩:=h;exact{r,by rw[List.getLast?_map,h];rfl}
section
variable{P:Gi}{w:Gu}{K:Gd}{mg:GY->Option Value}{base:Heap}
theorem wF:Qw ["self","entry","net","apart","number"] ["self","entry"] (Qk hY):=by eq_refl
theorem KP{fE fM:Gc}{au av ar:Tp}(F:Wj K "ask" "Book.ask" hY f0 fd)(v:iy K mg CB)(TP:gX K mg CP)(TN:Um K mg C)
  (GN:Qu P w K mg base Z5 61 fN fdN ["forms","told"] (og P w C))(kN:KI K fN)(bN:zk K fdN ["forms","told"] [])(mN:MG mg "net_of" fN)
  (mE:Yc K C "equal" fE)(GE:Qu P w K mg base Z5 1 fE au ["self","one","other"] (lM P w C))(bE:zk K au ["self","one","other"] [])(mR:Yc K C "rows" fR)(GR:Qu P w K mg base Z5 2 fR fdR ["self"] (rK P w C))(bR:zk K fdR ["self"] [])
  (mM:Yc K C "merge" fM)(GM:Qu P w K mg base Z5 4 fM av ["self","one","other","reason"] (nE P w C))(bM:zk K av ["self","one","other","reason"] [])
  (GC:Qu P w K mg base Z5 2 fC ar ["net","entries"] (mw P w C))(kC:KI K fC)(bC:zk K ar ["net","entries"] [])(mC:MG mg "least_clash" fC)
  (mL:Yc K CB "lines_for" fL)(GL:Qu P w K mg base Z5 7 fL fdL ["self","net","entry"] (Oe P w C CP CB))(bL:zk K fdL ["self","net","entry"] []):
  Qu P w K mg base Z5 62 f0 fd ["self","entry"] (tr P w CP CB):=by
 refine F.ok wF (λS Y M H b=>?_) (λX N Z s Y S M H hr b=>?_)
 .obtain⟨I,p,a,ad,d,t,i,h,Q,T,ev,f,g,rfl,_⟩:=b;rfl
 obtain⟨I,p,a,ad,d,t,i,h,Q,T,ev,f,g,rfl,O,FW,⟨k,rfl,aa⟩,ax,ay,q⟩:=b;have aQ:Yd 1 _:=hr.mono (by lia);have al:Yd 2 _:=hr.mono (by lia);have aS:Yd 4 _:=hr.mono (by lia);have az:Yd 7 _:=hr.mono (by lia);have nd:=wF.nd;show∃t,Ik ?my _ t/\_;let w7:Xf ?my hY 6:={_,Qh (Qv (Za (Qa Q7 (Qa (pv 3) (Qa (wI (pv 2) TN.cl mR GR al bR .nil Q5) Qe)))))}
 let w6:Xf ?my hY 5:=⟨_,Qd (Zq (Qr jy (pv 4) Ux (Q4 _))
   (Qh (Qv (Za (Qa Q7 (Qa (pv 4) (Qa (Zf (pv 0) v.cl mL GL az bL .nil Q5 (Qa (pv 2) (Qa (Qn Ze (Qm (pv 0) rfl) (pv 4)) Qe))) Qe)))))) Q6) w7.2⟩
 let w5:Xf ?my hY 4:={_,Qd (Qt 4 nd (Zs GC al rfl mC kC bC .nil Q5 (Qa (pv 2) (Qa (Qm (pv 0) rfl) Qe)))) w6.2}
 let w4:Xf ?my hY 3:={_,Qd (Zc (Zf (pv 2) TN.cl mM GM aS bM .nil Q5 (Qa (Qn Q3 (pv 1) Qj) (Qa (Qn Q3 (pv 1) Qj) (Qa (Za (Qa Q7 Qe)) Qe))))) w5.2}
 let w3:Xf ?my hY 2:={_,Qd (Qt 3 nd (wI (pv 2) TN.cl mR GR al bR .nil Q5)) w4.2}
 let w2:Xf ?my hY 1:=⟨_,Qd (Zq (Wb (Zf (pv 2) TN.cl mE GE aQ bE .nil Q5 (Qa (Qn Q3 (pv 1) Qj) (Qa (Qn Q3 (pv 1) Qj) Qe))))
   (Qh (Qv (Za (Qa Q7 (Qa (Zf (pv 0) v.cl mL GL az bL .nil Q5 (Qa (pv 2) (Qa (pv 1) Qe))) Qe))))) Q6) w3.2⟩
 exists _,Qd (Qt 2 nd (Zs GN hr rfl mN kN bN .nil Q5 (Qa (Qm (Qm (pv 0) rfl) rfl) (Qa (Zh Ue (Qm (pv 0) rfl) (Zl (Qa (pv 1) Qe))) Qe)))) w2.2;obtain⟨dx,o1⟩:=O.ob;obtain⟨dp,o2⟩:=O.pl.ob;obtain⟨ws,f1,f2⟩:=O.pl.fo;obtain⟨D,B,e1,e2,R⟩:=O.en;have ab:=O.pl.nd;have U:=O.pl.cl;have aG:=FW.le ab;obtain⟨TK,aZ⟩:=xS ab U (λt H=>FW.good t (FW.sub t H)) aG;have a3:D.length=Q.length:=(Gr e2).trans (Gr R);have a4:=FW.tl;refine{_,Xb,I,CB,dx,_,_,Xb,o1,v.cl,v.places,U9 _ _ _,p,CP,dp,_,_,Xb,o2,TP.cl,TP.nF,vF _ _ _,_,Xb,I,CB,dx,_,_,Xb,o1,v.cl,v.entries,Uh _ _ _,_,Xb,by show 1<=Gj;decide,λr0 aP=>?_};have s0:=Qf aP (.lst [.ref k]);refine{i,r0,D,[.ref k],Xb,Xb,s0 _ _ e1,Qb,by rw[Gz];simp only[List.length_singleton];lia,λr1 aR=>?_};have s1:=s0.trans (Qf aR (.lst (D++[.ref k])));have g1:(zj (zj Y r0 (.lst [.ref k])) r1 (.lst (D++[.ref k]))) r1=Ga (.lst (D++[.ref k])):=Qb;generalize zj (zj Y r0 (.lst [.ref k])) r1 (.lst (D++[.ref k]))=H1 at s1 g1;have aq:=Qp.of s1;have aD:Paired (gT H1) (D++[.ref k]) (B++[(("ask":GY),f,g)]):=DN (L2.Paired.Yb e2 λ_ _ b=>b.Ql aq) {k,Xb,aq _ _ aa};refine{ad,r1,ws,_,tfs h,_,_,Xb,s1 _ _ f1,L2.Paired.Yb f2 λ_ _ b=>b.Ql aq,g1,aD,TK,by rw[Vm];exact aG,aZ,λA aj=>?_,by rw[<-Gr aD,List.length_append,List.length_singleton];lia,λn N tb x H2 j _ T=>?_}
 .rw[Vm];rcases List.mem_append.mp aj with b|b
  .exact vb R A b
  .have:A=(("ask":GY),f,g):=by simpa using b
   rw[this];exact⟨ax,ay⟩
 have G:Qx Y H2:=s1.trans j.sam;have o:∀p q,sme p q∈B++[(("ask":GY),f,g)]↔sme p q∈B:=λp q=>by
  rw[List.mem_append];constructor
  .rintro(b|b)
   .exact b
   .rw[List.mem_singleton]at b;exact absurd (show("same":GY)="ask"from congrArg (·.1) b) (by decide+kernel)
  .exact .inl
 obtain⟨aE,aF⟩:=qx R o;have EQ:=yv T;have af:∀p∈x.S,∀q∈x.S,x.lead p=x.lead q↔Cg Q (tg h p) (tg h q):=λp hp q hq=>EQ.cg ab U j.inv j.fok aE aF hp hq;have aH:∀a e n,(a,e,Ga (.told n))∈x.links->Q[n]?=Ga (Gg,tg h a,tg h e):=λa e n b=>by
  rcases T.rsn _ b with z|⟨aB,p',q',E,l⟩
  .cases z
  .cases E;have hj:n<B.length:=by
    rcases Tn n B.length with b|b
    .exact b
    .rw[List.getElem?_append_right b]at l;have:n - B.length=0:=by
      rcases Tn (n - B.length) 1 with H|H
      .lia
      .rw[List.getElem?_eq_none (by simpa using H)]at l;cases l
     rw[this]at l;have l:((("ask":GY),f,g):En)=sme a e:=by simpa using l
     exact absurd (show("ask":GY)="same"from congrArg (·.1) l) (by decide+kernel)
   rw[List.getElem?_append_left hj]at l;obtain⟨S,h3,M⟩:=kJ R l;rw[oI h3]at M;exact M
 have aC:∀a e,¬(a,e,Ga Jl.asked)∈x.links:=λa e b=>by
  rcases T.rsn _ b with z|⟨aB,p',q',E,l⟩
  .cases z
  .cases E
 obtain⟨J,L⟩:=T.ins (("ask":GY),f,g) (by simp);have J:f∈x.S:=J;have L:g∈x.S:=L;have aA:∀A∈B,A.2.1∈x.S/\A.2.2∈x.S:=λA aj=>T.ins A (List.mem_append_left _ aj);obtain⟨dn,on⟩:=j.at_.ob;exists _,Xb,n,dn,_,Xb,on,oV _,_,Xb,k,_,_,_,Xb,Xb,Zz.of (G _ _ aa),Rq _ _ _,_,Xb,k,_,_,_,Xb,Xb,Zz.of (G _ _ aa),iw _ _ _ _,n,N,_,tb,x,f,g,Xb,j.at_,J,L,_,Xb;by_cases ac:x.lead f=x.lead g
 .rw[Tc ac];refine Y0 ?_;have hC:=(af f J g L).mp ac;refine{_,Xb,I,dx,_,Xb,G _ _ o1,Iq _ _ _,_,Xb,_,Xb,I,p,a,ad,d,t,i,h,Q,n,N,tb,x,.ref k,_,f,g,Xb,O.same G,{k,Xb,G _ _ aa},j.at_,j.lng TK.few,J,L,ac,λlv ls H3 g3 hl hb hg ak=>?_};refine{by show 2<=Gj;decide,λM S=>?_};have H:=Qf S (.tup [.str "equal",lv]);refine q _ _ ((G.trans g3).trans H) (.inl {hC,M,lv,ls.map (lth h),Xb,Qb,(hl.ex (by rintro c r _ o ⟨m,W⟩;exact o {m,G _ _ W})).kp (Qp.of H) (λi _=>H _ _ i),mY U hg hb aH (λa e b=>absurd b (aC a e)),ng ak})
 .rw[GQ ac];refine Zu ?_;have hC:¬Cg Q (tg h f) (tg h g):=λz=>ac ((af f J g L).mpr z);refine{_,Xb,n,dn,_,Xb,on,ri _,n,N,_,tb,x,Xb,j.at_,j.fok,j.inv,by have:=j.len;lia,λv1 a0 H3 g3 aT W1=>?_};have S3:=G.trans g3;have N3:=j.same g3;refine{_,Xb,n,dn,_,Xb,g3 _ _ on,qB _,_,Xb,k,_,_,_,Xb,Xb,Zz.of (S3 _ _ aa),Rq _ _ _,_,Xb,k,_,_,_,Xb,Xb,Zz.of (S3 _ _ aa),iw _ _ _ _,by show 1<=Gj;decide,λc4 aL=>?_};have s4:=Qf aL (.tup [.str "asked"]);have N4:=N3.same s4;obtain⟨z1,z2,z3,z4⟩:=j.room;refine{n,N,_,tb,x,f,g,.ref c4,Ga .asked,Xb,N4.at_,j.fok,⟨c4,Xb,Qb⟩,by simp,J,L,j.inv,z1,z2,z3,z4,λM H5 Y5 M5 F5=>?_};have Z:=N4.merged Y5 M5 F5;have S5:Qx Y H5:=s1.trans Z.sam;have aI:=SC EQ M5 J L;have eS:=M5.S;have ag:∀p∈M.S,∀q∈M.S,M.lead p=M.lead q↔Cg (Q++[(Gg,tg h f,tg h g)]) (tg h p) (tg h q):=λp hp q hq=>aI.cg ab U Z.inv Z.fok (λa e b=>by
   rcases List.mem_append.mp b with b|b
   .obtain⟨u,ae,E,l⟩:=aE a e b;exact{u,ae,List.mem_append_left _ E,l}
   .have:(Gg,a,e)=(Gg,tg h f,tg h g):=by simpa using b
    cases this;exact{f,g,by simp,Wp ax,Wp ay}) (λu ae b=>by
   rcases List.mem_append.mp b with b|b
   .exact List.mem_append_left _ (aF u ae b)
   .have:(u,ae)=(f,g):=by simpa using b
    cases this;simp) hp hq
  have am:∀A∈B,A.2.1∈M.S/\A.2.2∈M.S:=by rw[eS];exact aA
  refine{_,Xb,_,Xb,I,CB,dx,_,_,Xb,S5 _ _ o1,v.cl,v.entries,Uh _ _ _,n,i,N,_,_,M,D,B,Xb,Z.at_,S5 _ _ e1,L2.Paired.Yb e2 λ_ _ b=>b.Ql (Qp.of S5),am,λm H6 g6 aw=>?_};have H:=S5.trans g6;have S:=Z.same g6;have a2:∀{c:Gc}{r:List V},H3 c=Ga (.tup r)->H6 c=Ga (.tup r):=λ{c r}ec=>g6 _ _ (F5.keep _ _ (s4 _ _ ec) (N4.at_.qu (s4 _ _ ec)));have aX:∀{c:Gc}{r:List V},H3 c=Ga (.lst r)->¬(∃m,H2 c=Ga m)->H6 c=Ga (.lst r):=λ{c r}ec o=>g6 _ _ (F5.keep _ _ (s4 _ _ ec) (λz=>o (by have:=j.at_.own z;rcases this with⟨_,b⟩|⟨_,b⟩|⟨_,b⟩|⟨_,b⟩<;>exact⟨_,b⟩)))
  have aU:=(aT.kp a2 aX).ex (Y:=λe=>∃m,Y e=Ga m) (by rintro c r _ o ⟨m,W⟩;exact o {m,G _ _ W});exists _,Xb,Xb,_,Xb;rw[lb];cases m with
  |some an=>
   refine Y0 ?_;obtain⟨p',q',E,l,ao,ap,aN⟩:=uQ R am ag aw;have hm:an<D.length:=by rw[Gr e2];exact(List.getElem?_eq_some_iff.mp E).1
   obtain⟨y,hy,aW⟩:=Qy e2 (List.getElem?_eq_getElem hm);rw[E]at hy;cases hy;obtain⟨cm,aK,aM⟩:=aW;refine{_,Xb,_,Xb,I,dx,_,Xb,H _ _ o1,Iq _ _ _,_,Xb,_,Xb,I,CB,dx,_,_,Xb,H _ _ o1,v.cl,v.entries,Uh _ _ _,_,Xb,i,D,_,_,Xb,Xb,Zb.of (H _ _ e1),Qz (List.getElem?_eq_getElem hm),I,p,a,ad,d,t,i,h,Q,n,N,_,M,_,_,p',q',Xb,O.same H,{cm,aK,H _ _ aM},S.at_,S.lng TK.few,ao,ap,l,λlv ls H7 g7 hl hb hg ak=>?_};refine{by show 3<=Gj;decide,λc8 ai=>?_};have X:=Qf ai (.tup [.str "unlike",jv an,lv]);refine q _ _ ((H.trans g7).trans X) (.inr (.inl {hC,c8,an,_,_,lv,ls.map (lth h),Xb,Qb,aN,(hl.ex (by rintro c r _ o ⟨m,W⟩;exact o {m,H _ _ W})).kp (Qp.of X) (λi _=>X _ _ i),mY U hg hb (λa e n b=>?_) (λa e b=>?_),ng ak}))
   .rcases M5.rsn _ b with z|z|z
    .exact aH a e n z
    .cases z
    .cases z
   .rcases M5.rsn _ b with z|z|z
    .exact absurd z (aC a e)
    .cases z;rfl
    .cases z
  |none=>refine Zu ?_;have aO:=ub R am ag aw;obtain⟨aJ,aY⟩:=S.at_.ob;refine{_,Xb,_,Xb,n,aJ,_,Xb,aY,ri _,n,N,_,_,M,Xb,S.at_,S.fok,S.inv,by have:=S.len;lia,λv2 a1 H7 g7 aV W2=>?_};refine{by show 3<=Gj;decide,λc8 ai=>?_};have X:=Qf ai (.tup [.str "open",v1,v2]);have ah:=g7.trans X;refine q _ _ (H.trans ah) (.inr (.inr {hC,aO,c8,v1,v2,a0,a1,x.S.map (tg h),Xb,Qb,aU.kp (λi=>ah _ _ i) (λi _=>ah _ _ i),(aV.ex (by rintro c r _ o ⟨m,W⟩;exact o {m,H _ _ W})).kp (λi=>X _ _ i) (λi _=>X _ _ i),yz ab U j.fok W1 af,by rw[<-eS];exact yz ab U Z.fok W2 ag,List.mem_map.mpr ⟨f,J,Xb⟩,List.mem_map.mpr ⟨g,L,Xb⟩,λe a c hm=>?_}));obtain⟨aB,hj⟩:=List.mem_iff_getElem?.mp hm;obtain⟨p',q',E,l,h3⟩:=Ou R hj;obtain⟨ao,ap⟩:=aA _ (List.mem_of_getElem? E);exact{List.mem_map.mpr {p',ao,Ur l},List.mem_map.mpr {q',ap,Ur h3}}
end
theorem uE(a:List V){i:Int}(b:0<=i)(b:i<=(a.length:Int)):Ul a Ge (Ga i)=a.take i.toNat:=by
 unfold Ul;rw[HT.Iz];have:HT.Wr a.length a.length (Ga i)=i.toNat:=by show(if i<0 then(i+(a.length:Int)).toNat else min i.toNat a.length)=_;rw[Gh (by lia)];lia
 rw[this];simp
theorem y7(a f d p t e:Gc){c g b:Gc}:HO.ins C g (Rb a f d)=HO.ins c b (Wx p t e)->False:=λz=>by injection z with _ _ z;unfold Rb Wx at z;injection z with z _;injection z with z _;exact absurd z (by decide+kernel)
theorem BJ(R:hF ts ens tl)(k:Nat):hF ts (ens.take k) (tl.take k):=by
 induction R generalizing k with
 |nil=>simp;exact .nil
 |cons h t a=>
  cases k with
  |zero=>exact .nil
  |succ k=>exact .cons h (a k)
theorem Uu{c:Type}{F:α->c->Prop}{a:List α}{b:List c}(R:Paired F a b)(k:Nat):Paired F (a.take k) (b.take k):=by
 induction R generalizing k with
 |nil=>simp;exact .nil
 |cons h t d=>
  cases k with
  |zero=>exact .nil
  |succ k=>exact .cons h (d k)
structure tz(bk t:Gc)(H H':Hp):Prop where
 keep:∀b o,H b=Ga o->b≠bk->b≠t->H' b=Ga o
 there:∀b,H' b=Ge->H b=Ge
variable{p:Gc}
inductive yD(P:Gi)(w:Gu)(CP:Gc)(CB:Gc)(vs:List V)(H:Hp)(Q:VK):Prop
 |mk (bk:Gc) (p:Gc) (a:Gc) (f:Gc) (d:Gc) (t:Gc) (e:Gc) (ts:List Th) (tl:Tl) (U:List Th) (dv:V) (ev:V) (b:Bool) (p1:Nat) (p2:Nat) (h0:vs=[.ref bk,dv,ev]) (h1:Ua P w CP CB H bk p a f d t e ts tl) (h2:iu U ts tl) (h3:hE H dv (.tell b (tg ts p1) (tg ts p2))) (h4:gT H ev (tw b,p1,p2)) (h5:p1<ts.length) (h6:p2<ts.length) (h7:∀(v:V)(e':Gc)(H':Hp),Ua P w CP CB H' bk p a f d t e' ts (Vt tl (.tell b (tg ts p1) (tg ts p2))).1->Ih H' (λb=>∃o,H b=Ga o) tl (.tell b (tg ts p1) (tg ts p2)) v->tz bk t H H'->(e'=e\/H e'=Ge)->Q v H'):yD P w CP CB vs H Q
def vg(P:Gi)(w:Gu)(b a:Gc):Sp:=λc H Q _=>yD P w b a c H Q
inductive xE(P:Gi)(w:Gu)(CP:Gc)(CB:Gc)(vs:List V)(H:Hp)(Q:VK):Prop
 |mk (bk:Gc) (p:Gc) (a:Gc) (f:Gc) (d:Gc) (t:Gc) (e:Gc) (ts:List Th) (tl:Tl) (i:Int) (h0:vs=[.ref bk,.int i]) (h1:Ua P w CP CB H bk p a f d t e ts tl) (h2:∀(v:V)(t' e':Gc)(H':Hp),Ua P w CP CB H' bk p a f d t' e' ts (Vt tl (.back i)).1->v=(Vt tl (.back i)).2->tz bk bk H H'->(t'=t\/H t'=Ge)->(e'=e\/H e'=Ge)->Q v H'):xE P w CP CB vs H Q
def xI(P:Gi)(w:Gu)(b a:Gc):Sp:=λc H Q _=>xE P w b a c H Q
section
variable{P:Gi}{w:Gu}{K:Gd}{mg:GY->Option Value}{base:Heap}
theorem xu:Qw ["self","moment","forgotten"] ["self","moment"] (Qk Jm):=by eq_refl
theorem Ab(F:Wj K "go_back" "Book.go_back" Jm f0 fd)(h:iy K mg CB)(B0:Ii mg):Qu P w K mg base Z5 1 f0 fd ["self","moment"] (xI P w CP CB):=by
 refine F.ok xu (λn o Q ab c=>?_) (λaf ae ai s o n Q ab hr c=>?_)
 .obtain⟨e,p,a,V,d,t,b,ts,I,i,rfl,_⟩:=c;rfl
 obtain⟨e,p,a,V,d,t,b,ts,I,i,rfl,k,q⟩:=c;obtain⟨nu,n1,n2⟩:=h.no;have nd:=xu.nd;show∃t,Ik ?my _ t/\_;let w5:Xf ?my Jm 4:={_,Qh (Qv (pv 2))}
 let w4:Xf ?my Jm 3:={_,Qd (Yw (pv 0) (Yo Jv (Qm (pv 0) rfl) Xt (Yu (pv 1))) rfl) w5.2}
 let w3:Xf ?my Jm 2:={_,Qd (Yw (pv 0) (Yo Jv (Qm (pv 0) rfl) Xt (Yu (pv 1))) rfl) w4.2}
 let w2:Xf ?my Jm 1:={_,Qd (Zq (PW.pt (Rx (Qr Rv (pv 1) Qj (Q4 _)) (Ia (Qr Rv (pv 2) Qj (Q4 _))))) (Qh (Qv (Ot rfl n1 n2))) Q6) w3.2}
 exists _,Qd (Qt 2 nd (Zh kQ (Qo Zg rfl B0.len GX (Qa (Qm (pv 0) rfl) Qe)) (pv 1))) w2.2;obtain⟨l,g⟩:=k.ob;obtain⟨dp,op⟩:=k.pl.ob;obtain⟨n,t1,t2⟩:=k.to;obtain⟨C,ag,T,U,R⟩:=k.en;have lv:=Gr t2;have le:=(Gr U).trans (Gr R);exists _,Xb,e,CB,l,_,_,Xb,g,h.cl,h.told,pC _ _ _,t,n,Xb,.inl (Zb.of t1),_,Xb,_,_,Xb,Xb;exists _,Xb,_,_,Xb,Xb,_,Xb;have no:¬(0<=i/\i<=(I.length:Int))->Q (.str "no moment") o:=λc=>q _ t b o (by simp only[Vt];rw[Gh c];exact k) (by simp only[Vt];rw[Gh c]) {λ_ _ b _ _=>b,λ_ c=>c} (.inl Xb) (.inl Xb);by_cases Y:i<0
 .rw[Tc Y];refine Y0 (Y0 ?_);exact no (λz=>by ext)
 rw[GQ Y];refine Zu {_,Xb,_,_,Xb,Xb,_,Xb,?_};by_cases X:(n.length:Int) - i<0
 .rw[Tc X];refine Y0 ?_;exact no (λz=>by ext)
 rw[GQ X];refine Zu ?_;have D:0<=i:=by ext
 have W:i<=(I.length:Int):=by ext
 refine{_,Xb,e,CB,l,_,_,Xb,g,h.cl,h.told,pC _ _ _,_,Xb,_,Xb,t,n,Xb,Zb.of t1,λm A=>?_};rw[uE n D (by ext)];have N:=Qf A (.lst (n.take i.toNat));exists _,Xb,e,CB,l,_,Xb,N _ _ g,h.cl,h.told,(by show 3<1000;decide);rw[JQ];have S:e≠m:=Qc g A;have be:b≠e:=Ye T g nofun;generalize E:zj (zj o m (.lst (n.take i.toNat))) e (.ins CB l (Wx p m b))=x;have G:∀{f j},o f=Ga j->f≠e->x f=Ga j:=λb c=>by rw[<-E];exact Qi (N _ _ b) c
 have M:x e=Ga (.ins CB l (Wx p m b)):=by rw[<-E];exact Qb
 have aa:x m=Ga (.lst (n.take i.toNat)):=by rw[<-E];exact Qi Qb (Gp S)
 have Z:∀{f},x f=Ge->o f=Ge:=λ{f}c=>by rw[<-E]at c;exact N.free (Z0 c)
 refine{_,Xb,e,CB,l,_,_,Xb,M,h.cl,h.entries,Uh _ _ _,_,Xb,_,Xb,b,C,Xb,Zb.of (G T be),λr u=>?_};rw[uE C D (by ext)];have H:=Qf u (.lst (C.take i.toNat));exists _,Xb,e,CB,l,_,Xb,H _ _ M,h.cl,h.entries,(by show 3<1000;decide);rw[xf];have ac:e≠r:=Qc M u;have ad:m≠r:=Qc aa u;generalize y:zj (zj x r (.lst (C.take i.toNat))) e (.ins CB l (Wx p m r))=B;have v:∀{f j},o f=Ga j->f≠e->B f=Ga j:=λb c=>by rw[<-y];exact Qi (H _ _ (G b c)) c
 have O:Qp o B:=λf xs b=>v b (Ye b g nofun);obtain⟨us,J,_⟩:=k.pl.th;obtain⟨ws,L,_⟩:=k.pl.fo;obtain⟨ah,d1,_⟩:=k.pl.kn;have BK:Ua P w CP CB B e p a V d m r ts (I.take i.toNat):=by
  exists {l,by rw[<-y];exact Qb},k.pl.keep (λj b=>v b (Ye op g (y7 _ _ _ _ _ _))) (λj b=>v b (Ye J g nofun)) (λj b=>v b (Ye L g nofun)) (λj b=>v b (Ye d1.at_ g nofun)) O,{_,by rw[<-y];exact Qi (H _ _ aa) (Gp S),Vr.Ql O (Uu t2 _)},{_,_,by rw[<-y];exact Qi Qb (Gp ac),L2.Paired.Yb (Uu U _) λ_ _ c=>c.Ql O,BJ R _},Gp (Qc J A),Gp (Qc L A),ad,?_
  .exact Gp (Qc (G J (Ye J g nofun)) u)
  .exact Gp (Qc (G L (Ye L g nofun)) u)
 refine{_,Xb,q _ m r B (by simp only[Vt];rw[Gn ⟨D,W⟩];exact BK) (by simp only[Vt];rw[Gn ⟨D,W⟩,lv]) {λf j b c _=>v b c,λf c=>Z (by rw[<-y]at c;exact H.free (Z0 c))} (.inr A) (.inr (Z u))}
theorem yE:Qw ["self","deed","entry","entries","net","number"] ["self","deed","entry"] (Qk O1):=by eq_refl
theorem JI{ai:Tp}(F:Wj K "tell" "Book.tell" O1 f0 fd)(B:iy K mg CB)(TP:gX K mg CP)(B0:Ii mg)
  (GN:Qu P w K mg base Z5 61 fN fdN ["forms","told"] (og P w C))(kN:KI K fN)(bN:zk K fdN ["forms","told"] [])(mN:MG mg "net_of" fN)
  (GC:Qu P w K mg base Z5 2 fC ai ["net","entries"] (mw P w C))(kC:KI K fC)(bC:zk K ai ["net","entries"] [])(mC:MG mg "least_clash" fC)
  (mL:Yc K CB "lines_for" fL)(GL:Qu P w K mg base Z5 7 fL fdL ["self","net","entry"] (Oe P w C CP CB))(bL:zk K fdL ["self","net","entry"] []):
  Qu P w K mg base Z5 62 f0 fd ["self","deed","entry"] (vg P w CP CB):=by
 refine F.ok yE (λY H N L f=>?_) (λO ac X s H Y N L hr f=>?_)
 .obtain⟨l,p,a,aa,d,t,e,g,r,G,dv,ev,b,D,E,rfl,_⟩:=f;rfl
 obtain⟨l,p,a,aa,d,t,e,g,r,G,dv,ev,b,D,E,rfl,h,Z,az,⟨j,rfl,ay⟩,aF,aG,q⟩:=f;have aI:Yd 2 _:=hr.mono (by lia);have aJ:Yd 7 _:=hr.mono (by lia);have nd:=yE.nd;show∃t,Ik ?my _ t/\_;let w7:Xf ?my O1 6:={_,Qh (Qv (Qo Zg rfl B0.len GX (Qa (pv 3) Qe)))}
 let w6:Xf ?my O1 5:={_,Qd (Yw (pv 0) (pv 3) rfl) w7.2}
 let w5:Xf ?my O1 4:={_,Qd (Zc (Xk Gs Gy GJ Zr (Qm (pv 0) rfl) (Qa (pv 1) Qe))) w6.2}
 let w4:Xf ?my O1 3:=⟨_,Qd (Zq (Qr jy (pv 5) Ux (Q4 _))
   (Qh (Qv (Za (Qa Q7 (Qa (pv 5) (Qa (Zf (pv 0) B.cl mL GL aJ bL .nil Q5 (Qa (pv 4) (Qa (Qn Ze (pv 3) (pv 5)) Qe))) Qe)))))) Q6) w5.2⟩
 let w3:Xf ?my O1 2:={_,Qd (Qt 5 nd (Zs GC aI rfl mC kC bC .nil Q5 (Qa (pv 4) (Qa (pv 3) Qe)))) w4.2}
 let w2:Xf ?my O1 1:={_,Qd (Qt 4 nd (Zs GN hr rfl mN kN bN .nil Q5 (Qa (Qm (Qm (pv 0) rfl) rfl) (Qa (pv 3) Qe)))) w3.2}
 exists _,Qd (Qt 3 nd (Zh Ue (Qm (pv 0) rfl) (Zl (Qa (pv 2) Qe)))) w2.2;obtain⟨J,k⟩:=h.ob;obtain⟨dp,o2⟩:=h.pl.ob;obtain⟨ws,f1,f2⟩:=h.pl.fo;obtain⟨us,u1,_⟩:=h.pl.th;obtain⟨aX,d1,_⟩:=h.pl.kn;obtain⟨Y,T,t2⟩:=h.to;obtain⟨v,ah,e1,e2,R⟩:=h.en;have ae:=h.pl.nd;have ad:=h.pl.cl;have ao:=Z.le ae;obtain⟨TK,aQ⟩:=xS ae ad (λt L=>Z.good t (Z.sub t L)) ao;have aA:v.length=r.length:=(Gr e2).trans (Gr R);have aW:Y.length=r.length:=Gr t2;have aV:=Z.tl;refine{_,Xb,l,CB,J,_,_,Xb,k,B.cl,B.entries,Uh _ _ _,_,Xb,by show 1<=Gj;decide,λr0 aH=>?_};have s0:=Qf aH (.lst [.ref j]);refine{e,r0,v,[.ref j],Xb,Xb,s0 _ _ e1,Qb,by rw[Gz];simp only[List.length_singleton];lia,λi ak=>?_};have W:H i=Ge:=s0.free ak;have S:=s0.trans (Qf ak (.lst (v++[.ref j])));have g1:(zj (zj H r0 (.lst [.ref j])) i (.lst (v++[.ref j]))) i=Ga (.lst (v++[.ref j])):=Qb;generalize zj (zj H r0 (.lst [.ref j])) i (.lst (v++[.ref j]))=H1 at S g1;have af:=Qp.of S;have Q:Paired (gT H1) (v++[.ref j]) (ah++[(tw b,D,E)]):=DN (L2.Paired.Yb e2 λ_ _ f=>f.Ql af) {j,Xb,af _ _ ay};have M:hF g (ah++[(tw b,D,E)]) (r++[(b,tg g D,tg g E)]):=DN R {Xb,Wp aF,Wp aG};refine{_,Xb,l,CB,J,_,_,Xb,S _ _ k,B.cl,B.places,U9 _ _ _,p,CP,dp,_,_,Xb,S _ _ o2,TP.cl,TP.nF,vF _ _ _,_,Xb,aa,i,ws,_,tfs g,_,_,Xb,S _ _ f1,L2.Paired.Yb f2 λ_ _ f=>f.Ql af,g1,Q,TK,by rw[Vm];exact ao,aQ,λen aB=>by rw[Vm];exact vb M en aB,by rw[<-Gr Q,List.length_append,List.length_singleton];lia,λn ac tb x H2 I _ G=>?_};have S2:Qx H H2:=S.trans I.sam;obtain⟨aR,aS⟩:=qx M (λp q=>Iff.rfl);have EQ:=yv G;have ag:∀p∈x.S,∀q∈x.S,x.lead p=x.lead q↔Cg (r++[(b,tg g D,tg g E)]) (tg g p) (tg g q):=λp hp q hq=>EQ.cg ae ad I.inv I.fok aR aS hp hq;have aT:∀a b' n,(a,b',Ga (.told n))∈x.links->(r++[(b,tg g D,tg g E)])[n]?=Ga (Gg,tg g a,tg g b'):=λa b' n f=>by
  rcases G.rsn _ f with z|⟨aL,p',q',m,A⟩
  .cases z
  .cases m;obtain⟨O,N,L⟩:=kJ M A;rw[oI N]at L;exact L
 have aM:∀a b,¬(a,b,Ga Jl.asked)∈x.links:=λa b f=>by
  rcases G.rsn _ f with z|⟨aL,p',q',m,A⟩
  .cases z
  .cases m
 refine{_,Xb,_,Xb,n,i,ac,_,tb,x,_,_,Xb,I.at_,I.sam _ _ g1,L2.Paired.Yb Q λ_ _ f=>f.Ql (Qp.of I.sam),G.ins,λo H3 g3 aj=>?_};have u:=S2.trans g3;have U:=I.same g3;have al:=U.sam _ _ g1;exists _,Xb,Xb,_,Xb;rw[lb];cases o with
 |some O=>
  refine Y0 ?_;obtain⟨p',q',m,A,aN,aO,N⟩:=uQ M G.ins ag aj;have hm:O<(v++[V.ref j]).length:=by rw[Gr Q];exact(List.getElem?_eq_some_iff.mp m).1
  obtain⟨y,hy,aK⟩:=Qy Q (List.getElem?_eq_getElem hm);rw[m]at hy;cases hy;obtain⟨cm,av,ax⟩:=aK;refine{_,Xb,_,Xb,l,J,_,Xb,u _ _ k,Iq _ _ _,_,Xb,_,Xb,_,Xb,i,_,_,_,Xb,Xb,Zb.of al,Qz (List.getElem?_eq_getElem hm),l,p,a,aa,d,t,e,g,r,n,ac,_,x,_,_,p',q',Xb,h.same u,{cm,av,U.sam _ _ ax},U.at_,U.lng TK.few,aN,aO,A,λlv ls H7 g7 hl hb hg aC=>?_};refine{by show 3<=Gj;decide,λc8 aw=>?_};have X:=Qf aw (.tup [.str "clash",jv O,lv]);have L:=(u.trans g7).trans X;have ab:Yv (r++[(b,tg g D,tg g E)]):={_,_,List.mem_of_getElem? N.1,N.2.1};refine q _ e _ (by simp only[Vt];rw[Gn ab];exact h.same L) (.inr {c8,O,_,_,lv,ls.map (lth g),Xb,Qb,N,(hl.ex (by rintro c ys _ hx ⟨o,ho⟩;exact hx {o,u _ _ ho})).kp (Qp.of X) (λe _=>X _ _ e),mY ad hg hb aT (λa b f=>absurd f (aM a b)),ng aC}) {λb o e _ _=>L _ _ e,λb f=>L.free f} (.inl Xb)
 |none=>
  refine Zu ?_;have aE:=ub M G.ins ag aj;have ab:¬Yv (r++[(b,tg g D,tg g E)]):=(by rintro⟨a,c,m,A⟩;exact aE a c m A);have t3:=u _ _ T;exists _,Xb,l,CB,J,_,_,Xb,u _ _ k,B.cl,B.told,pC _ _ _,.inl {Xb,_,Zb.of t3},_,Xb,t,Y,_,Xb,Xb,t3,(by rw[Gz];lia);have tb:t≠l:=Ye T k nofun;exists _,Xb,_,Xb,l,CB,J,_,Xb,Qi (u _ _ k) (Gp tb),B.cl,B.entries,(by show 3<1000;decide);rw[xf];have an:t≠i:=Qc T W;have aP:l≠i:=Qc k W;generalize N:zj (zj H3 t (.lst (Y++[dv]))) l (.ins CB J (Wx p t i))=L;have O:∀{b o},H b=Ga o->b≠l->b≠t->L b=Ga o:=λe m A=>by rw[<-N];exact Qi (Qi (u _ _ e) A) m
  have X:Qp H L:=λb xs e=>O e (Ye e k nofun) (Ye e T nofun);have am:L i=Ga (.lst (v++[.ref j])):=by rw[<-N];exact Qi (Qi al (Gp an)) (Gp aP)
  have aU:Qp H1 L:=λc xs ec=>by have:H3 c=Ga (.tup xs):=U.sam _ _ ec;rw[<-N];exact Qi (Qi this (Ye this t3 nofun)) (Ye this (u _ _ k) nofun)
  obtain⟨ca,v1,v2,ap,aq,ar,au⟩:=az;have BK:Ua P w CP CB L l p a aa d t i g (r++[(b,tg g D,tg g E)]):=by refine{{J,by rw[<-N];exact Qb},h.pl.keep (λo e=>O e (Ye o2 k (y7 _ _ _ _ _ _)) (Ye o2 T nofun)) (λo e=>O e (Ye u1 k nofun) (Gp h.ta)) (λo e=>O e (Ye f1 k nofun) (Gp h.tf)) (λo e=>O e (Ye d1.at_ k nofun) (Ye d1.at_ T nofun)) X,{_,by rw[<-N];exact Qi Qb tb,DN (t2.Ql X) {ca,v1,v2,ap,X _ _ aq,ar.Ql X,au.Ql X}},{_,_,am,L2.Paired.Yb Q λ_ _ f=>f.Ql aU,M},h.ta,h.tf,an,Gp (Qc u1 W),Gp (Qc f1 W)}
  exists _,Xb,i,_,Xb,.inl (Zb.of am);have aD:((v++[V.ref j]).length:Int)=(r.length:Int)+1:=by rw[List.length_append,List.length_singleton,aA];lia
  rw[aD];exact q _ i L (by simp only[Vt];rw[Gh ab];exact BK) (.inl ⟨ab,Xb⟩) {λb o e m A=>O e m A,λb f=>u.free (by rw[<-N]at f;exact Z0 (Z0 f))} (.inr W)
end
structure jR(bk a f d t:Gc)(H H':Hp):Prop where
 keep:∀b o,H b=Ga o->b≠bk->b≠a->b≠f->b≠d->b≠t->H' b=Ga o
 there:∀b,H' b=Ge->H b=Ge
inductive sf(P:Gi)(w:Gu)(CP:Gc)(CB:Gc)(vs:List V)(H:Hp)(Q:VK):Prop
 |mk (bk:Gc) (p:Gc) (a:Gc) (f:Gc) (d:Gc) (t:Gc) (e:Gc) (ts:List Th) (tl:Tl) (U:List Th) (dv:V) (dd:Dd) (h0:vs=[.ref bk,dv]) (h1:Ua P w CP CB H bk p a f d t e ts tl) (h2:iu U ts tl) (h3:hE H dv dd) (h4:dd.fits U) (h5:∀(v:V)(t' e':Gc)(ts':List Th)(H':Hp),Ua P w CP CB H' bk p a f d t' e' ts' (Vt tl dd).1->Ih H' (λb=>(∃o,H b=Ga o)\/b=t') tl dd v->(∀x∈ts',x∈U)->jR bk a f d t H H'->(t'=t\/H t'=Ge)->(e'=e\/H e'=Ge)->Q v H'):sf P w CP CB vs H Q
def m8(P:Gi)(w:Gu)(b a:Gc):Sp:=λc H Q _=>sf P w b a c H Q
inductive xc(P:Gi)(w:Gu)(CP:Gc)(CB:Gc)(vs:List V)(H:Hp)(Q:VK):Prop
 |mk (bk:Gc) (dx:Gc) (h0:vs=[.ref bk]) (h1:H bk=Ga (.ins CB dx [])) (h2:∀(p a f d t e:Gc)(H':Hp),Ua P w CP CB H' bk p a f d t e [] []->(∀b o,H b=Ga o->b≠bk->H' b=Ga o)->H a=Ge->H f=Ge->H d=Ge->H t=Ge->H e=Ge->Q .non H'):xc P w CP CB vs H Q
def tq(P:Gi)(w:Gu)(b a:Gc):Sp:=λc H Q _=>xc P w b a c H Q
theorem oC{m:List Th}(h:ts[j]?=Ga t):(ts++m)[j]?=Ga t:=by rw[List.getElem?_append_left (List.getElem?_eq_some_iff.mp h).1];exact h
section
variable{P:Gi}{w:Gu}{K:Gd}{mg:GY->Option Value}{base:Heap}
theorem Ua.place{bk a t e:Gc}{m:List Th}(B:Ua P w CP CB H bk p a f d t e ts tl)(x:Pl P w CP H' p a f d (ts++m))(F:gn a f d H H'):Ua P w CP CB H' bk p a f d t e (ts++m) tl:=by obtain⟨l,b⟩:=B.ob;obtain⟨y,s,_⟩:=B.pl.th;obtain⟨z,v,_⟩:=B.pl.fo;obtain⟨q,c,_⟩:=B.pl.kn;obtain⟨u,j,r⟩:=B.to;obtain⟨o,g,i,n,R⟩:=B.en;have k:=F.Ql B.pl;refine{{l,F.keep _ _ b (Ye b s nofun) (Ye b v nofun) (Ye b c.at_ nofun)},x,{u,F.keep _ _ j B.ta B.tf (Ye j c.at_ nofun),r.Ql k},{o,g,F.keep _ _ i B.ea B.ef (Ye i c.at_ nofun),L2.Paired.Yb n λ_ _ h=>h.Ql k,L2.Paired.Yb R λ_ _ h=>{h.1,oC h.2.1,oC h.2.2}},B.ta,B.tf,B.te,B.ea,B.ef}
theorem iu.grow(F:iu U ts tl)(b:t∈U):iu U (Yq ts t.inside) tl:=⟨λs a=>by
 rw[oQ]at a;rcases a with h|h
 .exact F.sub s h
 .exact F.cl t b s h,F.cl,F.good,F.len,F.tl⟩
theorem Ci:Qw ["self"] ["self"] (Qk jK):=by eq_refl
theorem I6(F:Wj K "__init__" "Book.__init__" jK f0 fd)(j:iy K mg CB)(TP:gX K mg CP)(Q:Mk K CP fI)(O:Qu P w K mg base Z5 1 fI fdI ["self"] (sX P w CP))(S:zk K fdI ["self"] []):Qu P w K mg base Z5 3 f0 fd ["self"] (tq P w CP CB):=by
 refine F.ok Ci (λvs v R N C=>?_) (λab aa ag s v vs R N Z C=>?_)
 .obtain⟨f,h,rfl,_⟩:=C;rfl
 obtain⟨f,h,rfl,D,q⟩:=C;show∃t,Ik ?my _ t/\_;let w3:Xf ?my jK 2:={_,Qh (Yw (pv 0) (Zl Qe) rfl)}
 let w2:Xf ?my jK 1:={_,Qd (Yw (pv 0) (Zl Qe) rfl) w3.2}
 exists _,Qd (Yw (pv 0) (wc Q O Z rfl TP.mgC S .nil Q5) rfl) w2.2;intro p A E X ad;have x:Qx v (zj (zj v A (.own p)) p (.ins CP A [])):=λc g b=>Qi (Qi b (Qc b X)) (Qc b E);refine{p,A,Xb,Qb,λa U d y u k1 V Y W=>{Xb,?_}};have m:Qx v y:=λi g b=>k1 i g (x _ _ b) (Qc b E);have pb:p≠f:=Gp (Qc D E);obtain⟨ac,af⟩:=u.ob;obtain⟨us,H,_⟩:=u.th;obtain⟨ws,I,_⟩:=u.fo;obtain⟨ae,T,_⟩:=u.kn;refine{_,Xb,f,CB,h,[],Xb,m _ _ D,j.cl,j.places,by show 0<1000;decide,Gw _,λt ht=>?_};have k:=m _ _ D;have r:=Z0 ht;have G:t≠f:=Gp (Qc k r);refine{_,Xb,f,CB,h,_,Xb,Qi Qb (Gp G),j.cl,j.told,by show 1<1000;decide,Gw _,λb M=>?_};have o:=Z0 (Z0 (Z0 M));have J:b≠f:=Gp (Qc k o);have L:t≠b:=λz=>by have:=Z0 M;rw[<-z,Qb]at this;cases this
 exists _,Xb,f,CB,h,_,Xb,Qi Qb (Gp J),j.cl,j.entries,(by show 2<1000;decide);have l:∀{i g},y i=Ga g->i≠f->(zj (zj (zj (zj (zj y f (.ins CB h (Yj "places" (.ref p) []))) t (.lst [])) f (.ins CB h (Yj "told" (.ref t) (Yj "places" (.ref p) [])))) b (.lst [])) f (.ins CB h (Yj "entries" (.ref b) (Yj "told" (.ref t) (Yj "places" (.ref p) []))))) i=Ga g:=λB n=>Qi (Qi (Qi (Qi (Qi B n) (Qc B r)) n) (Qc B o)) n;refine q p a U d t b _ {⟨h,Qb⟩,u.keep (λg e=>l e pb) (λg e=>l e (Ye H k nofun)) (λg e=>l e (Ye I k nofun)) (λg e=>l e (Ye T.at_ k nofun)) (λi xs e=>l e (Ye e k nofun)),{[],Qi (Qi (Qi Qb G) L) G,.nil},{[],[],Qi Qb J,.nil,.nil},Gp (Qc H r),Gp (Qc I r),L,Gp (Qc H o),Gp (Qc I o)} (λi g e n=>l (m _ _ e) n) (x.free V) (x.free Y) (x.free W) (m.free r) (m.free o)
theorem wy:Qw ["self","deed","entry"] ["self","deed"] (Qk Rf):=by eq_refl
theorem KL{f:V}{e:Dd}(h:hE H f e):∃c k m,f=.ref c/\H c=Ga (.tup (.str k::m))/\(k="back"↔∃i,e=.back i)/\(k="ask"↔∃s t,e=.ask s t):=by
 cases e with
 |tell b s t=>
  obtain⟨c,g,l,a,d,_⟩:=h;refine{c,_,_,a,d,{λz=>?_,λ⟨i,z⟩=>by cases z},{λz=>?_,λ⟨i,j,z⟩=>by cases z}}
  .cases b<;>exact absurd z (by decide+kernel)
  .cases b<;>exact absurd z (by decide+kernel)
 |ask s t=>obtain⟨c,g,l,a,d,_⟩:=h;exact{c,_,_,a,d,{λz=>absurd z (by decide+kernel),λ⟨i,z⟩=>by cases z},{λz=>⟨s,t,rfl⟩,λ_=>rfl}}
 |back i=>obtain⟨c,a,d⟩:=h;exact{c,_,_,a,d,{λz=>⟨i,Xb⟩,λ_=>rfl},{λz=>absurd z (by decide+kernel),λ⟨i,j,z⟩=>by cases z}}
theorem AV{fG fP fT:Gc}{al am ak an:Tp}(F:Wj K "answer" "Book.answer" Rf f0 fd)(A:iy K mg CB)(TP:gX K mg CP)
  (mG:Yc K CB "go_back" fG)(GG:Qu P w K mg base Z5 1 fG al ["self","moment"] (xI P w CP CB))(bG:zk K al ["self","moment"] [])(mP:Yc K CP "place_of" fP)(GP:Qu P w K mg base Z5 52 fP am ["self","thing"] (y0 P w CP))(bP:zk K am ["self","thing"] [])
  (mA:Yc K CB "ask" fA)(GA:Qu P w K mg base Z5 62 fA ak ["self","entry"] (tr P w CP CB))(bA:zk K ak ["self","entry"] [])(mT:Yc K CB "tell" fT)(GT:Qu P w K mg base Z5 62 fT an ["self","deed","entry"] (vg P w CP CB))(bT:zk K an ["self","deed","entry"] []):
  Qu P w K mg base Z5 63 f0 fd ["self","deed"] (m8 P w CP CB):=by
 refine F.ok wy (λW N V L D=>?_) (λax aw ay s N W V L hr D=>?_)
 .obtain⟨o,p,a,C,d,t,S,v,tl,R,dv,Z,rfl,_⟩:=D;rfl
 obtain⟨o,p,a,C,d,t,S,v,tl,R,dv,Z,rfl,f,Q,aa,ab,q⟩:=D;have aE:Yd 1 _:=hr.mono (by lia);have ar:Yd 52 _:=hr.mono (by lia);have nd:=wy.nd;show∃t,Ik ?my _ t/\_;let w4:Xf ?my Rf 3:={_,Qh (Qv (Zf (pv 0) A.cl mT GT hr bT .nil Q5 (Qa (pv 1) (Qa (pv 2) Qe))))}
 let w3:Xf ?my Rf 2:={_,Qd (Zq (Qr Va (Qn Q3 (pv 1) Qj) Q7 (Q4 _)) (Qh (Qv (Zf (pv 0) A.cl mA GA hr bA .nil Q5 (Qa (pv 2) Qe)))) Q6) w4.2}
 let w2:Xf ?my Rf 1:={_,Qd (Qt 2 nd (Za (Qa (Qn Q3 (pv 1) Qj) (Qa (Zf (Qm (pv 0) rfl) TP.cl mP GP ar bP .nil Q5 (Qa (Qn Q3 (pv 1) Qj) Qe)) (Qa (Zf (Qm (pv 0) rfl) TP.cl mP GP ar bP .nil Q5 (Qa (Qn Q3 (pv 1) Qj) Qe)) Qe))))) w3.2}
 exists _,Qd (Zq (Qr Va (Qn Q3 (pv 1) Qj) Q7 (Q4 _)) (Qh (Qv (Zf (pv 0) A.cl mG GG aE bG .nil Q5 (Qa (Qn Q3 (pv 1) Qj) Qe)))) Q6) w2.2;obtain⟨dx,o1⟩:=f.ob;obtain⟨c,k,xs,rfl,H,kb,ka⟩:=KL aa;exists _,Xb,c,_,_,_,Xb,Xb,Zz.of H,R8 _ _,Xb,_,Xb;rw[Xo];obtain⟨us,u1,_⟩:=f.pl.th;obtain⟨ws,w1,_⟩:=f.pl.fo;obtain⟨aK,d1,_⟩:=f.pl.kn;obtain⟨aP,t1,_⟩:=f.to;by_cases hb:k="back"
 .subst hb;rw[EC];refine Y0 ?_;obtain⟨i,rfl⟩:=kb.mp rfl;obtain⟨Y,g,h⟩:=aa;cases g;refine{_,Xb,o,dx,_,Xb,o1,JP _ _ _,_,Xb,c,_,_,_,Xb,Xb,Zz.of h,Rq _ _ _,o,p,a,C,d,t,S,v,tl,i,Xb,f,λU t' e' W V I L ad ac=>?_};exact q U t' e' v W V I Q.sub {λb l j g _ _ _ _=>L.keep b l j g g,L.there} ad ac
 have aG:(k==("back":GY))=Gq:=by simpa using hb
 rw[aG];refine Zu ?_;obtain⟨s,e,m,n,aF,i1,i2,hs,ht,aC⟩:∃s e m n,xs=[m,n]/\Z2 N m s/\Z2 N n e/\s∈R/\e∈R/\((k="ask"/\Z=.ask s e)\/(k≠"ask"/\∃b,k=tw b/\Z=.tell b s e)):=by
  cases Z with
  |tell b s e=>obtain⟨Y,m,n,g,h,E,G⟩:=aa;cases g;rw[H]at h;cases h;exact{s,e,m,n,Xb,E,G,ab.1,ab.2,.inr {(λz=>by obtain⟨_,_,z⟩:=ka.mp z;cases z),b,rfl,rfl}}
  |ask s e=>obtain⟨Y,m,n,g,h,E,G⟩:=aa;cases g;rw[H]at h;cases h;exact{s,e,m,n,Xb,E,G,ab.1,ab.2,.inl ⟨Xb,Xb⟩}
  |back i=>exact absurd (kb.mpr ⟨i,Xb⟩) hb
 subst aF;obtain⟨dp,op⟩:=f.pl.ob;have gs:=Q.good s hs;have gt:=Q.good e ht;have aL:=Q.le f.pl.nd;refine{_,Xb,c,_,_,_,Xb,Xb,Zz.of H,R8 _ _,_,Xb,o,CB,dx,_,_,Xb,o1,A.cl,A.places,U9 _ _ _,p,dp,_,Xb,op,za _ _ _,_,Xb,c,_,_,_,Xb,Xb,Zz.of H,Rq _ _ _,p,m,s,a,C,d,v,Xb,f.pl,i1,gs.1,by have:=gs.2.1;lia,by have:=gs.2.2;lia,λr H1 x1 aD F1=>?_};obtain⟨m1,aj⟩:=Vo s.inside v;have au:=x1;rw[aj]at au;have x:=f.place au F1;rw[<-aj]at x;have FW1:=Q.grow hs;have aM:=FW1.le x.pl.nd;have af:=F1.Ql f.pl;obtain⟨aA,aH⟩:=x.ob;obtain⟨az,aI⟩:=x.pl.ob;refine{_,Xb,o,CB,aA,_,_,Xb,aH,A.cl,A.places,U9 _ _ _,p,az,_,Xb,aI,za _ _ _,_,Xb,c,_,_,_,Xb,Xb,Zz.of (af _ _ H),iw _ _ _ _,p,n,e,a,C,d,_,Xb,x.pl,i2.Ql af,gt.1,by have:=gt.2.1;lia,by have:=gt.2.2;lia,λJ X x2 aq F2=>?_};obtain⟨m2,ae⟩:=Vo e.inside (Yq v s.inside);have av:=x2;rw[ae]at av;have B2:=x.place av F2;rw[<-ae]at B2;have FW2:=FW1.grow ht;have ag:Qp N X:=λb xs j=>(F2.Ql x.pl) _ _ (af _ _ j);have ap:(Yq (Yq v s.inside) e.inside)[r]?=Ga s:=by rw[ae];exact oC aD
 refine{by show 3<=Gj;decide,λB aB=>?_};have T:=Qf aB (.tup [.str k,jv r,jv J]);have y:=B2.same T;generalize aJ:Yq (Yq v s.inside) e.inside=O at*;have e1:=Ur ap;have e2:=Ur aq;have l1:r<O.length:=(List.getElem?_eq_some_iff.mp ap).1;have l2:J<O.length:=(List.getElem?_eq_some_iff.mp aq).1;have M:gn a C d N (zj X B (.tup [.str k,jv r,jv J])):=(F1.trans F2).trans (gn.of T);obtain⟨ai,o3⟩:=y.ob;obtain⟨aN,u3,_⟩:=y.pl.th;obtain⟨aQ,w3,_⟩:=y.pl.fo;obtain⟨aO,t3,_⟩:=y.to;have ao:(zj X B (.tup [.str k,jv r,jv J])) c=Ga (.tup (.str k::[m,n])):=T _ _ (ag _ _ H);have back:∀b l,N b=Ga l->∃u,(zj X B (.tup [.str k,jv r,jv J])) b=Ga u:=λb l j=>Ss.mp λz=>by rw[M.there b z]at j;cases j
 exists _,Xb,c,_,_,_,Xb,Xb,Zz.of ao,R8 _ _,Xb,_,Xb;rw[Xo];rcases aC with⟨rfl,rfl⟩|⟨hk,b,rfl,rfl⟩
 .rw[EC];refine Y0 ?_;refine{_,Xb,o,ai,_,Xb,o3,AI _ _ _,_,Xb,o,p,a,C,d,t,S,O,tl,R,.ref B,r,J,Xb,y,FW2,⟨B,Xb,Qb⟩,l1,l2,λU H4 L I=>?_};rw[e1,e2]at I;refine q U t S O H4 (y.same L) (I.ex λY ys _ hx z=>hx ?_) FW2.sub {λb l j g h E G h5=>L _ _ (M.keep b l j h E G),λb D=>M.there b (L.free D)} (.inl Xb) (.inl Xb);rcases z with⟨l,ho⟩|z
  .exact back _ _ ho
  .rw[z];exact{_,t3}
 .have ah:(tw b==("ask":GY))=Gq:=by simpa using hk
  rw[ah];refine Zu ?_;refine{_,Xb,o,ai,_,Xb,o3,OI _ _ _,_,Xb,_,Xb,o,p,a,C,d,t,S,O,tl,R,.ref c,.ref B,b,r,J,Xb,y,FW2,?_,⟨B,Xb,Qb⟩,l1,l2,λU e' H4 L I V W=>?_}
  .rw[e1,e2];exact{c,m,n,Xb,ao,(i1.Ql ag).same T,(i2.Ql ag).same T}
  .rw[e1,e2]at L I;refine q U t e' O H4 L (I.ex λY ys _ hx z=>hx ?_) FW2.sub {λb l j g h E G h5=>V.keep _ _ (M.keep b l j h E G) g h5,λb D=>M.there b (V.there b D)} (.inl Xb) (W.elim .inl λz=>.inr (M.there _ z));rcases z with⟨l,ho⟩|z
   .exact back _ _ ho
   .rw[z];exact{_,t3}
end
def oH(H:Hp)(X:Gc->Prop)(a:List Dd)(b:List V):Prop:=∀(k:Nat)(d:Dd)(v:V),a[k]?=Ga d->b[k]?=Ga v->Ih H X (after [] (a.take k)) d v
inductive rE(vs:List V)(H:Hp)(Q:VK):Prop
 |mk (l:Gc) (es:List V) (dl:List Dd) (U:List Th) (h0:vs=[.ref l]) (h1:H l=Ga (.lst es)) (h2:U8 H es dl) (h3:jZ U) (h4:(∀d∈dl,d.fits U)) (h5:dl.length<=800) (h6:∀(r:Gc)(rs:List V)(H':Hp),Qx H H'->H r=Ge->H' r=Ga (.lst rs)->rs.length=dl.length->oH H' (λb=>b=r) dl rs->Q (.ref r) H'):rE vs H Q
def p9:Sp:=λa H Q _=>rE a H Q
theorem Az{a:List Dd}(b:jZ U)(h:∀x∈ts,x∈U)(c:a.length<=800)(i:Nat):iu U ts (after [] (a.take i)):={h,b.cl,b.good,b.len,by have:=Rj (ds:=a.take i) (tl:=[]);rw[List.length_take]at this;simp only[List.length_nil]at this;lia}
section
variable{P:Gi}{w:Gu}{K:Gd}{mg:GY->Option Value}{base:Heap}
theorem Ua.but{i g:Gc}{H:Hp}{bk p a f d t e r:Gc}{l:List Th}{k:Tl}{D n:List V}(B:Ua P w i g H bk p a f d t e l k)(c:H r=Ga (.lst D))(v:r≠a)(y:r≠f)(rt:r≠t)(x:r≠e):Ua P w i g (zj H r (.lst n)) bk p a f d t e l k:=by
 obtain⟨o,j⟩:=B.ob;obtain⟨C,z,A⟩:=B.to;obtain⟨u,b,q,s,R⟩:=B.en;have m:Qp H (zj H r (.lst n)):=Zk λE e=>by rw[c]at e;cases e
 exact{{o,Qi j (Ye j c nofun)},B.pl.but c v y,{C,Qi z (Gp rt),A.Ql m},{u,b,Qi q (Gp x),L2.Paired.Yb s λ_ _ h=>h.Ql m,R},B.ta,B.tf,B.te,B.ea,B.ef}
theorem jR.Ql{bk a t e:Gc}(F:jR bk a f d t H H')(B:Ua P w CP CB H bk p a f d t e ts tl):Qp H H':=λb s c=>by obtain⟨m,i⟩:=B.ob;obtain⟨o,k,_⟩:=B.pl.th;obtain⟨r,l,_⟩:=B.pl.fo;obtain⟨h,g,_⟩:=B.pl.kn;obtain⟨q,j,n⟩:=B.to;exact F.keep _ _ c (Ye c i nofun) (Ye c k nofun) (Ye c l nofun) (Ye c g.at_ nofun) (Ye c j nofun)
theorem jR.lst{i h:Gc}{H g:Hp}{bk p a f d t e:Gc}{r:List Th}{q:Tl}(F:jR bk a f d t H g)(B:Ua P w i h H bk p a f d t e r q){c:Gc}{xs:List V}(b:H c=Ga (.lst xs))(k:c≠a)(l:c≠f)(m:c≠t):g c=Ga (.lst xs):=by obtain⟨s,o⟩:=B.ob;obtain⟨n,j,_⟩:=B.pl.kn;exact F.keep _ _ b (Ye b o nofun) k l (Ye b j.at_ nofun) m
theorem wH:Qw ["deeds","book"] ["deeds"] (Qk lE):=by eq_refl
theorem As:(["deed","book"]:List GY).Nodup:=by decide+kernel
theorem HD{aj:Tp}(F:Wj K "answers" "answers" lE f0 fd)(ai:iy K mg CB)(aw:Mk K CB fI)(GI:Qu P w K mg base Z5 3 fI fdI ["self"] (tq P w CP CB))(bI:zk K fdI ["self"] [])
  (mA:Yc K CB "answer" fA)(GA:Qu P w K mg base Z5 63 fA aj ["self","deed"] (m8 P w CP CB))(bA:zk K aj ["self","deed"] []):Qu P w K mg base Z5 64 f0 fd ["deeds"] p9:=by
 refine F.ok wH (λE l o j ab=>?_) (λY Q Z s l E o j hr ab=>?_)
 .obtain⟨ad,es,G,aa,rfl,_⟩:=ab;rfl
 obtain⟨ad,es,G,aa,rfl,hl,ak,hU,aB,aC,q⟩:=ab;have aD:Yd 4 _:=hr.mono (by lia);have nd:=wH.nd;exists _,Qd (Ub (i:=1) nd rfl (Ej Xb) (wc aw GI aD rfl ai.mgC bI .nil Q5))
  (Qh (Qv (V0 (te:=kq CB "answer" (m8 P w CP CB) [] E0 (Vw 1) (jo (Vw 0) jc)) (own:=["deed"]) (fv:=[(1,"book")]) rfl (S:=(by eq_refl:Wa (Qk lE) _)) (.cons rfl (De Xb) rfl .nil)
   (Yx (pv 0)) (λ_ _ _ _ _=>Xe (i:=0) As rfl (De Xb) (Ej Xb)) (λ_ _ _ _ _=>We) (λ_ _ _ _ _=>Zf (pv 1) ai.cl mA GA hr bA .nil Q5 (Qa (pv 0) Qe)))))
 intro B dx ac az aL;have N:Qx l (zj (zj l dx (.own B)) B (.ins CB dx [])):=λc L g=>Qi (Qi g (Qc g az)) (Qc g ac);refine{B,dx,Xb,Qb,λp a v d t g H1 I k1 ha hf hd ht he=>{Xb,?_}};have R:Qx l H1:=λb L h=>k1 b L (N _ _ h) (Qc h ac);have ax:=N.free ha;have aA:=N.free hf;have ay:=N.free hd;have aE:=N.free ht;refine{_,Xb,ad,Xb,{_,Zb.of (R _ _ hl)},λf C=>?_};obtain⟨us,u1,_⟩:=I.pl.th;obtain⟨ws,w1,_⟩:=I.pl.fo;obtain⟨aM,t1,_⟩:=I.to;obtain⟨aK,aJ,e1,_⟩:=I.en;have ra:f≠a:=Gp (Qc u1 C);have rf:f≠v:=Gp (Qc w1 C);have M:f≠t:=Gp (Qc t1 C);have T:f≠g:=Gp (Qc e1 C);have s2:=Qf C (.lst []);have aF:es.length=G.length:=Gr ak;refine oJ (K:=K) (a:=ad) (xs:=es) (small (by lia)) (λi D X u=>gV λ(x0:Option V)(t g:Gc)(O:List Th)=>gP (X=[x0,Ga (.ref B)]) (Ua P w CP CB u B p a v d t g O (after [] (G.take i))) (∀x∈O,x∈aa) (Qx l u) (l t=Ge) (f≠t) (f≠g) (oH u (λb=>b=a\/b=v\/b=t\/b=f) (G.take i) D))
  {_,t,g,[],Xb,I.same s2,(λx e=>nomatch e),R.trans s2,aE,M,T,(λk d U n=>by simp at n)} (by rintro i D X u _ ⟨_,_,_,_,_,_,_,j,_⟩;exact Zb.of (j _ _ hl)) ?_ ?_
 .rintro i y D X u hi al ⟨x0,t,g,O,rfl,r,sub,J,t0,M,T,S⟩ H;obtain⟨dd,Y,hy⟩:=Qy ak hi;obtain⟨am,o2⟩:=r.ob;have av:Qp l u:=Qp.of J;refine{_,Xb,B,am,_,Xb,o2,Kq _ _ _,_,Xb,B,p,a,v,d,t,g,O,_,aa,y,dd,Xb,r,Az hU sub aC i,hy.Ql av,aB dd (List.mem_of_getElem? Y),λU o e' au E B3 hv aq Q Z an=>?_};have r3:=Q.lst r H ra rf M;have ag:f≠o:=Z.elim (λz=>z▸M) (λz=>Qc H z);have af:f≠e':=an.elim (λz=>z▸T) (λz=>Qc H z);have g3:Qx l E:=λb L h=>Q.keep b L (J _ _ h) (Qc h ac) (Qc h ax) (Qc h aA) (Qc h ay) (Qc h t0);have ar:l o=Ge:=Z.elim (λz=>z▸t0) (λz=>J.free z);obtain⟨aH,u2,_⟩:=r.pl.th;obtain⟨aI,w2,_⟩:=r.pl.fo;refine{r3,_,o,e',au,Xb,(by rw[yk Y];exact B3.but r3 ra rf ag af),aq,λb L h=>Qi (g3 _ _ h) (Qc h (R.free C)),ar,ag,af,λk dk W n A=>?_};have ah:Qp E (zj E f (.lst (D++[U]))):=Zk λxs g=>by rw[r3]at g;cases g
  have ae:∀{c:Gc}{xs:List V},E c=Ga (.lst xs)->¬(c=a\/c=v\/c=o\/c=f)->(zj E f (.lst (D++[U]))) c=Ga (.lst xs):=λm e=>Qi m (λz=>e (.inr (.inr (.inr z))));have ao:k<i+1:=by have:=(List.getElem?_eq_some_iff.mp n).1;rw[List.length_take]at this;lia
  have ek:(G.take (i+1)).take k=G.take k:=by rw[List.take_take,E8 (by lia)]
  rw[ek];rw[List.getElem?_take_of_lt ao]at n;rcases Tn k i with ap|aG
  .rw[List.getElem?_append_left (by lia)]at A;have h0:=S k dk W (by rw[List.getElem?_take_of_lt ap];exact n) A;rw[List.take_take,E8 (by lia)]at h0;have h1:=h0.ex (Y:=λb=>b=a\/b=v\/b=t\/b=o\/b=f) λc xs m e z=>by
    rcases z with z|z|z|z|z
    .exact e (.inl z)
    .exact e (.inr (.inl z))
    .exact e (.inr (.inr (.inl z)))
    .rcases Z with j|j
     .exact e (.inr (.inr (.inl (z.trans j))))
     .rw[z,j]at m;cases m
    .exact e (.inr (.inr (.inr z)))
   have h2:=h1.kp (Q.Ql r) λ{c xs}m e=>Q.lst r m (λz=>e (.inl z)) (λz=>e (.inr (.inl z))) (λz=>e (.inr (.inr (.inl z))));have h3:=h2.ex (Y:=λb=>b=a\/b=v\/b=o\/b=f) λc xs m e z=>by
    rcases z with z|z|z|z
    .exact e (.inl z)
    .exact e (.inr (.inl z))
    .exact e (.inr (.inr (.inr (.inl z))))
    .exact e (.inr (.inr (.inr (.inr z))))
   exact h3.kp ah ae
  .have j:k=i:=by lia
   subst j;rw[List.getElem?_append_right (by lia),al,Nu]at A;have A:U=W:=by simpa using A
   subst A;rw[Y]at n;cases n;exact(hv.ex (Y:=λb=>b=a\/b=v\/b=o\/b=f) λc xs m e z=>by
    rcases z with z|z|z|z
    .exact e (.inl (by rw[z];exact{_,u2}))
    .exact e (.inl (by rw[z];exact{_,w2}))
    .exact e (.inr z)
    .exact e (.inl (by rw[z];exact{_,H}))).kp ah ae
 .rintro D X u al ⟨x0,t,g,O,rfl,r,sub,J,t0,M,T,S⟩ H;rw[aF,List.take_length]at S;exact q f D u J (R.free C) H (by lia) λk dk W n A=>(S k dk W n A).ex λc xs m e z=>e (.inr (.inr (.inr z)))
end
open PySem L2 Sb
structure gG(mg:GY->Option Value):Prop where
 len:mg "len"=Ge
 min:mg "min"=Ge
 abs:mg "abs"=Ge
 list:mg "list"=Ge
 tuple:mg "tuple"=Ge
 str:mg "str"=Ge
 bool:mg "bool"=Ge
 int:mg "int"=Ge
 isinstance:mg "isinstance"=Ge
 range:mg "range"=Ge
 reversed:mg "reversed"=Ge
def wL:Db->List Db
 |.While _ b _ _=>b
 |_=>[]
abbrev cSt(i:Nat):Db:=(X5 Vp).getD i (.Pass {0,0,0,0})
abbrev P7:Db:=(wL (cSt 7)).getD 1 (.Pass {0,0,0,0})
abbrev A7:Db:=(wL (cSt 7)).getD 2 (.Pass {0,0,0,0})
abbrev cN:List GY:=["_law_told","_law_things","_law_todo","_law_word","_law_one","_law_other","_law_leaders","_law_part","_law_pairs","_law_names","_law_going","_law_k","_law_j","_law_two","_law_inner","_law_old","_law_name"]
theorem U7:Qw cN ["_law_told","_law_things"] (Qk Vp):=by eq_refl
theorem nd2:(["_law_part","_law_leaders"]:List GY).Nodup:=by decide+kernel
def Good(tl:Tl)(S:List Th)(a:List (Th×Th)):Prop:=∀p∈a,p.1∈S/\p.2∈S/\Cg tl p.1 p.2
def gF(tl:Tl)(S:List Th)(L:Th->Int):Prop:=∀x∈S,∀y∈S,L x=L y->Cg tl x y
def vQ(S:List Th)(L a:Th->Int):Prop:=∀x∈S,∀y∈S,L x=L y->a x=a y
abbrev s4(k l m n o p:Option V)(d:Gc)(q:Option V)(j i:Gc)(g:Bool)(a b c e f h:Option V):St:=[k,l,m,n,o,p,Ga (.ref d),q,Ga (.ref j),Ga (.ref i),Ga (.bl g),a,b,c,e,f,h]
section
variable{P:Gi}{w:Gu}{K:Gd}{mg:GY->Option Value}{base:Heap}{f:Gc}{cdv:Value}{A:TL}{outer:List L9}{s:Gk}{Hi:Hp}{E:XK}
abbrev XC(P:Gi)(w:Gu)(K:Gd)(mg:GY->Option Value)(base:Heap)(f:Gc)(cdv:Value)(A:TL)(outer:List L9)(s:Gk)(Hi:Hp)(E:XK):Cx:=(iG Z5 P w K mg base cN "_law_classes" (Qk Vp) f cdv A outer s Hi E).nox
theorem BQ(hu:(XC P w K mg base f cdv A outer s Hi E).A.units+64<DM):∃t,PS (XC P w K mg base f cdv A outer s Hi E) A7 t/\∀(tl:Tl)(S:List Th)(j:Th->Int)(d C B:Gc)(Y nv:List V)(u:List (Th×Th))(I:Hp)(x0 x1 x2 x3 x7:Option V)
  (hN:Num P w I d S j)(ag:I C=Ga (.lst Y))(al:gM I Y u)(aj:I B=Ga (.lst nv))(ak:Zp I nv S)(hG:Good tl S u)(hS:gF tl S j)(ax:S.length<=3000),
  Tr t
   (λσ H=>H=I/\∃F G Z aa ab ac D h,σ=s4 x0 x1 x2 x3 F G d x7 C B Gq Z aa ab ac D h)
   (λσ H=>xi λg a F G Z aa ab ac D h=>gP (σ=s4 x0 x1 x2 x3 F G d x7 C B g Z aa ab ac D h) (Jk d I H) (Num P w H d S a) (gF tl S a) (vQ S j a) (∀p∈u,a p.1=a p.2) (g=Gq->∀t∈S,a t=j t) (g=Gg->∃x∈S,∃y∈S,j x≠j y/\a x=a y)):=by
 have nd:=U7.nd;exists _,(Z8 Gv rfl (Yx (pv 8)) (Vv rfl (Zn (Z6 4 nd) (Zn (Z6 5 nd) Wl)))
  (Qd (Qt 15 nd (Qn (Ui hu) (pv 6) (pv 4)))
  (Qh (Zq (Qr Io (pv 15) (Qn (Ui hu) (pv 6) (pv 5)) (Q4 _))
  (Qd (Qt 10 nd Ww)
  (Qh (Z8 Gv rfl (Yx (pv 9)) (Z6 16 nd)
  (Qh (Zq (Qr Va (Qn (Ui hu) (pv 6) (pv 16)) (pv 15) (Q4 _))
  (Qh (Oj (Qn (Ui hu) (pv 6) (pv 5)) (jk (pv 6) (pv 16) (jd hu)))) Q6))))) Q6))))
 intro tl S j d C B Y nv u I x0 x1 x2 x3 x7 hN ag al aj ak hG hS ax;rintro aD σ H ⟨rfl,F,G,Z,aa,ab,ac,D,h,rfl⟩ k;obtain⟨od,af⟩:=hN.at;have az:C≠d:=Zi ag af (by intro z;cases z);have aq:B≠d:=Zi aj af (by intro z;cases z);let aA:Nat->St->Hp->Prop:=λi σ Q=>ip λg a F G D h=>gP (σ=s4 x0 x1 x2 x3 F G d x7 C B g Z aa ab ac D h) (Jk d H Q) (Num P w Q d S a) (gF tl S a) (vQ S j a) (∀p∈u.take i,a p.1=a p.2) (g=Gq->∀t∈S,a t=j t) (g=Gg->∃x∈S,∃y∈S,j x≠j y/\a x=a y)
 refine⟨_,Xb,C,Xb,{_,Zb.of ag},Xh (K:=K) (a:=C) (xs:=Y) aA
  {Gq,j,F,G,D,h,Xb,Jk.refl,hN,hS,λ_ _ _ _ e=>e,by simp,λ_ _ _=>rfl,λe=>by cases e} (by rintro i σ Q _ ⟨_,_,_,_,_,_,_,v,_⟩;exact Zb.of (v _ _ ag az)) ?_ ?_⟩
 .rintro i x σ Q hi ⟨g,a,F,G,D,h,rfl,v,R,ai,ad,dn,gf,gt⟩;obtain⟨⟨O,o⟩,eu,a',v1,v2,rfl,aw,t1,t2⟩:=Qy al hi;have tu:Qp H Q:=v.Ql af (λxs z=>by cases z);obtain⟨b1,_,_,_,rfl,_,_,_⟩:=t1.inv;obtain⟨b2,_,_,_,rfl,_,_,_⟩:=t2.inv;have t1:=t1.Ql tu;have t2:=t2.Ql tu;obtain⟨X,M,mc⟩:=hG (O,o) (List.mem_of_getElem? eu);have tk:u.take (i+1)=u.take i++[(O,o)]:=by rw[List.take_add_one,eu];rfl
  exists a',_,Xb,Zz.of (tu _ _ aw),Xb,_,_,Xb,_,_,Xb,Xb;refine{_,Xb,_,Xb,R.get X t1 ?_};refine{_,Xb,_,Xb,_,Xb,R.get M t2 {Xb,_,Xb,?_}};rw[Vk];refine Vu (λc=>?_) (λc=>?_)
  .have c:a O≠a o:=by simpa using c
   generalize ho:a O=r at*;generalize hn:a o=n at*;have ay:∀t,mrg a r n t≠r:=λt z=>by
    unfold mrg at z;split at z
    .exact c z.symm
    .rename_i av;exact av z
   have am:mrg a r n o=n:=by unfold mrg;rw[Gh (by rw[hn];exactλz=>c z.symm)];exact hn
   have ap:=v _ _ aj aq;let aB:Nat->St->Hp->Prop:=λae σ T=>ia λL2 h=>i8 (σ=s4 x0 x1 x2 x3 (Ga (.ref b1)) (Ga (.ref b2)) d x7 C B Gg Z aa ab ac (Ga (.int r)) h) (Jk d Q T) (Num P w T d S L2) (∀t∈S,L2 t=a t\/L2 t=mrg a r n t) (∀t∈S.take ae,L2 t=mrg a r n t)
   refine⟨_,Xb,B,Xb,{_,Zb.of ap},Xh (K:=K) (a:=B) (xs:=nv) aB
    {a,_,Xb,Jk.refl,R,λt _=>.inl Xb,by simp} (by rintro ae σ T _ ⟨_,_,_,J,_⟩;exact Zb.of (J _ _ ap aq)) ?_ ?_⟩
   .rintro ae y σ T hj ⟨L2,h,rfl,J,U,W,l2⟩;obtain⟨N,e0,m⟩:=ak.get hj;have ah:=List.mem_of_getElem? e0;have aC:Qp H T:=(v.trans J).Ql af (λxs z=>by cases z);obtain⟨b0,_,_,_,rfl,_,_,_⟩:=m.inv;have m:=m.Ql aC;have ar:S.take (ae+1)=S.take ae++[N]:=by rw[List.take_add_one,e0];rfl
    refine{_,Xb,_,Xb,U.get ah m {_,Xb,Xb,_,Xb,?_}};rw[Vk];refine Vu (λL=>?_) (λL=>?_)
    .have L:L2 N=r:=by simpa using L
     have e2:L2 o=n:=by
      rcases W o M with z|z
      .rw[z,hn]
      .rw[z,am]
     have ao:mrg a r n N=n:=by
      rcases W N ah with z|z
      .unfold mrg;rw[Gn (by rw[<-z];exact L)]
      .exact absurd (z.symm.trans L) (ay N)
     refine{_,Xb,_,Xb,U.get M (t2.Ql (J.Ql R.at.choose_spec (λxs z=>by cases z))) {_,rfl,_,rfl,U.put (by ext) ah m λH3 au N3=>?_}};refine{_,_,Xb,J.trans au,N3,λt l=>?_,λt l=>?_}
     .by_cases z:t=N
      .subst z;right;rw[Gn Xb,e2,ao]
      .rw[Gh z];exact W t l
     .by_cases z:t=N
      .subst z;rw[Gn Xb,e2,ao]
      .rw[Gh z];rw[ar,List.mem_append,List.mem_singleton]at l;exact l2 t (l.resolve_right z)
    .have L:L2 N≠r:=by simpa using L
     refine{_,_,Xb,J,U,W,λt l=>?_};rw[ar,List.mem_append,List.mem_singleton]at l;rcases l with l|l
     .exact l2 t l
     .subst l;rcases W t ah with z|z
      .rw[z];unfold mrg;rw[Gh (by rw[<-z];exact L)]
      .exact z
   .rintro σ T ⟨L2,h,rfl,J,U,W,l2⟩;rw[ak.length,List.take_length]at l2;have q:∀x∈S,L2 x=mrg a r n x:=l2;refine{Gg,L2,_,_,_,_,Xb,v.trans J,U,?_,?_,?_,(λe=>by cases e),λ_=>?_}
    .intro x hx y m e;rw[q x hx,q y m]at e;rw[<-ho,<-hn]at e;exact OJ X M ai mc x hx y m e
    .intro x hx y m e;rw[q x hx,q y m];exact uf (ad x hx y m e)
    .intro p b;rw[tk,List.mem_append,List.mem_singleton]at b;rcases b with b|b
     .have an:=hG p (List.mem_of_mem_take b);rw[q _ an.1,q _ an.2.1];exact uf (dn p b)
     .subst b;show L2 O=L2 o;rw[q _ X,q _ M,am];unfold mrg;rw[Gn ho]
    .exists O,X,o,M,λz=>c ?_
     .have:=ad O X o M z;rw[ho,hn]at this;exact this
     .rw[q _ X,q _ M,am];unfold mrg;rw[Gn ho]
  .have c:a O=a o:=by simpa using c
   refine{g,a,_,_,_,_,Xb,v,R,ai,ad,λp b=>?_,gf,gt};rw[tk,List.mem_append,List.mem_singleton]at b;rcases b with b|b
   .exact dn p b
   .subst b;exact c
 .rintro σ Q ⟨g,a,F,G,D,h,rfl,v,R,ai,ad,dn,gf,gt⟩;have e:u.take Y.length=u:=by rw[show Y.length=u.length from Gr al,List.take_length]
  rw[e]at dn;exact k _ _ {g,a,_,_,_,_,_,_,_,_,Xb,v,R,ai,ad,dn,gf,gt}
end
inductive ir(L:Th->Int)(u v:Th):Prop
 |mk (w:_) (ps:_) (qs:_) (h0:u=.mk w ps) (h1:v=.mk w qs) (h2:ps.map L=qs.map L):ir L u v
theorem Da{L:Th->Int}(c:∀w a,Th.mk w a∈S->∀p∈a,p∈S)(k:gF tl S L){a b:List Th}(h:Th.mk w a∈S)(j:Th.mk w b∈S)(e:a.map L=b.map L):Cg tl (.mk w a) (.mk w b):=by
 refine .cong (gk.of (by have:=congrArg List.length e;simpa using this) λi p q f g=>?_);have d:(a.map L)[i]?=(b.map L)[i]?:=by rw[e]
 rw[List.getElem?_map,List.getElem?_map,f,g]at d;exact k p (c _ _ h p (List.mem_of_getElem? f)) q (c _ _ j q (List.mem_of_getElem? g)) (To d)
section
variable{P:Gi}{w:Gu}{K:Gd}{mg:GY->Option Value}{base:Heap}{f:Gc}{cdv:Value}{A:TL}{outer:List L9}{s:Gk}{Hi:Hp}{E:XK}
theorem z0(ad:gG mg)(B:(XC P w K mg base f cdv A outer s Hi E).A.units+64<DM):∃t,PS (XC P w K mg base f cdv A outer s Hi E) P7 t/\∀(tl:Tl)(S:List Th)(g:Th->Int)(d e C:Gc)(pq Y:List V)(L:List (Th×Th))(N:Hp)(x0 x1 x2 x3 x5 x7:Option V)
  (hN:Num P w N d S g)(ag:N e=Ga (.lst pq))(ay:gM N pq L)(an:N C=Ga (.lst Y))(af:Zp N Y S)(av:C≠e)(hG:Good tl S L)(hS:gF tl S g)(cl:∀w ps,Th.mk w ps∈S->∀p∈ps,p∈S)(ao:∀t∈S,t.size<=3000)(aB:S.length<=3000)(aE:L.length<=3000),
  Tr t
   (λσ H=>H=N/\∃m M n h l T U,σ=s4 x0 x1 x2 x3 m x5 d x7 e C Gq M n h l T U)
   (λσ H=>mJ λD b m M n h l T U=>hJ (σ=s4 x0 x1 x2 x3 m x5 d x7 e C Gq M n h l T U) (Jk e N H) (H e=Ga (.lst D)) (gM H D b) (Good tl S b) (∀p∈L,p∈b) (∀(k j:Nat)u v,j<k->S[k]?=Ga u->S[j]?=Ga v->ir g u v->(u,v)∈b)):=by
 have nd:=U7.nd;exists _,(Z8 Gv rfl (Vg rfl ad.range (Qa (Qo Xd rfl ad.len GX (Qa (pv 9) Qe)) Qe)) (Z6 11 nd)
  (Qh (Z8 Gv rfl (Vg rfl ad.range (Qa (pv 11) Qe)) (Z6 12 nd)
  (Qd (Qt 4 nd (Qn Ze (pv 9) (pv 11)))
  (Qd (Qt 13 nd (Qn Ze (pv 9) (pv 12)))
  (Qh (Zq (PW.pt (J9 (Qr Va (Qn Q3 (pv 4) Qj) (Qn Q3 (pv 13) Qj) (Q4 _)) (Uq (Qr Va (Qo Xd rfl ad.len GX (Qa (pv 4) Qe)) (Qo Xd rfl ad.len GX (Qa (pv 13) Qe)) (Q4 _)))))
  (Qd (R3 (i:=14) (own:=["_law_part"]) (fv:=[(6,"_law_leaders")]) nd rfl rfl rfl (S:=(by eq_refl:Wa (Qk Vp) _)) (.cons rfl (De Xb) rfl .nil) (V4 (Yo U1 (pv 4) (Yu Qj) Xt))
   (λ_ _ _ _ _=>Xe (i:=0) nd2 rfl (De Xb) (Ej Xb)) (λ_ _ _ _ _=>We) (λ_ _ _ _ _=>(Qn (r:=iH P w) (Ui B) (pv 1) (pv 0))))
  (Qh (Zq (Qr (oE B) (pv 14) (V0 (own:=["_law_part"]) (fv:=[(6,"_law_leaders")]) rfl (S:=(by eq_refl:Wa (Qk Vp) _)) (.cons rfl (De Xb) rfl .nil) (V4 (Yo U1 (pv 13) (Yu Qj) Xt))
   (λ_ _ _ _ _=>Xe (i:=0) nd2 rfl (De Xb) (Ej Xb)) (λ_ _ _ _ _=>We) (λ_ _ _ _ _=>(Qn (r:=iH P w) (Ui B) (pv 1) (pv 0)))) (Q4 _))
  (Qh (Zc (Xk Gs Gy GJ Zr (pv 8) (Qa (Za (Qa (pv 4) (Qa (pv 13) Qe))) Qe)))) Q6))) Q6)))))))
 intro tl S g d e C pq Y L N x0 x1 x2 x3 x5 x7 hN ag ay an af av hG hS cl ao aB aE;rintro aS σ H ⟨rfl,m,M,n,h,l,T,U,rfl⟩ kk;obtain⟨od,au⟩:=hN.at;have aI:d≠e:=λz=>by rw[z,ag]at au;cases au
 have aT:=af.length;let aK:Nat->St->Hp->Prop:=λi σ H1=>yw λD b m M n h l=>gP (σ=s4 x0 x1 x2 x3 m x5 d x7 e C Gq M n h l T U) (Jk e H H1) (H1 e=Ga (.lst D)) (gM H1 D b) (Good tl S b) (∀p∈L,p∈b) (∀(k j:Nat)u v,k<i->j<k->S[k]?=Ga u->S[j]?=Ga v->ir g u v->(u,v)∈b) (b.length<=3000+i*3000)
 refine⟨_,Xb,_,_,Xb,.inl {Y,Zb.of an,Xb},_,Xb,by lia,by lia,Vh (lo:=0) (n:=((Y.length:Int)).toNat) aK
  {pq,L,m,M,n,h,l,Xb,Jk.refl,ag,ay,hG,λ_ y=>y,λk j u v y=>by lia,by lia} ?_ ?_⟩
 .rintro i σ H1 hi ⟨ap,aq,m,M,n,h,l,rfl,q,x,I,O,Q,R,g6⟩;have hi:i<S.length:=by lia
  let aL:Nat->St->Hp->Prop:=λj σ F=>ip λD b m n h l=>kj (σ=s4 x0 x1 x2 x3 m x5 d x7 e C Gq (Ga (.int (0+(i:Int)))) n h l T U) (Jk e H F) (F e=Ga (.lst D)) (gM F D b) (Good tl S b) (∀p∈L,p∈b) (∀(k j:Nat)u v,k<i->j<k->S[k]?=Ga u->S[j]?=Ga v->ir g u v->(u,v)∈b) (∀(o:Nat)u v,o<j->S[i]?=Ga u->S[o]?=Ga v->ir g u v->(u,v)∈b) (b.length<=3000+i*3000+j)
  refine⟨_,Xb,_,Xb,by lia,by lia,Vh (lo:=0) (n:=((0+(i:Int))).toNat) aL
   {ap,aq,m,n,h,l,Xb,q,x,I,O,Q,R,λo u v y=>by lia,by lia} ?_ ?_⟩
  .rintro j σ F hj ⟨Z,ae,m,n,h,l,rfl,q,x,I,O,Q,R,g6,g7⟩;have hj:j<i:=by lia
   obtain⟨v1,e1,t1⟩:=af.at (List.getElem?_eq_getElem hi);obtain⟨v2,e2,t2⟩:=af.at (List.getElem?_eq_getElem (show j<S.length by lia));have tu:Qp H F:=q.Ql ag (λxs z=>by cases z);have N2:Num P w F d S g:=hN.keep (λaJ y=>q _ _ y aI) tu;have az:=q _ _ an av;have m1:S[i]∈S:=List.getElem_mem _;have m2:S[j]∈S:=List.getElem_mem _;have q1:S[i]?=Ga S[i]:=List.getElem?_eq_getElem _;have q2:S[j]?=Ga S[j]:=List.getElem?_eq_getElem _;generalize S[i]=u1 at*;generalize S[j]=u2 at*;obtain⟨b1,w1,aN,aa,rfl,rfl,al,aw⟩:=(t1.Ql tu).inv;obtain⟨b2,w2,aO,ac,rfl,rfl,am,ax⟩:=(t2.Ql tu).inv;have l1:=aw.length;have l2:=ax.length;have z1:=ao _ m1;have z2:=ao _ m2;simp only[Th.size]at z1 z2;have y1:=Zj aa;have y2:=Zj ac;exists _,Xb,_,Xb,C,Y,_,_,Xb,Xb,Zb.of az,(by rw[Ee];exact Qz e1);exists _,Xb,_,Xb,C,Y,_,_,Xb,Xb,Zb.of az,(by rw[Ee];exact Qz e2);exists _,Xb,b1,_,_,_,Xb,Xb,Zz.of al,Qz (j:=0) rfl,_,Xb,b2,_,_,_,Xb,Xb,Zz.of am,Qz (j:=0) rfl,Xb,_,Xb;rw[Xo];have ak:∀{m h l:Option V}{H3:Hp},Qx F H3->¬ir g (.mk w1 aa) (.mk w2 ac)->ip λD b aR n aP aQ=>kj (s4 x0 x1 x2 x3 m x5 d x7 e C Gq (Ga (.int (0+(i:Int)))) (Ga (.int (0+(j:Int)))) h l T U=s4 x0 x1 x2 x3 aR x5 d x7 e C Gq (Ga (.int (0+(i:Int)))) n aP aQ T U) (Jk e H H3) (H3 e=Ga (.lst D)) (gM H3 D b) (Good tl S b) (∀p∈L,p∈b) (∀(k j:Nat)u v,k<i->j<k->S[k]?=Ga u->S[j]?=Ga v->ir g u v->(u,v)∈b) (∀(o:Nat)u v,o<j+1->S[i]?=Ga u->S[o]?=Ga v->ir g u v->(u,v)∈b) (b.length<=3000+i*3000+(j+1)):=λ{m h l H3}sm no=>by
    refine{Z,ae,_,_,_,_,Xb,q.trans (Jk.of sm),sm _ _ x,I.Ql (Qp.of sm),O,Q,R,λo u v y B X c=>?_,by lia};by_cases z:o=j
    .subst z;rw[q1]at B;rw[q2]at X;cases B;cases X;exact absurd c no
    .exact g6 o u v (by lia) B X c
   refine Vu (λc=>?_) (λc=>?_)
   .have c:w1=w2:=by simpa using c
    subst c;exists _,Xb,_,_,Xb,.inr {_,Zz.of al,Xb},_,Xb,_,_,Xb,.inr {_,Zz.of am,Xb},Xb,_,Xb;rw[Vk];refine Vu (λc2=>?_) (λc2=>?_)
    .refine{_,Xb,_,Xb,b1,_,Xb,Zz.of al,Wz _ _,λr hr=>?_};rw[gY];have s3:=Qf hr (.tup aN);refine{r,Xb,{_,Zz.of Qb},λp G=>?_};refine uk (K:=K) Qb (aw.same s3) (cl _ _ m1) (N2.same s3) G (by lia) λH4 aM aC=>?_;have ah:Qx F H4:=s3.trans aM;refine{_,Xb,_,Xb,_,Xb,b2,_,Xb,Zz.of (ah _ _ am),Wz _ _,λr2 aG=>?_};rw[gY];have s5:=Qf aG (.tup aO);refine{r2,Xb,{_,Zz.of Qb},λp2 aF=>?_};refine uk (K:=K) Qb (ax.same (ah.trans s5)) (cl _ _ m2) (N2.same (ah.trans s5)) aF (by lia) λH6 s6 aD=>?_;have aA:Qx H4 H6:=s5.trans s6;have ai:=ah.trans aA;exists .list ((aa.map g).map EB),.list ((ac.map g).map EB),.lst (aA _ _ aC) (qe _),.lst aD (qe _),by simp only[Tt];exact pj _,by simp only[Tt];exact pj _,?_,_,Xb
     .have:=rB (aa.map g);simp only[DK];lia
     have ev:TD (.list ((aa.map g).map EB)) (.list ((ac.map g).map EB))=decide (aa.map g=ac.map g):=by simp only[TD];exact zH _ _
     rw[ev];refine Vu (λW=>?_) (λW=>?_)
     .have W:=TU W;refine{_,Xb,.inl {Xb,_,Zb.of (ai _ _ x)},_,Xb,_,Xb,by show 2<=Gj;decide,λab he=>?_};have s7:=Qf he (.tup [.ref b1,.ref b2]);have aj:=ai.trans s7;have lp:Z.length=ae.length:=Gr I;have ib:i*3000<=3000*3000:=Ed _ (by lia);exists e,Z,.ref ab,Xb,Xb,aj _ _ x,(by rw[Gz];lia);have ar:Qp F (zj (zj H6 ab (.tup [.ref b1,.ref b2])) e (.lst (Z++[.ref ab]))):=(Qp.of aj).trans (Zk λxs z=>by rw[aj _ _ x]at z;cases z);have aH:ab≠e:=λz=>by rw[z,ai _ _ x]at he;cases he
      refine{Z++[.ref ab],ae++[(.mk w1 aa,.mk w1 ac)],_,_,_,_,Xb,λa aJ h1 J=>by rw[Qg J];exact aj _ _ (q _ _ h1 J),Qb,?_,?_,λp G=>List.mem_append_left _ (Q p G),λk j u v h1 J h3 h4 h5=>List.mem_append_left _ (R k j u v h1 J h3 h4 h5),λo u v y B X c=>?_,by rw[List.length_append,List.length_singleton];lia}
      .refine Yh (I.Ql ar) (.cons {ab,_,_,Xb,by rw[Qg aH];exact Qb,(t1.Ql tu).Ql ar,(t2.Ql tu).Ql ar} .nil)
      .intro p G;rcases List.mem_append.mp G with G|G
       .exact O p G
       .rw[List.mem_singleton]at G;subst G;exact{m1,m2,Da cl hS m1 m2 W}
      .by_cases z:o=j
       .subst z;rw[q1]at B;rw[q2]at X;cases B;cases X;exact List.mem_append_right _ List.mem_cons_self
       .exact List.mem_append_left _ (g6 o u v (by lia) B X c)
     .have W:=of_decide_eq_false (SE.mpr W);refine ak ai ?_;rintro⟨w',ps,qs,z1,z2,z3⟩;cases z1;cases z2;exact W z3
    .refine ak (λ_ _ y=>y) ?_;rintro⟨w',ps,qs,z1,z2,z3⟩;cases z1;cases z2;have:=congrArg List.length z3;simp at this;simp at c2;lia
   .refine Zu (ak (λ_ _ y=>y) ?_);have c:¬w1=w2:=by simpa using c
    rintro⟨w',ps,qs,z1,z2,z3⟩;cases z1;cases z2;exact c rfl
  .rintro σ F ⟨Z,ae,m,n,h,l,rfl,q,x,I,O,Q,R,g6,g7⟩;refine{Z,ae,_,_,_,_,_,Xb,q,x,I,O,Q,λk j u v h1 J h3 h4 h5=>?_,by lia};by_cases z:k=i
   .subst z;exact g6 j u v (by lia) h3 h4 h5
   .exact R k j u v (by lia) J h3 h4 h5
 .rintro σ H1 ⟨ap,aq,m,M,n,h,l,rfl,q,x,I,O,Q,R,g6⟩;refine kk _ _ {ap,aq,_,_,_,_,_,_,_,Xb,q,x,I,O,Q,λk j u v h1 J h3 h4=>R k j u v ?_ h1 J h3 h4};have:=(List.getElem?_eq_some_iff.mp J).1;lia
end
section
variable{P:Gi}{w:Gu}{K:Gd}{mg:GY->Option Value}{base:Heap}{f:Gc}{cdv:Value}{A:TL}{outer:List L9}{s:Gk}{Hi:Hp}{E:XK}
theorem P8{L:Th->Int}{c:List (Th×Th)}(h:∀(k j:Nat)u v,j<k->S[k]?=Ga u->S[j]?=Ga v->ir L u v->(u,v)∈c)(e:∀p∈c,L p.1=L p.2):
  ∀w a b,Th.mk w a∈S->Th.mk w b∈S->a.map L=b.map L->L (.mk w a)=L (.mk w b):=by
 intro w a b i l g;obtain⟨k,f⟩:=List.mem_iff_getElem?.mp i;obtain⟨j,d⟩:=List.mem_iff_getElem?.mp l;rcases Fq j k with z|z|z
 .exact e _ (h k j _ _ z f d ⟨w,a,b,Xb,Xb,g⟩)
 .subst z;rw[f]at d;cases d;rfl
 .exact(e _ (h j k _ _ z d f {w,b,a,Xb,Xb,g.symm})).symm
theorem Hh(aC:gG mg)(hu:(XC P w K mg base f cdv A outer s Hi E).A.units+64<DM):∃t,PS (XC P w K mg base f cdv A outer s Hi E) (cSt 7) t/\∀(j:Tl)(S:List Th)(ab:Th->Int)(d m u:Gc)(pq nv:List V)(O:List (Th×Th))(v:Hp)(Q R T U W:Option V)
  (hN:Num P w v d S ab)(af:v m=Ga (.lst pq))(ap:gM v pq O)(aa:v u=Ga (.lst nv))(am:Zp v nv S)(ai:u≠m)(hG:Good j S O)(hS:gF j S ab)(Z:∀w ps,Th.mk w ps∈S->∀p∈ps,p∈S)(aq:∀t∈S,t.size<=3000)(ah:S.length<=3000)(ao:O.length<=3000)
  (N:∀a e,(Gg,a,e)∈j->a∈S/\e∈S/\(a,e)∈O),
  Tr t
   (λσ H=>H=v/\∃M B D F G I J L,σ=s4 Q R T U M B d W m u Gg D F G I J L)
   (λσ H=>iV λL'=>iA (σ[6]?=Ga (Ga (.ref d))) (∀c b,v c=Ga b->c≠d->c≠m->H c=Ga b) (Num P w H d S L') (Tells j S L')):=by
 have nd:=U7.nd;obtain⟨t1,aH,aJ⟩:=z0 (P:=P) (w:=w) (K:=K) (mg:=mg) (base:=base) (f:=f) (cdv:=cdv) (A:=A) (outer:=outer) (s:=s) (Hi:=Hi) (E:=E) aC hu;obtain⟨t2,aI,aK⟩:=BQ (P:=P) (w:=w) (K:=K) (mg:=mg) (base:=base) (f:=f) (cdv:=cdv) (A:=A) (outer:=outer) (s:=s) (Hi:=Hi) (E:=E) hu;exists _,Ws Gv (Wb (pv 10)) (Qd (Qt 10 nd Ww) (Qd aH (Qd aI (Qh (Qt 8 nd (Zl Qe))))));intro j S ab d m u pq nv O v Q R T U W hN af ap aa am ai hG hS Z aq ah ao N;rintro aM σ H ⟨rfl,M,B,D,F,G,I,J,L,rfl⟩ kk;obtain⟨od,ae⟩:=hN.at;have aN:d≠m:=λz=>by rw[z,af]at ae;cases ae
 have au:u≠d:=λz=>by rw[z,ae]at aa;cases aa
 exists λar σ x=>oG λr g o C q M B D F G I J L=>nI (σ=s4 Q R T U M B d W o u r D F G I J L) (∀c b,H c=Ga b->c≠d->c≠m->x c=Ga b) (Num P w x d S g) (gF j S g) (x o=Ga (.lst C)) (gM x C q) (Good j S q) (q.length<=3000) (∀c b,H c=Ga b->c≠d->c≠m->c≠o) (∀a e,(Gg,a,e)∈j->(a,e)∈q\/g a=g e) (ar=(if r=Gg then dis S g+1 else 0)) (r=Gq->Rw j S g),
  {_,Gg,ab,m,pq,O,_,_,_,_,_,_,_,_,Xb,λc b i _ _=>i,hN,hS,af,ap,hG,ao,(λ_ _ _ _ h=>h),λa e h=>.inl (N a e h).2.2,Xb,λz=>by cases z}
 rintro ar σ x ⟨r,g,o,C,q,M,B,D,F,G,I,J,L,rfl,kp,ac,ak,g1,g2,g3,g4,g5,g6,rfl,g7⟩;exists _,Xb,r,Xb;cases r with
 |false=>refine Zu (kk _ _ {g,Xb,kp,ac,g7 Xb,ak})
 |true=>
  refine Y0 {λaB X=>∃m',m'<dis S g+1/\oG λr g o C q M B D F G I J L=>nI (aB=s4 Q R T U M B d W o u r D F G I J L) (∀c b,H c=Ga b->c≠d->c≠m->X c=Ga b) (Num P w X d S g) (gF j S g) (X o=Ga (.lst C)) (gM X C q) (Good j S q) (q.length<=3000) (∀c b,H c=Ga b->c≠d->c≠m->c≠o) (∀a e,(Gg,a,e)∈j->(a,e)∈q\/g a=g e) (m'=(if r=Gg then dis S g+1 else 0)) (r=Gq->Rw j S g),λaB X h=>h,?_};have av:=kp _ _ aa au ai;have aw:u≠o:=g5 _ _ aa au ai;have aL:Qp H x:=λc xs i=>kp c _ i (λz=>by rw[z,ae]at i;cases i) (λz=>by rw[z,af]at i;cases i);have ax:=am.Ql aL;have aE:d≠o:=λz=>by obtain⟨b,ho⟩:=ac.at;rw[z,g1]at ho;cases ho
  refine aJ j S g d o u C nv q x Q R T U B W ac g1 g2 av ax aw g3 ak Z aq ah g4 _ _ _ {Xb,_,_,_,_,_,_,_,Xb} ?_;rintro a0 H2 ⟨aG,ay,y4,aO,aP,aQ,aR,aS,aT,rfl,ad,a1,a2,a3,a4,a5⟩;have aA:Qp x H2:=ad.Ql g1 (λxs z=>by cases z);have N2:Num P w H2 d S g:=ac.keep (λb h=>ad _ _ h aE) aA;have aF:=ad _ _ av aw;refine aK j S g d o u aG nv ay H2 Q R T U W N2 a1 a2 aF (ax.Ql aA) a3 ak ah _ _ _ {Xb,_,_,_,_,_,_,_,_,Xb} ?_;rintro a6 H3 ⟨g',Y,z4,z5,aU,aV,aW,aX,aY,aZ,rfl,aD,N3,az,al,b1,y,b3⟩;refine{Gw _,λp k=>?_};have ag:=Qf k (.lst []);have aj:∀c b,H c=Ga b->c≠d->c≠m->H3 c=Ga b:=λc b i l n=>aD c b (ad c b (kp c b i l n) (g5 c b i l n)) l;have an:∀c b,H c=Ga b->c≠d->c≠m->c≠p:=λc b i l n z=>by rw[<-z,aj c b i l n]at k;cases k
  have told:∀a e,(Gg,a,e)∈j->Y a=Y e:=λa e h=>by
   rcases g6 a e h with z|z
   .exact b1 _ (a4 _ z)
   .exact al a (N a e h).1 e (N a e h).2.1 z
  cases g' with
  |false=>
   have y:=y rfl;have e1:∀p∈ay,g p.1=g p.2:=λp k=>by rw[<-y _ (a3 p k).1,<-y _ (a3 p k).2.1];exact b1 p k
   have cg:=P8 a5 e1;refine{0,by lia,Gq,Y,p,[],[],_,_,_,_,_,_,_,_,Xb,λc b i l n=>ag _ _ (aj c b i l n),N3.same ag,az,Qb,.nil,(λp k=>nomatch k),Gw _,an,λa e h=>.inr (told a e h),Xb,λ_=>{Z,λa e h=>{(N a e h).1,(N a e h).2.1,told a e h},λw ps qs l n i=>?_}};rw[y _ l,y _ n];refine cg w ps qs l n ?_;rw[<-List.map_congr_left λp k=>y p (Z _ _ l p k),<-List.map_congr_left λp k=>y p (Z _ _ n p k)];exact i
  |true=>have:=IQ al (b3 Xb);exact{dis S Y+1,by lia,Gg,Y,p,[],[],_,_,_,_,_,_,_,_,Xb,λc b i l n=>ag _ _ (aj c b i l n),N3.same ag,az,Qb,.nil,(λp k=>nomatch k),Gw _,an,λa e h=>.inr (told a e h),Xb,λz=>by cases z}
end
theorem Ox{T:List Th}(h:Zp H xs (T++[t])):∃a x,xs=a++[x]/\Zp H a T/\Z2 H x t:=by
 induction T generalizing xs with
 |nil=>
  cases h with
  |cons b c=>cases c;exact{[],_,Xb,.nil,b}
 |cons y r d=>
  cases h with
  |cons b c=>obtain⟨a,x,e,f,g⟩:=d c;exact{_::a,x,by rw[e];rfl,.cons b f,g}
theorem Y2:∀a b:List Th,Qs (a++b)=Qs a+Qs b
 |[],b=>by simp[Qs]
 |x::a,b=>by simp only[List.cons_append,Qs,Y2 a b];lia
theorem Vc:∀(l:List Th)(i:Nat),Qs (l.take i)<=Qs l
 |[],i=>by simp
 |x::l,0=>by simp[Qs]
 |x::l,i+1=>by have:=Vc l i;simp only[List.take_succ_cons,Qs];lia
def Ra(tl:Tl):List Th:=tl.flatMap λp=>[p.2.1,p.2.2]
theorem om:∀a:Tl,Qs (Ra a)=Qs (a.map (·.2.1))+Qs (a.map (·.2.2))
 |[]=>by simp[Ra,Qs]
 |p::r=>by have:=om r;unfold Ra at this⊢;simp only[List.flatMap_cons,List.map_cons,List.cons_append,List.nil_append,Qs]at this⊢;lia
theorem oO:t∈Ra tl↔∃p∈tl,t=p.2.1\/t=p.2.2:=by unfold Ra;simp[List.mem_flatMap]
theorem Og:∀a:List TW,TC a []=a.isEmpty
 |[]=>by simp[TC]
 |_::_=>by simp[TC]
theorem Ad(b:Bool):(tw b==("same":GY))=b:=by cases b<;>decide+kernel
theorem vR(a:Tl)(i:Nat)(b:Bool)(u v:Th)(h:a[i]?=Ga (b,u,v)):Rt (a.take (i+1))=Rt (a.take i)++(if b then[(u,v)]else[]):=by unfold Rt;rw[List.take_add_one,h,List.filter_append,List.map_append];cases b<;>rfl
theorem AS(a:Tl):(Rt a).length<=a.length:=by unfold Rt;rw[List.length_map];exact List.length_filter_le _ _
section
variable{P:Gi}{w:Gu}{K:Gd}{mg:GY->Option Value}{base:Heap}
theorem BB(F:Wj K "_law_classes" "_law_classes" Vp f fd)(aj:gG mg):Qu P w K mg base Z5 1 f fd ["_law_told","_law_things"] (mO P w):=by
 refine F.ok U7 (λvs C a0 E b=>?_) (λcdv A outer s C vs a0 E hr b=>?_)
 .obtain⟨a,ai,us,ar,k,M,rfl,_⟩:=b;rfl
 obtain⟨a,ai,us,ar,k,M,rfl,ha,ay,hb,a1,aQ,aP,bf,q⟩:=b;have L:=U7.nd;have hu:=hr.units;obtain⟨t7,a5,a6⟩:=Hh (P:=P) (w:=w) (K:=K) (mg:=mg) (base:=base) (f:=f) (cdv:=cdv) (A:=A) (outer:=outer) (s:=s) (Hi:=C) (E:=E) aj hu;exists _,(Qd (Qt 2 L (Xx Ju rfl aj.list TV (Qa (pv 1) Qe)))
  (Qd (Z8 Gv rfl (Yx (pv 0)) (Vv rfl (Zn (Z6 3 L) (Zn (Z6 4 L) (Zn (Z6 5 L) Wl))))
  (Qh (Qt 2 L (Zh Ue (pv 2) (Zl (Qa (pv 4) (Qa (pv 5) Qe)))))))
  (Qd (Ub (i:=6) L rfl (Ej Xb) Ip)
  (Qd (Ws Gv (Qr (nD hu) (pv 2) (Zl Qe) (Q4 _))
  (Qd (Qt 7 L (jr Gs DD DE iX (pv 2)))
  (Qh (Zq (Qr (zt hu) (pv 7) (pv 6) rfl)
  (Qd (Oj (Qo Pw rfl aj.len GX (Qa (pv 6) Qe)) (jk (pv 6) (pv 7) (jd hu)))
  (Qh (Qt 2 L (Zh Ue (pv 2) (Xx Ju rfl aj.list TV (Qa (Yo U1 (pv 7) (Yu Qj) Xt) Qe)))))) Q6))))
  (Qd (R3 (i:=8) (own:=["_law_deed"]) (fv:=[]) L rfl rfl rfl (S:=(by eq_refl:Wa (Qk Vp) _)) .nil (Yx (pv 0))
   (λ_ _ _ _ _=>Xe (i:=0) (nd1 _) rfl (De Xb) (Ej Xb)) (λ_ _ _ _ _=>y9 (Qr Va (Qn (r:=l8 K) Q3 (pv 0) Qj) Q7 (Q4 _))) (λ_ _ _ _ _=>Yo (r:=ye K) U1 (pv 0) (Yu Qj) Xt))
  (Qd (Qt 9 L (Xx (CU Xb) rfl aj.list TV (Qa (pv 6) Qe)))
  (Qd (Qt 10 L Ww)
  (Qd a5
  (Qh (Qv (pv 6)))))))))))
 have aR:us.length=k.length:=Gr ay;have bg:k.length<=3000:=by have:=Zj (k.map (·.2.1));rw[List.length_map]at this;lia
 refine{_,Xb,ai,ar,Xb,.inl (Zb.of hb),λg U=>?_};have s1:=Qf U (.lst ar);let a3:Nat->St->Hp->Prop:=λi D H1=>gZ λ(g:Gc)(xs:List V)(x3 x4 x5:Option V)=>i8 (D=[Ga (.ref a),Ga (.ref ai),Ga (.ref g),x3,x4,x5,Ge,Ge,Ge,Ge,Ge,Ge,Ge,Ge,Ge,Ge,Ge]) (Qx C H1) (C g=Ge) (H1 g=Ga (.lst xs)) (Zp H1 xs (M++Ra (k.take i)))
 refine⟨_,Xb,a,Xb,{_,Zb.of (s1 _ _ ha)},Xh (K:=K) (a:=a) (xs:=us) a3
  {g,ar,_,_,_,Xb,s1,U,Qb,by simp[Ra];exact a1.same s1} (by rintro i D H1 _ ⟨_,_,_,_,_,_,Z,_⟩;exact Zb.of (Z _ _ ha)) ?_ ?_⟩
 .rintro i x D H1 hi ⟨g,xs,x3,x4,x5,rfl,Z,U,H,I⟩;obtain⟨⟨bb,u1,u2⟩,eu,a',v1,v2,rfl,aw,t1,t2⟩:=Qy ay hi;exists a',_,Xb,Zz.of (Z _ _ aw),Xb,_,_,Xb,_,_,Xb,_,_,Xb,Xb;refine{_,Xb,_,Xb,_,Xb,by show 2<=Gj;decide,λc N=>?_};have W:=Qf N (.lst [v1,v2]);have lx:=I.length;have T:=Zj (M++Ra (k.take i));have b2:Qs (M++Ra (k.take i))<=3000:=by have u:=om (k.take i);have O:=Vc (k.map (·.2.1)) i;have R:=Vc (k.map (·.2.2)) i;rw[List.map_take,List.map_take]at u;rw[Y2];lia
  refine{g,c,xs,[v1,v2],Xb,Xb,W _ _ H,Qb,small (by show xs.length+2<=_;lia),λn Q=>?_};have B:=Qf Q (.lst (xs++[v1,v2]));have m:=(Z.trans W).trans B;exists n,xs++[v1,v2],_,_,_,Xb,m,(Z.trans W).free Q,Qb;have e:M++Ra (k.take (i+1))=(M++Ra (k.take i))++[u1,u2]:=by unfold Ra;rw[List.take_add_one,eu,List.flatMap_append,List.append_assoc];rfl
  rw[e];exact((I.same W).same B).append (.cons (t1.same m) (.cons (t2.same m) .nil))
 rintro D H1 ⟨g,xs,x3,x4,x5,rfl,Z,U,H,I⟩;rw[aR,List.take_length]at I;have aN:∀t∈M++Ra k,t.ok=Gg/\t.depth<=8:=λt h=>by
  rcases List.mem_append.mp h with b|b
  .exact aQ t b
  .obtain⟨p,o,e⟩:=oO.mp b;rcases e with rfl|rfl
   .exact(aP p o).1
   .exact(aP p o).2
 have aT:Qs (M++Ra k)<=3000:=by rw[Y2,om];lia
 have a7:∀t∈M++Ra k,t∈M++Ra k:=λt b=>b;generalize aO:M++Ra k=T0 at I aN aT a7;intro d hd;have ax:C d=Ge:=Z.free hd;have W:=Qf hd (Vx P w d []);have ac:g≠d:=Qc H hd;exists λaS D G=>ip λ(g:Gc)(xs:List V)(l S:List Th)(v:Th->Int)(x7:Option V)=>pK (D=[Ga (.ref a),Ga (.ref ai),Ga (.ref g),x3,x4,x5,Ga (.ref d),x7,Ge,Ge,Ge,Ge,Ge,Ge,Ge,Ge,Ge]) (Qx C G) (C g=Ge) (g≠d) (G g=Ga (.lst xs)) (Zp G xs l) (Num P w G d S v) (∀x∈S,∀y∈S,v x=v y->x=y) (∀x∈S,v x<S.length) (∀w j,Th.mk w j∈S->∀p∈j,p∈S\/p∈l) (∀t∈T0,t∈S\/t∈l) (∀t∈l,t.ok=Gg/\t.depth<=8) (aS=Qs l) (S.length+Qs l<=3000) (∀t∈S,t.size<=3000),
  {_,g,xs,T0,[],λ_=>0,_,Xb,Z.trans W,U,ac,W _ _ H,I.same W,{{[],Qb,(λp o=>nomatch o),Xb,(λt h=>nomatch h)},(λt h=>nomatch h)},(λt h=>nomatch h),(λt h=>nomatch h),(λ_ _ h=>nomatch h),λt h=>.inr h,aN,Xb,by simpa using aT,(λt h=>nomatch h)}
 clear H I U ac W;rintro aS D G ⟨g,xs,l,S,v,x7,rfl,aU,U,ac,H,I,aM,az,aq,cl,X,aA,rfl,sz,aB⟩;have lx:=I.length;have lT:=Zj l;refine{_,Xb,Gw _,λz hz=>?_};have s4:=Qf hz (.lst []);have be:g≠z:=Qc H hz;have a2:okL l=Gg:=by rw[Uv,List.all_eq_true];exactλt h=>(aA t h).1
 exists .list (Wg l),.list [],.lst (s4 _ _ H) (I.same s4).dts,.lst Qb .nil,by simp only[Tt];exact lO l a2,by simp[Tt,Gx],?_,_,Xb
 .simp only[DK,Tv];lia
 have ev:TD (.list (Wg l)) (.list [])=l.isEmpty:=by
  simp only[TD];rw[Og];cases l with
  |nil=>simp[Wg]
  |cons t r=>simp[Wg]
 rw[ev];rcases List.eq_nil_or_concat l with rfl|⟨Tr,t,eT⟩
 ·
  refine Zu ?_;have cl:∀w j,Th.mk w j∈S->∀p∈j,p∈S:=λw j b p o=>(cl w j b p o).resolve_right (by simp);have X:∀t∈T0,t∈S:=λt b=>(X t b).resolve_right (by simp);have R:=aU.trans s4;have N3:=aM.same s4;generalize zj G z (.lst [])=H3 at R N3⊢;refine{_,Xb,a,Xb,{_,Zb.of (R _ _ ha)},λp o=>?_};have sp:=Qf o (.lst []);have aV:C p=Ge:=R.free o;refine Pf (K:=K) (a:=a) (xs:=us) (small (by lia)) (λi T D u=>(∃x0,D=[x0])/\Qx H3 u/\gM u T (Rt (k.take i))) {{_,Xb},sp,by simp[Rt];exact .nil} (by rintro i T D u _ ⟨_,m,_⟩;exact Zb.of (m _ _ (R _ _ ha))) ?_ ?_
  .rintro i x T D u hi ⟨⟨x0,rfl⟩,m,gp⟩ B;obtain⟨⟨bb,u1,u2⟩,eu,a',v1,v2,rfl,aw,t1,t2⟩:=Qy ay hi;have aa:=R.trans m;have a4:=aa _ _ aw;exists _,Xb,a',_,_,_,Xb,Xb,Zz.of a4,Qz (j:=0) rfl,Xb,_,Xb;rw[Xo,Ad];cases bb with
   |true=>
    refine Y0 ?_;refine{_,Xb,_,Xb,a',_,Xb,Zz.of a4,Wz _ _,λr hr=>?_};rw[gY];have N:=Qf hr (.tup [v1,v2]);have av:r≠p:=λz=>by rw[z,B]at hr;cases hr
    have O:Qp u (zj (zj u r (.tup [v1,v2])) p (.lst (T++[.ref r]))):=(Qp.of N).trans (Zk λxs e=>by rw[N _ _ B]at e;cases e);exists N _ _ B,{_,Xb},λc Y e=>?_
    .rw[Qg (Qc e o)];exact N _ _ (m _ _ e)
    .rw[vR k i Gg u1 u2 eu];exact Yh (gp.Ql O) (.cons {r,v1,v2,Xb,by rw[Qg av];exact Qb,(t1.same aa).Ql O,(t2.same aa).Ql O} .nil)
   |false=>refine Zu {B,{_,Xb},m,?_};rw[vR k i Gq u1 u2 eu];simpa using gp
  .rintro T D u ⟨_,m,gp⟩ B;rw[aR,List.take_length]at gp;have N4:=N3.same m;obtain⟨ap,dh,lk,an⟩:=N4.names;refine{_,Xb,d,ap,Xb,dh,λn Q=>?_};have O:=Qf Q (.lst (ap.map λp=>V.ref p.2.1));have N:∀x∈k,x.2.1∈S/\x.2.2∈S:=λx J=>by rw[<-aO]at X;exact{X _ (List.mem_append_right _ (oO.mpr {x,J,.inl Xb})),X _ (List.mem_append_right _ (oO.mpr {x,J,.inr Xb}))}
   refine a6 k S v d p n T _ (Rt k) _ _ _ _ _ _ (N4.same O) (O _ _ B) (gp.Ql (Qp.of O)) Qb (an.same O) (Gp (Qc B Q)) ?_ ?_ cl aB (by lia) (by have:=AS k;lia) ?_ _ _ _ {Xb,_,_,_,_,_,_,_,_,Xb} ?_
   .rintro⟨x,y⟩ ab;have b:=we.mp ab;exact{(N _ b).1,(N _ b).2,.told b}
   .intro x J y hy e;rw[az x J y hy e];exact .refl _
   .intro x y b;exact{(N _ b).1,(N _ b).2,we.mpr b}
   .rintro aW H7 ⟨L7,h6,kp,N7,T7⟩;refine{_,h6,q d S L7 H7 (λc Y e=>?_) ax N7 T7 (λt h=>X t (by rw[<-aO];exact List.mem_append_left _ h)) N};exact kp c Y (O _ _ (m _ _ (R _ _ e))) (Qc e ax) (Qc e aV)
 .have eT:l=Tr++[t]:=by simpa using eT
  subst eT;have aZ:(Tr++[t]).isEmpty=Gq:=by cases Tr<;>rfl
  rw[aZ];refine Y0 ?_;obtain⟨u,x,rfl,k1,k2⟩:=Ox I;have am:Qs (Tr++[t])=Qs Tr+t.size:=by rw[Y2];simp[Qs]
  rw[am]at sz;have bd:=O3 t;obtain⟨ae,ak⟩:=aA t (by simp);exists λaF R=>∃m',m'<Qs (Tr++[t])/\ip λ(g:Gc)(xs:List V)(l S:List Th)(v:Th->Int)(x7:Option V)=>pK (aF=[Ga (.ref a),Ga (.ref ai),Ga (.ref g),x3,x4,x5,Ga (.ref d),x7,Ge,Ge,Ge,Ge,Ge,Ge,Ge,Ge,Ge]) (Qx C R) (C g=Ge) (g≠d) (R g=Ga (.lst xs)) (Zp R xs l) (Num P w R d S v) (∀x∈S,∀y∈S,v x=v y->x=y) (∀x∈S,v x<S.length) (∀w j,Th.mk w j∈S->∀p∈j,p∈S\/p∈l) (∀t∈T0,t∈S\/t∈l) (∀t∈l,t.ok=Gg/\t.depth<=8) (m'=Qs l) (S.length+Qs l<=3000) (∀t∈S,t.size<=3000),λaF R b=>b;have aY:(u++[x])[(u++[x]).length - 1]?=Ga x:=by simp
  exists _,Xb,.inl {Xb,_,Zb.of (s4 _ _ H)},g,_,_,Xb,Xb,s4 _ _ H,aY;rw[List.dropLast_concat];have ad:Jk g G (zj (zj G z (.lst [])) g (.lst u)):=λc Y e b=>by rw[Qg b];exact s4 _ _ e
  have l5:(zj (zj G z (.lst [])) g (.lst u)) g=Ga (.lst u):=Qb;generalize zj (zj G z (.lst [])) g (.lst u)=T at ad l5⊢;have t5:Qp G T:=ad.Ql H (λxs e=>by cases e);have aE:Qx C T:=λc Y e=>ad c Y (aU _ _ e) (Qc e U);have N5:Num P w T d S v:=aM.keep (λY b=>ad _ _ b (Gp ac)) t5;have k1:=k1.Ql t5;have k2:=k2.Ql t5;obtain⟨b0,N,O,j,rfl,rfl,aX,aC⟩:=k2.inv;refine{_,Xb,_,Xb,N5.B7 ae ak k2 {_,Xb,?_}};have aD:∀t∈Tr,t.ok=Gg/\t.depth<=8:=λt h=>aA t (List.mem_append_left _ h);refine Vu (λc=>?_) (λc=>?_)
  .have c:¬Th.mk N j∈S:=by simpa using c
   obtain⟨ap,dh,lk,_⟩:=N5.names;refine{_,Xb,d,ap,Xb,dh,_,Xb,_,Xb,N5.add (by lia) c ae ak k2 λH6 aG N6=>?_};have b6:Jk d T H6:=aG;obtain⟨o5,aI⟩:=N5.at;have ah:Qp T H6:=b6.Ql aI (λxs e=>by cases e);have au:Qx C H6:=λc Y e=>b6 c Y (aE _ _ e) (Qc e ax);have l6:=b6 _ _ l5 ac;have aQ:(Th.mk N j).size=Qs j+1:=by simp only[Th.size]
   have ba:=aC.length;have a9:=Zj j;have bc:=k1.length;have a8:=Zj Tr;refine{_,Xb,_,Xb,_,Xb,b0,_,Xb,Zz.of (ah _ _ aX),Wz _ _,λr aK=>?_};rw[gY];have s7:=Qf aK (.tup O);refine{r,O,Xb,.inr (Zz.of Qb),λl2 aH=>?_};have s8:=Qf aH (.lst O);refine{g,l2,u,O,Xb,Xb,s8 _ _ (s7 _ _ l6),Qb,small (by lia),λn Q=>?_};have s9:=Qf Q (.lst (u++O));have af:=s7.trans s8;have ag:=af.trans s9;obtain⟨o6,aJ⟩:=N6.at;have aL:∀p∈j,p.ok=Gg/\p.depth<=8:=λp o=>by
    have m:okL j=Gg:=by simp only[Th.ok,Td]at ae;exact ae.2
    rw[Uv,List.all_eq_true]at m;have B:=X7 o;simp only[Th.depth]at ak;exact{m p o,by lia}
   exists Qs (Tr++j),?_,n,u++O,Tr++j,S++[Th.mk N j],_,_,Xb,au.trans ag,(au.trans af).free Q,?_,Qb,?_,N6.same ag,?_,?_,?_,?_,?_,Xb,?_
   .rw[am,Y2];lia
   .exactλz=>by rw[z,af _ _ aJ]at Q;cases Q
   .exact((k1.Ql ah).append (aC.Ql ah)).same ag
   .intro x J y hy e;rw[List.mem_append,List.mem_singleton]at J hy;by_cases m:x=Th.mk N j
    .by_cases B:y=Th.mk N j
     .rw[m,B]
     .rw[Gn m,Gh B]at e;have:=aq y (hy.resolve_right B);lia
    .by_cases B:y=Th.mk N j
     .rw[Gh m,Gn B]at e;have:=aq x (J.resolve_right m);lia
     .rw[Gh m,Gh B]at e;exact az x (J.resolve_right m) y (hy.resolve_right B) e
   .intro x J;rw[List.mem_append,List.mem_singleton]at J;rw[List.length_append,List.length_singleton];by_cases m:x=Th.mk N j
    .rw[Gn m];lia
    .rw[Gh m];have:=aq x (J.resolve_right m);lia
   .intro w' ao b p o;rcases List.mem_append.mp b with b|b
    .rcases cl w' ao b p o with z|z
     .exact .inl (List.mem_append_left _ z)
     .rcases List.mem_append.mp z with z|z
      .exact .inr (List.mem_append_left _ z)
      .exact .inl (List.mem_append_right _ z)
    .rw[List.mem_singleton]at b;cases b;exact .inr (List.mem_append_right _ o)
   .intro t h;rcases X t h with z|z
    .exact .inl (List.mem_append_left _ z)
    .rcases List.mem_append.mp z with z|z
     .exact .inr (List.mem_append_left _ z)
     .exact .inl (List.mem_append_right _ z)
   .intro t h;rcases List.mem_append.mp h with z|z
    .exact aD t z
    .exact aL t z
   .rw[Y2,List.length_append,List.length_singleton];lia
   .intro t h;rcases List.mem_append.mp h with z|z
    .exact aB t z
    .rw[List.mem_singleton]at z;rw[z];lia
  .have c:Th.mk N j∈S:=by simpa using c
   refine{Qs Tr,by rw[am];lia,g,u,Tr,S,v,_,Xb,aE,U,ac,l5,k1,N5,az,aq,λw' ao b p o=>?_,λt h=>?_,aD,Xb,by lia,aB}
   .rcases cl w' ao b p o with z|z
    .exact .inl z
    .rcases List.mem_append.mp z with z|z
     .exact .inr z
     .rw[List.mem_singleton]at z;rw[z];exact .inl c
   .rcases X t h with z|z
    .exact .inl z
    .rcases List.mem_append.mp z with z|z
     .exact .inr z
     .rw[List.mem_singleton]at z;rw[z];exact .inl c
end
theorem Hx{g:Type}{F:α->g->Prop}{f:List α}{d:List g}{p:g}(h:Paired F f (d++[p])):∃a x,f=a++[x]/\Paired F a d/\F x p:=by
 induction d generalizing f with
 |nil=>
  cases h with
  |cons b c=>cases c;exact{[],_,Xb,.nil,b}
 |cons y r i=>
  cases h with
  |cons b c=>obtain⟨a,x,e,j,k⟩:=i c;exact{_::a,x,by rw[e];rfl,.cons b j,k}
theorem SL(i:Int)(a:0<=i)(a:i<26):∃c:Nat,atI (("abcdefghijklmnopqrstuvwxyz":GY).cps.toList) i=Ga c/\c<0x110000:=by
 have d:(("abcdefghijklmnopqrstuvwxyz":GY).cps.toList).length=26:=by decide+kernel
 have b:∀c∈(("abcdefghijklmnopqrstuvwxyz":GY).cps.toList),c<0x110000:=by decide+kernel
 have a:i.toNat<(("abcdefghijklmnopqrstuvwxyz":GY).cps.toList).length:=by rw[d];lia
 have e:i=((i.toNat:Nat):Int):=by lia
 have q:=Qz (List.getElem?_eq_getElem a);rw[<-e]at q;exact{_,q,b _ (List.getElem_mem a)}
theorem HQ{c:Nat}{x:GY}(b:c<0x110000)(h:Dc x=Gg):Dc ((⟨#[c]⟩:GY)++x)=Gg:=by show((#[c]++x.cps).all (·<0x110000))=Gg;have a:x.cps.all (·<0x110000)=Gg:=h;rw[SW,a];simp[b]
theorem Pi{c:Nat}{x:GY}:((⟨#[c]⟩:GY)++x).length=x.length+1:=by show(#[c]++x.cps).size=x.cps.size+1;simp;lia
theorem z8{l:Int}(b:1<=l)(h:l*2^k<=10^39):k<130:=by
 rcases Tn k 130 with a|a
 .exact a
 .exfalso;have e:(2:Int)^130<=2^k:=by
   have:(2:Nat)^130<=2^k:=Nat.pow_le_pow_right (by decide) a
   exact_mod_cast this
  have d:(2:Int)^k<=l*2^k:=by have c:(0:Int)<=2^k:=Nv (NP (by decide));have:=EX b c;simpa using this
  have f:(10:Int)^39<2^130:=by decide
  lia
theorem BE{l:Int}(a:1<=l / 26 - 1)(h:l*2^k<=10^39):(l / 26 - 1)*2^(k+1)<=10^39:=by
 have a:(0:Int)<2^k:=NP (by decide);have e:(l / 26 - 1)*2^(k+1)=((l / 26 - 1)*2)*2^k:=by rw[Int.pow_succ];ac_rfl
 rw[e];have:(l / 26 - 1)*2<=l:=by lia
 have:=EX this (Nv a);lia
section
variable{P:Gi}{w:Gu}{K:Gd}{mg:GY->Option Value}{base:Heap}
theorem jY:Qw ["_law_cell","_law_left","_law_word"] ["_law_cell"] (Qk jg):=by eq_refl
theorem JV(F:Wj K "_law_any_word" "_law_any_word" jg f fd)(G:mg "abs"=Ge):Qu P w K mg base Z5 1 f fd ["_law_cell"] uj:=by
 refine F.ok jY (λI H Q E h=>?_) (λC A i s H I Q E S h=>?_)
 .obtain⟨n,rfl,_⟩:=h;rfl
 obtain⟨n,rfl,q⟩:=h;show∃t,Ik ?my _ t/\_;let N:Xf ?my jg 3:={_,Qh (Qv (pv 2))}
 let M:Xf ?my jg 2:=⟨_,Qd (Ws Gv (Qr J4 (pv 1) Qj (Q4 _))
   (Qd (Ub (i:=2) jY.nd rfl (De Xb) (Zh Oi (Qn yh Q7 (Zh Xy (pv 1) Qj)) (pv 2)))
   (Qh (Ub (i:=1) jY.nd rfl (De Xb) (Zh kQ (Zh X0 (pv 1) Qj) Qj))))) N.2⟩
 let J:Xf ?my jg 1:={_,Qd (Ub (i:=2) jY.nd rfl (De Xb) Q7) M.2}
 exists _,Qd (Ub (i:=1) jY.nd rfl (De Xb) (Zh Xy (Qo Al rfl G Ny (Qa (pv 0) Qe)) (Zh wq Qj Qj))) J.2;exists _,Xb,n,Xb,_,_,Xb,Xb,{by decide,by decide,by decide},_,_,Xb,Xb,(by show(0:Int)<10^DT 39;decide);have y:0<=(if n<0 then -n else n) % (10:Int)^(DT 39):=TJ _ (by decide);have B:(if n<0 then -n else n) % (10:Int)^(DT 39)<10^39:=Tq _ (by decide);exists λm v e=>ia λ(l:Int)(x:GY)=>gP (v=[Ga (.int n),Ga (.int l),Ga (.str x)]) (e=H) (-1<=l) (m=(l+1).toNat) (Dc x=Gg) (1<=l->l*2^x.length<=10^39) (0<=l->x.length<=131) (x.length<=132),
  {_,(if n<0 then -n else n) % (10:Int)^(DT 39),"",Xb,Xb,Int.le_trans (by decide) y,Xb,by decide+kernel,λ_=>?_,λ_=>by decide+kernel,by decide+kernel}
 .have:(("":GY).length)=0:=by decide+kernel
  rw[this];generalize (if n<0 then -n else n) % (10:Int)^(DT 39)=L at B⊢;ext
 rintro m v e ⟨l,x,rfl,rfl,O,rfl,p,r,u,R⟩;exists _,Xb,_,_,Xb,Xb,_,Xb;refine Vu (λc=>?_) (λc=>?_)
 .have k:0<=l:=TU c;exists λd j=>iV λb=>iA (d=[Ga (.int n),Ga (.int (l / 26 - 1)),Ga (.str b)]) (j=e) (Dc b=Gg) (b.length=x.length+1),?_
  .rintro d j ⟨b,rfl,rfl,g,a⟩;exists _,?_,l / 26 - 1,b,Xb,Xb,by ext,Xb,g,λz=>?_,λz=>?_
   .ext
   .rw[a];exact BE z (r (by ext))
   .rw[a];have:=z8 (k:=x.length) (l:=l) (by ext) (r (by ext));ext
   .rw[a];have:=u k;ext
  .obtain⟨o,g,a⟩:=SL (l % 26) (TJ _ (by decide)) (Tq _ (by decide));exists _,Xb,_,_,Xb,Xb,(by show(0:Int)<26;decide),_,_,o,Xb,Xb,by decide+kernel,g,_,Xb,_,_,Xb,Xb,?_
   .have D:((⟨#[o]⟩:GY).length)=1:=rfl;have:=u k;rw[Gz,D];ext
   .exists _,Xb,_,_,Xb,Xb,{by decide,by decide},_,_,Xb,Xb;exact{_,Xb,Xb,HQ a p,Pi}
 .exact{_,Xb,q x (by unfold Rz;rw[p,Tc (by ext)];rfl)}
end
def gQ(b H:Hp):List V->List TW->Prop:=Paired λx d=>∃a y z,x=.ref a/\H a=Ga (.tup [y,z])/\Dt b y d/\Dt b z d
theorem gQ.Ql(e:Qp H H')(h:gQ H0 H xs ds):gQ H0 H' xs ds:=
 L2.Paired.Yb h (by rintro x d ⟨a,y,z,b,c,f,g⟩;exact{a,y,z,b,e _ _ c,f,g})
def prD(d:TW):TW:=.tuple [d,d]
theorem gQ.dts(g:Qx H0 H)(h:gQ H0 H xs ds):O6 H xs (ds.map prD):=by
 unfold gQ at h;induction h with
 |nil=>exact .nil
 |cons h r f=>obtain⟨a,y,z,b,c,d,e⟩:=h;subst b;exact .cons (.tup c (.cons (d.same g) (.cons (e.same g) .nil))) f
theorem tP:∀(a:List TW),Gx a=Gg->Gx (a.map prD)=Gg
 |[],_=>by simp[Gx]
 |d::r,h=>by simp only[Gx,Td]at h;have b:=tP r h.2;simp[prD,Gx,Tt,h.1,b]
theorem Oa:∀(b a:List TW),Gx (b++a)=(Gx b&&Gx a)
 |[],a=>by simp[Gx]
 |x::r,a=>by simp[Gx,Oa r a,Bool.and_assoc]
theorem vh:∀{a:List TW}{d:TW},d∈a->d.depth<=Tv a
 |x::r,d,h=>by
  simp only[Tv];rcases List.mem_cons.mp h with rfl|h
  .lia
  .have:=vh h;lia
theorem yI:∀(a:List TW)(n:Nat),Z3 (a.take n)<=Z3 a
 |[],_=>by simp[Z3]
 |x::r,0=>by simp[Z3]
 |x::r,n+1=>by have:=yI r n;simp only[List.take_succ_cons,Z3];lia
def TT(b:Bool):String:=if b then"list"else"tuple"
theorem HC(b:Bool):D0 K (.type (TT b)) [.type "list",.type "tuple"]=Ga Gg:=by
 cases b
 .exact JY
 .exact Aq
theorem ya(b:Bool):Tf K (.type (TT b)) (.type "list")=Ga b:=by
 cases b
 .exact vV
 .exact vm
theorem vY(b:Bool):Tf K (.type (TT b)) (.type "tuple")=Ga (!b):=by
 cases b
 .exact rG
 .exact UF
def hX(b:Bool)(ds:List TW):TW:=if b then .list ds else .tuple ds
theorem t9{b:Bool}(h:Dt H v (hX b ds)):∃p a,v=.ref p/\(Zb K H p a\/Zz K H p a)/\O6 H a ds:=by
 cases b with
 |true=>
  have h:Dt H v (.list ds):=h;cases h with
  |lst e t=>exact{_,_,Xb,.inl (Zb.of e),t}
 |false=>
  have h:Dt H v (.tuple ds):=h;cases h with
  |tup e t=>exact{_,_,Xb,.inr (Zz.of e),t}
theorem yV{b:Bool}(h:Dt H v (hX b ds)):Ro K H v (.type (TT b)):=by
 cases b with
 |true=>
  have h:Dt H v (.list ds):=h;cases h with
  |lst e t=>exact .lst e
 |false=>
  have h:Dt H v (.tuple ds):=h;cases h with
  |tup e t=>exact .tup e
theorem QM(b:Bool)(is:List TW):Oq (hX b is)=Z3 is+1:=by cases b<;>simp[hX,Oq]
theorem Cp(b:Bool)(is:List TW):(hX b is).canLay0=Gx is:=by cases b<;>simp[hX,Tt]
theorem CH(b:Bool)(is:List TW):(hX b is).depth=Tv is+1:=by cases b<;>simp[hX,DK]
theorem Hl(d:TW)(h:d.canLay0=Gg):(∃b is,d=hX b is)\/d=.none\/(∃b,d=.bool b)\/(∃i,d=.int i)\/∃x,d=.str x:=by
 cases d with
 |none=>exact .inr (.inl Xb)
 |bool b=>exact .inr (.inr (.inl ⟨b,Xb⟩))
 |int i=>exact .inr (.inr (.inr (.inl ⟨i,Xb⟩)))
 |str x=>exact .inr (.inr (.inr (.inr ⟨x,Xb⟩)))
 |list is=>exact .inl ⟨Gg,is,Xb⟩
 |tuple is=>exact .inl ⟨Gq,is,Xb⟩
 |dict a=>simp[Tt]at h
theorem jX(g:Qx H H')(h:Zb K H p xs\/Zz K H p xs):Zb K H' p xs\/Zz K H' p xs:=by
 rcases h with h|h
 .exact .inl (g.seq h)
 .refine .inr ?_;rcases h with(h|⟨o,h⟩)|h
  .exact .inl (.inl (g _ _ h))
  .exact .inl (.inr {o,g _ _ h})
  .exact .inr h
theorem qD{i:Int}{Q:VK}(h:Zb K H p xs\/Zz K H p xs)(e:atI xs i=Ga v)(q:Q v H):rIx K (.ref p) (.int i) H Q:=by
 rcases h with h|h
 .exact .inl ⟨p,xs,i,v,Xb,Xb,h,e,q⟩
 .exact .inr (.inl ⟨p,xs,i,v,Xb,Xb,h,e,q⟩)
section
variable{P:Gi}{w:Gu}{K:Gd}{mg:GY->Option Value}{base:Heap}
theorem jJ:Qw ["_law_found","_law_due","_law_todo","_law_one","_law_other","_law_k"] ["_law_found","_law_due"] (Qk sSo):=by eq_refl
theorem AC(F:Wj K "_law_so" "_law_so" sSo f fd)(b:gG mg):Qu P w K mg base Z5 1 f fd ["_law_found","_law_due"] nR:=by
 refine F.ok jJ (λvs m av au Y=>?_) (λaJ aI aO s m vs av au hr Y=>?_)
 .obtain⟨x,y,d,rfl,_⟩:=Y;rfl
 obtain⟨x,y,d,rfl,hx,hy,aC,aE,az,q⟩:=Y;have hu:=hr.units;show∃t,Ik ?my _ t/\_;let w3:Xf ?my sSo 2:={_,Qh (Qv Ww)}
 let w2:Xf ?my sSo 1:=⟨_,Qd (Ws Gv (Qr (nD hu) (pv 2) (Zl Qe) (Q4 _))
   (Qd (Oj (jr Gs DD DE iX (pv 2)) (Vv rfl (Zn (Xe (i:=3) jJ.nd rfl (De Xb)) (Zn (Xe (i:=4) jJ.nd rfl (De Xb)) Wl))))
   (Qh (Zq (Wb (Qo AW rfl b.isinstance Ta (Qa (pv 4) (Qa (Za (Qa (Xn (v:=.ty "list") rfl b.list TV Xb) (Qa (Xn (v:=.ty "tuple") rfl b.tuple TR Xb) Qe))) Qe))))
    (Qd (Zq (Qr Io (Qo Xi rfl b.isinstance Ta (Qa (pv 3) (Qa (Xn (v:=.ty "list") rfl b.list TV Xb) Qe))) (Qo Xi rfl b.isinstance Ta (Qa (pv 4) (Qa (Xn (v:=.ty "list") rfl b.list TV Xb) Qe))) (Q4 _)) (Qh (Qv Ww)) Q6)
    (Qd (Zq (Qr Io (Qo Xi rfl b.isinstance Ta (Qa (pv 3) (Qa (Xn (v:=.ty "tuple") rfl b.tuple TR Xb) Qe))) (Qo Xi rfl b.isinstance Ta (Qa (pv 4) (Qa (Xn (v:=.ty "tuple") rfl b.tuple TR Xb) Qe))) (Q4 _)) (Qh (Qv Ww)) Q6)
    (Qd (Zq (Qr Io (Qo Zg rfl b.len GX (Qa (pv 3) Qe)) (Qo Zg rfl b.len GX (Qa (pv 4) Qe)) (Q4 _)) (Qh (Qv Ww)) Q6)
    (Qh (Z8 Gv rfl (Vg rfl b.range (Qa (Qo Zg rfl b.len GX (Qa (pv 4) Qe)) Qe)) (Xe (i:=5) jJ.nd rfl (De Xb))
     (Qh (Zc (Xk Gs Gy GJ Zr (pv 2) (Qa (Za (Qa (Qn wB (pv 3) (pv 5)) (Qa (Qn wB (pv 4) (pv 5)) Qe))) Qe)))))))))
    (Qh (Zq (Wb (Qo Xi rfl b.isinstance Ta (Qa (pv 4) (Qa (Xn (v:=.ty "str") rfl b.str Lu Xb) Qe))))
     (Qh (Zq (PW.pt (Rx (Jy (Wb (Qo Xi rfl b.isinstance Ta (Qa (pv 3) (Qa (Xn (v:=.ty "str") rfl b.str Lu Xb) Qe))))) (Ia (Qr Io (pv 3) (pv 4) (Q4 _))))) (Qh (Qv Ww)) Q6))
     (Qh (Zq (Wb (Qo Xi rfl b.isinstance Ta (Qa (pv 4) (Qa (Xn (v:=.ty "bool") rfl b.bool Eo Xb) Qe))))
      (Qh (Zq (PW.pt (Rx (Jy (Wb (Qo Xi rfl b.isinstance Ta (Qa (pv 3) (Qa (Xn (v:=.ty "bool") rfl b.bool Eo Xb) Qe))))) (Ia (Qr Io (pv 3) (pv 4) (Q4 _))))) (Qh (Qv Ww)) Q6))
      (Qh (Zq (R7 (QE (pv 4)))
       (Qh (Zq (R7 (rH (pv 3))) (Qh (Qv Ww)) Q6))
       (Qh (Zq (PW.pt (Rx (Jy (Wb (Qo Xi rfl b.isinstance Ta (Qa (pv 3) (Qa (Xn (v:=.ty "int") rfl b.int Lv Xb) Qe))))) (Rx (Wb (Qo Xi rfl b.isinstance Ta (Qa (pv 3) (Qa (Xn (v:=.ty "bool") rfl b.bool Eo Xb) Qe)))) (Ia (Qr Io (pv 3) (pv 4) (Q4 _)))))) (Qh (Qv Ww)) Q6)))))))))))) w3.2⟩
 exists _,Qd (Ub (i:=2) jJ.nd rfl (De Xb) (Zl (Qa (Za (Qa (pv 0) (Qa (pv 1) Qe))) Qe))) w2.2;refine{_,Xb,_,Xb,by show 2<=Gj;decide,λj he=>?_};have s1:=Qf he (.tup [x,y]);refine{by show 1<=Gj;decide,λg hl=>?_};have s2:=Qf hl (.lst [.ref j]);exists λaq Q B=>gZ λ(A:List V)(e:List TW)(N O o:Option V)=>gP (Q=[Ga x,Ga y,Ga (.ref g),N,O,o]) (Qx m B) (B g=Ga (.lst A)) (gQ m B A e) (aq=Z3 e) (Gx e=Gg) (∀d∈e,d.depth<=60) (Z3 e<=1000000),
  {_,[.ref j],[d],Ge,Ge,Ge,Xb,s1.trans s2,Qb,.cons {j,x,y,Xb,s2 _ _ Qb,hx,hy} .nil,Xb,by simp[Gx,aC],?_,by simp[Z3];exact aE}
 .intro n l;rw[List.mem_singleton]at l;subst l;exact az
 have am:m g=Ge:=s1.free hl;rintro aq Q B ⟨A,e,N,O,o,rfl,ae,U,g2,rfl,g3,g4,g5⟩;have aN:A.length=e.length:=Gr g2;refine{_,Xb,Gw _,λz hz=>?_};have s4:=Qf hz (.lst []);have aK:g≠z:=Qc U hz;exists .list (e.map prD),.list [],.lst (s4 _ _ U) ((g2.Ql (Qp.of s4)).dts (ae.trans s4)),.lst Qb .nil,by simp only[Tt];exact tP e g3,by simp[Tt,Gx],?_,_,Xb
 .simp only[DK,Tv];ext
 have ev:TD (.list (e.map prD)) (.list [])=e.isEmpty:=by simp only[TD];rw[Og];cases e<;>rfl
 rw[ev];rcases List.eq_nil_or_concat e with rfl|⟨h,p,ad⟩
 .refine Zu ?_;exact q _ (ae.trans s4)
 .have ad:e=h++[p]:=by simpa using ad
  subst ad;have aF:(h++[p]).isEmpty=Gq:=by cases h<;>rfl
  rw[aF];refine Y0 ?_;obtain⟨l,xl,ex,k1,⟨a,u,v,ea,e2,e3,e4⟩⟩:=Hx g2;subst ex ea;have ag:Z3 (h++[p])=Z3 h+Oq p:=by rw[Wd];simp[Z3]
  rw[ag]at g5;have aL:=uH p;rw[Oa]at g3;simp only[Gx,Td,MU]at g3;obtain⟨ak,af⟩:=g3;have al:∀d∈h,d.depth<=60:=λd E=>g4 d (List.mem_append_left _ E);have ay:p.depth<=60:=g4 p (by simp);have aB:(l++[V.ref a])[(l++[V.ref a]).length - 1]?=Ga (.ref a):=by simp
  have t5:Qp B (zj (zj B z (.lst [])) g (.lst l)):=(Qp.of s4).trans (Zk λA j=>by rw[s4 _ _ U]at j;cases j);have ab:Qx m (zj (zj B z (.lst [])) g (.lst l)):=λc aG j=>by rw[Qg (Qc j am)];exact s4 _ _ (ae _ _ j)
  have l5:(zj (zj B z (.lst [])) g (.lst l)) g=Ga (.lst l):=Qb;have k1:gQ m B l h:=k1;have p5:gQ m (zj (zj B z (.lst [])) g (.lst l)) l h:=k1.Ql t5;exists λR C=>∃Z,Z<Z3 (h++[p])/\gZ λ(A:List V)(e:List TW)(N O o:Option V)=>gP (R=[Ga x,Ga y,Ga (.ref g),N,O,o]) (Qx m C) (C g=Ga (.lst A)) (gQ m C A e) (Z=Z3 e) (Gx e=Gg) (∀d∈e,d.depth<=60) (Z3 e<=1000000),λR C Y=>Y;exists _,Xb,.inl {Xb,_,Zb.of (s4 _ _ U)},g,_,_,Xb,Xb,s4 _ _ U,aB,a,_,Xb,Zz.of (by rw[List.dropLast_concat];exact t5 _ _ e2),Xb,u,_,Xb,v,_,Xb,Xb;rw[List.dropLast_concat];generalize zj (zj B z (.lst [])) g (.lst l)=H5 at*;have aa:∀{R:St}{C:Hp}{o:Option V},R=[Ga x,Ga y,Ga (.ref g),Ga u,Ga v,o]->Qx H5 C->∃Z,Z<Z3 (h++[p])/\gZ λ(A:List V)(e:List TW)(N O o:Option V)=>gP (R=[Ga x,Ga y,Ga (.ref g),N,O,o]) (Qx m C) (C g=Ga (.lst A)) (gQ m C A e) (Z=Z3 e) (Gx e=Gg) (∀d∈e,d.depth<=60) (Z3 e<=1000000):=λ{R C o}j gs=>{Z3 h,by rw[ag];ext,l,h,_,_,_,j,ab.trans gs,gs _ _ l5,p5.Ql (Qp.of gs),Xb,ak,al,by ext}
  have T:Dt H5 v p:=e4.same ab;have S:Dt H5 u p:=e3.same ab;refine{_,Xb,by show 2<=Gj;decide,λc hc=>?_};have H:=Qf hc (.tup [.ty "list",.ty "tuple"]);rcases Hl p af with⟨n,r,rfl⟩|rfl|⟨bb,rfl⟩|⟨i,rfl⟩|⟨xx,rfl⟩
  .obtain⟨pu,J,rfl,ap,ai⟩:=t9 (K:=K) e3;obtain⟨pw,D,rfl,ah,aj⟩:=t9 (K:=K) e4;have tu:=yV (K:=K) (S.same H);have tv:=yV (K:=K) (T.same H);have lu:=ai.length;have lw:=aj.length;have ar:Oq (hX n r)=Z3 r+1:=QM n r;have aM:=U2 r;have aw:Gx r=Gg:=by rw[Cp]at af;exact af
   have ax:∀d∈r,d.depth<=60:=λd E=>by have L:=vh E;rw[CH]at ay;ext
   refine{_,c,_,_,TT n,Gg,Xb,Qb,tv,HC n,Gg,Xb,Y0 ?_};refine{_,Xb,_,_,_,n,Xb,tu,ya n,_,Xb,_,_,_,n,Xb,tv,ya n,Xb,_,Xb,jt rfl ?_};refine{_,Xb,_,_,_,!n,Xb,tu,vY n,_,Xb,_,_,_,!n,Xb,tv,vY n,Xb,_,Xb,jt rfl ?_};have ac:=ab.trans H;refine{_,Xb,pu,J,Xb,jX ac ap,_,Xb,pw,D,Xb,jX ac ah,Xb,_,Xb,jt (by rw[lu,lw]) ?_};have ao:((D.length:Int)).toNat=D.length:=by simp
   let aH:Nat->St->Hp->Prop:=λk Q I=>ia λ(o:Option V)(G:List V)=>iA (Q=[Ga x,Ga y,Ga (.ref g),Ga (.ref pu),Ga (.ref pw),o]) (Qx m I) (I g=Ga (.lst (l++G))) (gQ m I (l++G) (h++r.take k))
   refine⟨_,Xb,pw,D,Xb,jX ac ah,_,Xb,by ext,by ext,Vh (lo:=0) (n:=((D.length:Int)).toNat) aH
    {_,[],Xb,ac,by rw[List.append_nil];exact H _ _ l5,by rw[List.append_nil,List.take_zero,List.append_nil];exact p5.Ql (Qp.of H)} ?_ ?_⟩
   .rintro k Q I hk ⟨o,G,rfl,W,M,X⟩;rw[ao]at hk;have aA:k<J.length:=by ext
    have eu:J[k]?=Ga J[k]:=List.getElem?_eq_getElem aA;have ew:D[k]?=Ga D[k]:=List.getElem?_eq_getElem hk;obtain⟨d1,f1,f2⟩:=ai.get eu;obtain⟨d2,f3,f4⟩:=aj.get ew;rw[f1]at f3;cases f3;have lg:(l++G).length=(h++r.take k).length:=Gr X;have ln:=U2 (h++r.take k);rw[Wd]at ln;have lt:=yI r k;refine{_,Xb,.inl {Xb,_,Zb.of M},_,Xb,_,Xb,qD (jX W ap) (by rw[Ee];exact Qz eu) ?_};refine{_,Xb,_,Xb,qD (jX W ah) (by rw[Ee];exact Qz ew) ?_};refine{by show 2<=Gj;decide,λL an=>?_};have s8:=Qf an (.tup [J[k],D[k]]);have aD:g≠L:=Qc M an;exists g,l++G,.ref L,Xb,Xb,s8 _ _ M,(by rw[Gz];ext);have t8:Qp I (zj (zj I L (.tup [J[k],D[k]])) g (.lst (l++G++[.ref L]))):=(Qp.of s8).trans (Zk λA j=>by rw[s8 _ _ M]at j;cases j);exists _,G++[.ref L],Xb,λn aG j=>?_,(by rw[Qb,List.append_assoc])
    .rw[Qg (Qc j am)];exact s8 _ _ (W _ _ j)
    .rw[List.take_add_one,f1,<-List.append_assoc,<-List.append_assoc];refine DN (X.Ql t8) {L,J[k],D[k],Xb,?_,f2,f4};rw[Qg (Gp aD)];exact Qb
   .rintro Q I ⟨o,G,rfl,W,M,X⟩;rw[ao,lw,List.take_length]at X;exists Z3 (h++r),?_,l++G,h++r,_,_,_,Xb,W,M,X,Xb,?_,?_
    .rw[ag,Wd,ar];ext
    .rw[Oa,ak,aw];rfl
    .intro d E;rcases List.mem_append.mp E with E|E
     .exact al d E
     .exact ax d E
    .rw[Wd];rw[ar]at g5;ext
  .cases T;cases S;refine{_,c,_,_,_,Gq,Xb,Qb,.non,lj UC IG,Gq,Xb,Zu ?_};refine{_,Xb,_,_,_,Gq,Xb,.non,C4,Gq,Xb,Zu ?_};refine{_,Xb,_,_,_,Gq,Xb,.non,KQ,Gq,Xb,Zu ?_};refine{_,Xb,_,Xb,Y0 ?_};refine{_,Xb,_,Xb,Zu ?_};exact aa rfl H
  .cases T;cases S;refine{_,c,_,_,_,Gq,Xb,Qb,.bl _,lj AX Cc,Gq,Xb,Zu ?_};refine{_,Xb,_,_,_,Gq,Xb,.bl _,C9,Gq,Xb,Zu ?_};refine{_,Xb,_,_,_,Gg,Xb,.bl _,uR,Gg,Xb,Y0 ?_};refine{_,Xb,_,_,_,Gg,Xb,.bl _,uR,Gg,Xb,Zu ?_};refine{_,Xb,_,Xb,Xb,_,Xb,jt rfl ?_};exact aa rfl H
  .cases T;cases S;refine{_,c,_,_,_,Gq,Xb,Qb,.int _,lj IV Av,Gq,Xb,Zu ?_};refine{_,Xb,_,_,_,Gq,Xb,.int _,K4,Gq,Xb,Zu ?_};refine{_,Xb,_,_,_,Gq,Xb,.int _,nz,Gq,Xb,Zu ?_};refine{_,Xb,_,Xb,Zu ?_};refine{_,Xb,_,_,_,Gg,Xb,.int _,qX,Gg,Xb,Zu ?_};refine{_,Xb,_,_,_,Gq,Xb,.int _,nz,Gq,Xb,Zu ?_};refine{_,Xb,_,Xb,Xb,_,Xb,jt rfl ?_};exact aa rfl H
  .cases T;cases S;refine{_,c,_,_,_,Gq,Xb,Qb,.str _,lj JX PY,Gq,Xb,Zu ?_};refine{_,Xb,_,_,_,Gg,Xb,.str _,zi,Gg,Xb,Y0 ?_};refine{_,Xb,_,_,_,Gg,Xb,.str _,zi,Gg,Xb,Zu ?_};refine{_,Xb,_,Xb,Xb,_,Xb,jt rfl ?_};exact aa rfl H
end
theorem Ie{b:List V}{a:List Th}(c:H p=Ge)(h:Zp H b a):Z2 (zj H p (.tup (.str w::b))) (.ref p) (.mk w a):=.mk Qb (h.same (Qf c _))
structure iZ(t u:Th)(r:Th):Prop where
 ok:t.ok=Gg->u.ok=Gg->r.ok=Gg
 dep:r.depth<=max t.depth u.depth+1
 siz:r.size<=t.size+u.size+2
 sh:t.short=Gg->u.short=Gg->r.short=Gg
 pts:∀p∈r.parts,p=t\/p=u\/p=.mk "tab" []
theorem uW(hw:Rz w=Gg):iZ t u (.mk w [t]):={λa _=>by simp[Th.ok,okL,Rz.str hw,a],by simp only[Th.depth,X6];lia,by simp only[Th.size,Qs];lia,λa _=>by simp[Th.short,Jp,Rz.len hw,a],λp b=>by simp only[Th.parts,List.mem_cons,List.not_mem_nil,E4]at b;exact .inl b}
theorem pE(hw:Rz w=Gg):iZ t u (.mk w [t,u]):={λa b=>by simp[Th.ok,okL,Rz.str hw,a,b],by simp only[Th.depth,X6];lia,by simp only[Th.size,Qs];lia,λa b=>by simp[Th.short,Jp,Rz.len hw,a,b],λp c=>by simp only[Th.parts,List.mem_cons,List.not_mem_nil,E4]at c;exact c.elim .inl (λh=>.inr (.inl h))}
theorem KM(hw:Rz w=Gg)(d:Rz "tab"=Gg):iZ t u (.mk w [t,u,.mk "tab" []]):={λa b=>by simp[Th.ok,okL,Rz.str hw,Rz.str d,a,b],by have:=qg t;simp only[Th.depth,X6];lia,by simp only[Th.size,Qs];lia,λa b=>by simp[Th.short,Jp,Rz.len hw,Rz.len d,a,b],λp c=>by simp only[Th.parts,List.mem_cons,List.not_mem_nil,E4]at c;exact c}
theorem qO(hw:Rz w=Gg):iZ t u (.mk w []):={λa b=>by simp[Th.ok,okL,Rz.str hw],by simp only[Th.depth,X6];ext,by simp only[Th.size,Qs];ext,λa b=>by simp[Th.short,Jp,Rz.len hw],λp c=>by simp[Th.parts]at c}
inductive n8(H:Hp)(l:Gc)(t u:Th):Prop
 |mk (vs:List V) (h0:H l=Ga (.lst vs)) (h1:vs.length=4) (h2:∀v∈vs,∃r,Z2 H v r/\iZ t u r):n8 H l t u
theorem vL{r:Th}(D:Drawn ts m)(c:ts[a]?=Ga t)(d:ts[b]?=Ga u)(e:b<5)(R:iZ t u r):Drawn (ts++[r]) (m+1):=by
 have q:a<ts.length:=(List.getElem?_eq_some_iff.mp c).1;have v:b<ts.length:=(List.getElem?_eq_some_iff.mp d).1;have o:=D.len;have cases:∀(j:Nat)s,(ts++[r])[j]?=Ga s->ts[j]?=Ga s\/(j=ts.length/\s=r):=λj s e=>by
  rcases Tn j ts.length with h|h
  .left;rw[List.getElem?_append_left h]at e;exact e
  .right;rw[List.getElem?_append_right h]at e;have f:j - ts.length=0:=by have:=(List.getElem?_eq_some_iff.mp e).1;simp at this;lia
   rw[f]at e;simp at e;exact{by lia,e.symm}
 have k:=D.dep a t c;have l:=D.dep b u d;have n:=R.dep;have w:=D.any a t c;have x:=D.tri b u d (by lia);have y:=R.siz;refine⟨by rw[List.length_append,List.length_singleton];lia,λs g=>?_,λj s e=>?_,λj s e f=>?_,λj s e f=>?_,λj s e f=>?_,λj s e=>?_,λs g=>by
   rcases List.mem_append.mp g with h|h
   .exact D.sh s h
   .rw[List.mem_singleton]at h;subst h;exact R.sh (D.sh t (List.mem_of_getElem? c)) (D.sh u (List.mem_of_getElem? d)),by rw[List.getElem?_append_left (by lia)];exact D.tab,λs g p i=>?_⟩
 .rcases List.mem_append.mp g with h|h
  .exact D.ok s h
  .rw[List.mem_singleton]at h;subst h;exact R.ok (D.ok t (List.mem_of_getElem? c)) (D.ok u (List.mem_of_getElem? d))
 .rcases cases j s e with h|⟨rfl,rfl⟩
  .exact D.dep j s h
  .lia
 .rcases cases j s e with h|⟨rfl,rfl⟩
  .exact D.one j s h f
  .lia
 .rcases cases j s e with h|⟨rfl,rfl⟩
  .exact D.two j s h f
  .have:=D.one a t c (by lia);have:=D.one b u d (by lia);lia
 .rcases cases j s e with h|⟨rfl,rfl⟩
  .exact D.tri j s h f
  .have:=D.two a t c (by lia);have:=D.two b u d (by lia);lia
 .rcases cases j s e with h|⟨rfl,rfl⟩
  .exact D.any j s h
  .lia
 .rcases List.mem_append.mp g with h|h
  .exact List.mem_append_left _ (D.cl s h p i)
  .rw[List.mem_singleton]at h;subst h;refine List.mem_append_left _ ?_;rcases R.pts p i with h|h|h
   .rw[h];exact List.mem_of_getElem? c
   .rw[h];exact List.mem_of_getElem? d
   .rw[h];exact List.mem_of_getElem? D.tab
theorem V7(a:List α)(i:Int)(b:0<=i)(b:i<a.length):∃v,atI a i=Ga v/\a[i.toNat]?=Ga v:=by
 have b:i.toNat<a.length:=by lia
 have e:i=((i.toNat:Nat):Int):=by lia
 have q:=Qz (List.getElem?_eq_getElem b);rw[<-e]at q;exact{_,q,List.getElem?_eq_getElem b}
section
variable{P:Gi}{w:Gu}{K:Gd}{mg:GY->Option Value}{base:Heap}
theorem vv:Qw ["_law_cells","_law_things","_law_cell","_law_rest","_law_one","_law_other","_law_made","_law_word","_law_three"] ["_law_cells"] (Qk j7):=by eq_refl
theorem BY{k:Gc}{gd:Tp}(F:Wj K "_law_drawn_things" "_law_drawn_things" j7 f fd)(ad:gG mg)(aA:Qu P w K mg base Z5 1 k gd ["_law_cell"] uj)(kG:KI K k)(bG:zk K gd ["_law_cell"] [])(mG:MG mg "_law_any_word" k):
  Qu P w K mg base Z5 2 f fd ["_law_cells"] (yc K):=by
 refine F.ok vv (λh H g e ae=>?_) (λu j B s H h g e hr ae=>?_)
 .obtain⟨a,ns,rfl,_⟩:=ae;rfl
 obtain⟨a,ns,rfl,hS,aO,q⟩:=ae;have l:=vv.nd;show∃t,Ik ?my _ t/\_;let w3:Xf ?my j7 2:={_,Qh (Qv (pv 1))}
 let w2:Xf ?my j7 1:=⟨_,Qd (Z8 Gv rfl (Yx (pv 0)) (Z6 2 l)
   (Qd (Qt 3 l (Zh X0 (pv 2) Qj))
   (Qd (Qt 4 l (Qn Ze (pv 1) (Zh Xy (pv 3) (Qo Zg rfl ad.len GX (Qa (pv 1) Qe)))))
   (Qd (Qt 5 l (Qn Ze (pv 1) (Zh Xy (Zh X0 (pv 3) Qj) (Qo (Co Xb) rfl ad.min Nz (Qa Qj (Qa (Qo Zg rfl ad.len GX (Qa (pv 1) Qe)) Qe))))))
   (Qd (Qt 6 l (Zl (Qa (Za (Qa Q7 (Qa (pv 4) Qe))) (Qa (Za (Qa Q7 (Qa (pv 4) (Qa (pv 5) Qe)))) (Qa (Za (Qa Q7 (Qa (pv 4) (Qa (pv 5) Qe)))) (Qa (Za (Qa Q7 Qe)) Qe))))))
   (Qd (Zq (Qr Va (Zh Xy (pv 2) Qj) Qj (Q4 _))
    (Qd (Qt 7 l (Qn Ze (Zl (Qa (Zs aA hr rfl mG kG bG .nil Q5 (Qa (Zh X0 (pv 2) Qj) Qe)) (Qa Q7 Qe))) (Zh Xy (Zh X0 (pv 2) Qj) Qj)))
    (Qd (Qt 8 l (Za (Qa (pv 7) (Qa (pv 4) (Qa (pv 5) (Qa (Za (Qa Q7 Qe)) Qe))))))
    (Qh (Qt 6 l (Zl (Qa (Za (Qa (pv 7) (Qa (pv 4) Qe))) (Qa (Za (Qa (pv 7) (Qa (pv 4) (Qa (pv 5) Qe)))) (Qa (pv 8) (Qa (Za (Qa (pv 7) Qe)) Qe)))))))))
    Q6)
   (Qh (Zc (Xk Gs Gy GJ Zr (pv 1) (Qa (Qn Ze (pv 6) (Zh Xy (pv 2) Qj)) Qe)))))))))) w3.2⟩
 exists _,Qd (Qt 1 l (Zl (Qa (Za (Qa Q7 Qe)) (Qa (Za (Qa Q7 Qe)) (Qa (Za (Qa Q7 Qe)) Qe))))) w2.2;have aL:Rz ("sab":GY)=Gg:=by decide+kernel
 have az:Rz ("tab":GY)=Gg:=by decide+kernel
 have aN:Rz ("sob":GY)=Gg:=by decide+kernel
 have aM:Rz ("sat":GY)=Gg:=by decide+kernel
 have ak:Rz ("fig":GY)=Gg:=by decide+kernel
 have aC:Rz ("fog":GY)=Gg:=by decide+kernel
 have aI:Rz ("hog":GY)=Gg:=by decide+kernel
 refine{by show 1<=Gj;decide,λp1 h1=>{by show 1<=Gj;decide,λp2 h2=>{by show 1<=Gj;decide,λp3 h3=>{by show 3<=Gj;decide,λp hp=>?_}}}};have s1:=Qf h1 (.tup [.str "sab"]);have s2:=Qf h2 (.tup [.str "tab"]);have X:=Qf h3 (.tup [.str "sob"]);have s4:=Qf hp (.lst [.ref p1,.ref p2,.ref p3]);have ag:H p=Ge:=((s1.trans s2).trans X).free hp;have i1:Z2 _ (.ref p1) (.mk "sab" []):=(Ie (w:="sab") h1 .nil).same ((s2.trans X).trans s4);have i2:Z2 _ (.ref p2) (.mk "tab" []):=(Ie (w:="tab") h2 .nil).same (X.trans s4);have i3:Z2 _ (.ref p3) (.mk "sob" []):=(Ie (w:="sob") h3 .nil).same s4;let aK:Nat->St->Hp->Prop:=λi ac m=>mJ λ(b:List V)(v:List Th)(x2 x3 x4 x5 x6 x7 x8:Option V)=>i8 (ac=[Ga (.ref a),Ga (.ref p),x2,x3,x4,x5,x6,x7,x8]) (Qx H m) (m p=Ga (.lst b)) (Zp m b v) (Drawn v i)
 refine⟨_,Xb,a,Xb,{_,(((s1.trans s2).trans X).trans s4).seq hS},Xh (K:=K) (a:=a) (xs:=ns.map V.int) aK
  {_,_,_,_,_,_,_,_,_,Xb,((s1.trans s2).trans X).trans s4,Qb,.cons i1 (.cons i2 (.cons i3 .nil)),?_} (by rintro i ac m _ ⟨_,_,_,_,_,_,_,_,_,_,k,_⟩;exact k.seq hS) ?_ ?_⟩
 .refine{Xb,λt e=>?_,λg t d=>?_,λg t d _=>?_,λg t d _=>?_,λg t d _=>?_,λg t d=>?_,λt e=>by simp at e;rcases e with rfl|rfl|rfl<;>decide+kernel,rfl,λt e p hp=>?_}
  .simp at e;rcases e with rfl|rfl|rfl
   .simp[Th.ok,okL,Rz.str aL]
   .simp[Th.ok,okL,Rz.str az]
   .simp[Th.ok,okL,Rz.str aN]
  rotate_right
  .simp at e;rcases e with rfl|rfl|rfl<;>simp[Th.parts]at hp
  all_goals
   have N:=List.mem_of_getElem? d;simp at N;rcases N with rfl|rfl|rfl<;>simp[Th.depth,X6,Th.size,Qs]
 .rintro i y ac m D ⟨b,v,x2,x3,x4,x5,x6,x7,x8,rfl,k,n,r,A⟩;obtain⟨c,rfl⟩:∃z,y=V.int z:=by
   rw[List.getElem?_map]at D;cases d:ns[i]? with
   |none=>rw[d]at D;cases D
   |some z=>rw[d]at D;exact{z,(To D).symm}
  have aF:i<(ns.map V.int).length:=(List.getElem?_eq_some_iff.mp D).1;rw[List.length_map]at aF;have lu:=r.length;have ld:=A.len;have hL:(b.length:Int)=3+i:=by ext
  exists _,Xb,_,_,Xb,Xb,{by decide,by decide};obtain⟨g,a1,b1⟩:=V7 b (c / 4 % (b.length:Int)) (TJ _ (by ext)) (Tq _ (by ext));exists _,Xb,_,Xb,_,Xb,p,b,Xb,.inl (Zb.of n),_,_,Xb,Xb,(by show(0:Int)<b.length;ext),p,b,_,g,Xb,Xb,Zb.of n,a1;have E:(if(b.length:Int)<5 then(b.length:Int)else 5)<=b.length/\0<(if(b.length:Int)<5 then(b.length:Int)else 5)/\(if(b.length:Int)<5 then(b.length:Int)else 5)<=5:=by split<;>ext
  obtain⟨j,a2,b2⟩:=V7 b (c / 4 / 5 % (if(b.length:Int)<5 then(b.length:Int)else 5)) (TJ _ (by ext)) (Int.lt_of_lt_of_le (Tq _ E.2.1) E.1);have ay:(c / 4 / 5 % (if(b.length:Int)<5 then(b.length:Int)else 5)).toNat<5:=by have h1:=Tq (c / 4 / 5) E.2.1;have h2:=TJ (c / 4 / 5) (Int.ne_of_gt E.2.1);have h3:=E.2.2;ext
  exists _,Xb,_,Xb,_,_,Xb,Xb,{by decide,by decide},_,Xb,p,b,Xb,.inl (Zb.of n),5,_,Xb,_,_,Xb,Xb,E.2.1,p,b,_,j,Xb,Xb,Zb.of n,a2;obtain⟨t1,c1,G⟩:=r.get b1;obtain⟨t2,c2,k2⟩:=r.get b2;refine{_,Xb,by show 2<=Gj;decide,λq1 am=>{_,Xb,_,Xb,by show 3<=Gj;decide,λq2 an=>{_,Xb,_,Xb,by show 3<=Gj;decide,λq3 ao=>{by show 1<=Gj;decide,λq4 ap=>{by show 4<=Gj;decide,λai hl=>?_}}}}};have B:=Qf am (.tup [.str "fig",g]);have J:=Qf an (.tup [.str "fog",g,j]);have e3:=Qf ao (.tup [.str "fig",g,j]);have L:=Qf ap (.tup [.str "sat"]);have C:=Qf hl (.lst [.ref q1,.ref q2,.ref q3,.ref q4]);have aa:=(((B.trans J).trans e3).trans L).trans C;have m1:=(Ie (w:="fig") am (.one G)).same (((J.trans e3).trans L).trans C);have m2:=(Ie (w:="fog") an (.cons (G.same B) (.one (k2.same B)))).same ((e3.trans L).trans C);have m3:=(Ie (w:="fig") ao (.cons (G.same (B.trans J)) (.one (k2.same (B.trans J))))).same (L.trans C);have m4:=(Ie (w:="sat") ap .nil).same C;generalize al:zj (zj (zj (zj (zj m q1 (.tup [.str "fig",g])) q2 (.tup [.str "fog",g,j])) q3 (.tup [.str "fig",g,j])) q4 (.tup [.str "sat"])) ai (.lst [.ref q1,.ref q2,.ref q3,.ref q4])=Y at*;have aD:n8 Y ai t1 t2:=by
   refine{_,by rw[<-al];exact Qb,Xb,λh O=>?_};simp at O;rcases O with rfl|rfl|rfl|rfl
   .exact{_,m1,uW ak}
   .exact{_,m2,pE aC}
   .exact{_,m3,pE ak}
   .exact{_,m4,qO aM}
  clear m1 m2 m3 m4 al B J e3 L C;exists _,Xb,_,_,Xb,Xb,(by show(0:Int)<9;decide),Xb,_,Xb;refine Vu (λ_=>?_) (λ_=>?_)
  .refine{_,Xb,_,_,Xb,Xb,{by decide,by decide},_,Xb,λx hx=>{by show 2<=Gj;decide,λl2 aG=>?_}};have d1:=Qf aG (.lst [.str x,.str "hog"]);obtain⟨wv,a3,b3⟩:=V7 [V.str x,V.str "hog"] (c / 36 % 2) (TJ _ (by decide)) (Tq _ (by decide));have aJ:∃e,wv=.str e/\Rz e=Gg:=by
    have N:=List.mem_of_getElem? b3;simp at N;rcases N with rfl|rfl
    .exact{_,Xb,hx}
    .exact{_,Xb,aI}
   obtain⟨e,rfl,ab⟩:=aJ;exists _,Xb,_,_,Xb,Xb,{by decide,by decide},_,_,Xb,Xb,(by show(0:Int)<2;decide),l2,_,_,_,Xb,Xb,Zb.of Qb,a3;refine{_,Xb,_,Xb,_,Xb,by show 1<=Gj;decide,λU aw=>{by show 4<=Gj;decide,λW ax=>?_}};have d2:=Qf aw (.tup [.str "tab"]);have d3:=Qf ax (.tup [.str e,g,j,.ref U]);refine{_,Xb,_,Xb,by show 2<=Gj;decide,λQ aq=>{_,Xb,_,Xb,_,Xb,by show 3<=Gj;decide,λS ar=>{_,Xb,_,Xb,by show 1<=Gj;decide,λT au=>{by show 4<=Gj;decide,λl3 aH=>?_}}}};have d4:=Qf aq (.tup [.str e,g]);have d5:=Qf ar (.tup [.str e,g,j]);have Z:=Qf au (.tup [.str e]);have I:=Qf aH (.lst [.ref Q,.ref S,.ref W,.ref T]);have aP:=d1;have z2:=aa.trans d1;have z3:=z2.trans d2;have z4:=z3.trans d3;have z5:=z4.trans d4;have z6:=z5.trans d5;have tb:=(Ie (w:="tab") aw .nil);have n1:=(Ie (w:=e) ax (.cons (G.same z3) (.cons (k2.same z3) (.one tb)))).same (((d4.trans d5).trans Z).trans I);have n2:=(Ie (w:=e) aq (.one (G.same z4))).same ((d5.trans Z).trans I);have n3:=(Ie (w:=e) ar (.cons (G.same z5) (.one (k2.same z5)))).same (Z.trans I);have n4:=(Ie (w:=e) au .nil).same I;have zz:=(z6.trans Z).trans I;have up:=@Qb (zj (zj (zj (zj (zj (zj Y l2 (.lst [.str x,.str "hog"])) U (.tup [.str "tab"])) W (.tup [.str e,g,j,.ref U])) Q (.tup [.str e,g])) S (.tup [.str e,g,j])) T (.tup [.str e])) l3 (.lst [.ref Q,.ref S,.ref W,.ref T]);generalize zj (zj (zj (zj (zj (zj (zj Y l2 (.lst [.str x,.str "hog"])) U (.tup [.str "tab"])) W (.tup [.str e,g,j,.ref U])) Q (.tup [.str e,g])) S (.tup [.str e,g,j])) T (.tup [.str e])) l3 (.lst [.ref Q,.ref S,.ref W,.ref T])=H4 at*;have aE:n8 H4 l3 t1 t2:=by
    refine{_,up,Xb,λh O=>?_};simp at O;rcases O with rfl|rfl|rfl|rfl
    .exact{_,n2,uW ab}
    .exact{_,n3,pE ab}
    .exact{_,n1,KM ab az}
    .exact{_,n4,qO ab}
   obtain⟨M,hf,lf,af⟩:=aE;obtain⟨h,av,bv⟩:=V7 M (c % 4) (TJ _ (by decide)) (by rw[lf];exact Tq _ (by decide));obtain⟨aj,ah,R⟩:=af h (List.mem_of_getElem? bv);have u:=zz _ _ n;exists _,Xb,.inl {Xb,_,Zb.of u},_,Xb,_,Xb,_,_,Xb,Xb,(by show(0:Int)<4;decide),l3,M,_,h,Xb,Xb,Zb.of hf,av,p,b,h,Xb,Xb,u,(by rw[Gz];ext);have tu:=Zk (H:=H4) (a:=p) (o:=.lst (b++[h])) λxs d=>by rw[u]at d;cases d
   refine{b++[h],v++[aj],_,_,_,_,_,_,_,Xb,λaB o d=>?_,Qb,((r.same zz).append (.one ah)).Ql tu,vL A c1 c2 ay R};rw[Qg (Qc d ag)];exact zz _ _ (k _ _ d)
  .skip
   obtain⟨M,hf,lf,af⟩:=aD;obtain⟨h,av,bv⟩:=V7 M (c % 4) (TJ _ (by decide)) (by rw[lf];exact Tq _ (by decide));obtain⟨aj,ah,R⟩:=af h (List.mem_of_getElem? bv);have u:=aa _ _ n;exists _,Xb,.inl {Xb,_,Zb.of u},_,Xb,_,Xb,_,_,Xb,Xb,(by show(0:Int)<4;decide),ai,M,_,h,Xb,Xb,Zb.of hf,av,p,b,h,Xb,Xb,u,(by rw[Gz];ext);have tu:=Zk (H:=Y) (a:=p) (o:=.lst (b++[h])) λxs d=>by rw[u]at d;cases d
   refine{b++[h],v++[aj],_,_,_,_,_,_,_,Xb,λaB o d=>?_,Qb,((r.same aa).append (.one ah)).Ql tu,vL A c1 c2 ay R};rw[Qg (Qc d ag)];exact aa _ _ (k _ _ d)
 .rintro ac m ⟨b,v,x2,x3,x4,x5,x6,x7,x8,rfl,k,n,r,A⟩;rw[List.length_map]at A;exact{_,Xb,q p b v m k ag n r A}
end
theorem vO(b:Bool):(tw b==("unlike":GY))= !b:=by cases b<;>decide+kernel
section
variable{P:Gi}{w:Gu}{K:Gd}{mg:GY->Option Value}{base:Heap}
theorem uq:Qw ["_law_told","_law_one","_law_other","_law_leaders","_law_word","_law_left","_law_right"] ["_law_told","_law_one","_law_other"] (Qk nO):=by eq_refl
theorem tL:Qw ["_law_told","_law_deed","_law_every","_law_leaders","_law_word","_law_one","_law_other"] ["_law_told","_law_deed"] (Qk nj):=by eq_refl
theorem CY{dC:Tp}(F:Wj K "_law_kind" "_law_kind" nO f fd)
  (X:Qu P w K mg base Z5 1 fC dC ["_law_told","_law_things"] (mO P w))(kC:KI K fC)(bC:zk K dC ["_law_told","_law_things"] [])(mC:MG mg "_law_classes" fC):
  Qu P w K mg base Z5 2 f fd ["_law_told","_law_one","_law_other"] yQ:=by
 refine F.ok uq (λO m N k b=>?_) (λak R ap s m O N k T b=>?_)
 .obtain⟨a,g,e,v1,v2,x,y,rfl,_⟩:=b;rfl
 obtain⟨a,g,e,v1,v2,x,y,rfl,G,J,D,E,kx,ky,ab,am,q⟩:=b;have r:=uq.nd;have I:=T.units;exists _,(Qd (Qt 3 r (Zs X T rfl mC kC bC .nil Q5 (Qa (pv 0) (Qa (Zl (Qa (pv 1) (Qa (pv 2) Qe))) Qe))))
  (Qd (Zq (Qr Va (Qn (Ui I) (pv 3) (pv 1)) (Qn (Ui I) (pv 3) (pv 2)) (Q4 _))
  (Qh (Qv Q7)) Q6)
  (Qd (Qt 3 r (Zs X T rfl mC kC bC .nil Q5 (Qa (Zh Ue (pv 0) (Zl (Qa (Za (Qa Q7 (Qa (pv 1) (Qa (pv 2) Qe)))) Qe))) (Qa (Zl Qe) Qe))))
  (Qd (Z8 Gv rfl (Yx (pv 0)) (Vv rfl (Zn (Z6 4 r) (Zn (Z6 5 r) (Zn (Z6 6 r) Wl))))
  (Qh (Zq (PW.pt (J9 (Qr Va (pv 4) Q7 (Q4 _)) (Uq (Qr Va (Qn (Ui I) (pv 3) (pv 5)) (Qn (Ui I) (pv 3) (pv 6)) (Q4 _)))))
  (Qh (Qv Q7)) Q6)))
  (Qh (Qv Q7))))))
 obtain⟨B,_,_,_,rfl,_,_,_⟩:=D.inv;obtain⟨C,_,_,_,rfl,_,_,_⟩:=E.inv;refine{_,Xb,_,Xb,_,Xb,by show 2<=Gj;decide,λc hc=>?_};have v:=Qf hc (.lst [.ref B,.ref C]);refine{a,c,g,_,e,[x,y],Xb,v _ _ G,J.Ql (Qp.of v),Qb,.cons (D.same v) (.cons (E.same v) .nil),?_,ab,by simp only[Qs];lia,λd S Y H1 g1 hd Z aa ac an=>?_}
 .intro t H;simp only[List.mem_cons,List.not_mem_nil,E4]at H;rcases H with rfl|rfl
  .exact kx
  .exact ky
 have L:=v.trans g1;have U:x∈S:=ac x (by simp);have V:y∈S:=ac y (by simp);refine{_,Xb,_,Xb,Z.get U (D.same L) {_,Xb,_,Xb,Z.get V (E.same L) {Xb,_,Xb,?_}}};rw[Vk];refine Vu (λc=>?_) (λc=>?_)
 .have c:Y x=Y y:=by simpa using c
  exact q _ _ L (.inl {Xb,(aa.iff U V).mp c})
 have nc:¬Cg e x y:=λz=>by have:=(aa.iff U V).mpr z;simp[this]at c
 refine{_,Xb,_,Xb,_,Xb,by show 3<=Gj;decide,λh he=>?_};have s2:=Qf he (.tup [.str "same",.ref B,.ref C]);refine{by show 1<=Gj;decide,λah hl=>?_};have s3:=Qf hl (.lst [.ref h]);have ai:g.length=e.length:=Gr J;have ao:e.length<=3000:=by have:=Zj (e.map (·.2.1));rw[List.length_map]at this;lia
 have sB:=(L.trans s2).trans s3;refine{a,ah,g,[.ref h],Xb,Xb,sB _ _ G,Qb,small (by show g.length+1<=_;lia),λn hn=>?_};have s4:=Qf hn (.lst (g++[.ref h]));refine{Gw _,λz hz=>?_};have W:=Qf hz (.lst []);have M:=(sB.trans s4).trans W;have af:Qs ([]:List Th)+Qs ((e++[(Gg,x,y)]).map (·.2.1))+Qs ((e++[(Gg,x,y)]).map (·.2.2))<=3000:=by rw[List.map_append,List.map_append,Y2,Y2];simp only[List.map_cons,List.map_nil,Qs];lia
 refine{n,z,g++[.ref h],[],e++[(Gg,x,y)],[],Xb,W _ _ Qb,?_,Qb,.nil,(λt H=>nomatch H),?_,af,λd2 S2 L2 H2 g2 al N2 T2 _ ag=>?_}
 .exact Yh (J.Ql (Qp.of M)) (.cons {h,.ref B,.ref C,Xb,W _ _ (s4 _ _ (s3 _ _ Qb)),D.same M,E.same M} .nil)
 .intro p k;rcases List.mem_append.mp k with k|k
  .exact ab p k
  .rw[List.mem_singleton]at k;subst k;exact⟨kx,ky⟩
 have j:=M.trans g2;let aj:Nat->St->Hp->Prop:=λi Q A=>i0 (A=H2) (∃x4 x5 x6,Q=[Ga (.ref a),Ga (.ref B),Ga (.ref C),Ga (.ref d2),x4,x5,x6]) (∀u l,(Gq,u,l)∈e.take i->¬Cg (e++[(Gg,x,y)]) u l)
 refine⟨_,Xb,a,Xb,{_,Zb.of (j _ _ G)},Xh (K:=K) (a:=a) (xs:=g) aj
  {Xb,{_,_,_,Xb},by simp} (by rintro i Q A _ ⟨h,_⟩;exact Zb.of (by rw[h];exact j _ _ G)) ?_ ?_⟩
 .rintro i p Q A hi ⟨rfl,⟨x4,x5,x6,rfl⟩,o⟩;obtain⟨⟨R,N,O⟩,eu,a',w1,w2,rfl,ae,t1,t2⟩:=Qy J hi;obtain⟨c1,_,_,_,rfl,_,_,_⟩:=t1.inv;obtain⟨c2,_,_,_,rfl,_,_,_⟩:=t2.inv;have ad:=List.mem_of_getElem? eu;have k:=ag (R,N,O) (List.mem_append_left _ ad);have tk:e.take (i+1)=e.take i++[(R,N,O)]:=by rw[List.take_add_one,eu];rfl
  exists a',_,Xb,Zz.of (j _ _ ae),Xb,_,_,Xb,_,_,Xb,_,_,Xb,Xb;exists _,Xb,Xb,_,Xb;rw[Xo,vO];cases R with
  |true=>
   refine Zu (Zu {Xb,{_,_,_,Xb},λu l b=>?_});rw[tk,List.mem_append,List.mem_singleton]at b;rcases b with b|b
   .exact o u l b
   .cases b
  |false=>
   refine Y0 ?_;refine{_,Xb,_,Xb,N2.get k.1 (t1.same j) {_,Xb,_,Xb,N2.get k.2 (t2.same j) {Xb,_,Xb,?_}}};rw[Vk];refine Vu (λm=>?_) (λm=>?_)
   .have m:L2 N=L2 O:=by simpa using m
    exact q _ _ j (.inr (.inl {Xb,nc,N,O,ad,(T2.iff k.1 k.2).mp m}))
   .refine{Xb,{_,_,_,Xb},λu l b=>?_};rw[tk,List.mem_append,List.mem_singleton]at b;rcases b with b|b
    .exact o u l b
    .cases b;intro z;have:=(T2.iff k.1 k.2).mpr z;simp[this]at m
 .rintro Q A ⟨rfl,_,o⟩;rw[ai,List.take_length]at o;exact q _ _ j (.inr (.inr ⟨Xb,nc,o⟩))
theorem HS{M:Tp}(F:Wj K "_law_barred" "_law_barred" nj f fd)
  (GC:Qu P w K mg base Z5 1 fC M ["_law_told","_law_things"] (mO P w))(kC:KI K fC)(bC:zk K M ["_law_told","_law_things"] [])(mC:MG mg "_law_classes" fC):
  Qu P w K mg base Z5 2 f fd ["_law_told","_law_deed"] qJ:=by
 refine F.ok tL (λA I k j b=>?_) (λD B N s I A k j R b=>?_)
 .obtain⟨a,c,e,d,v1,v2,h,x,y,rfl,_⟩:=b;rfl
 obtain⟨a,c,e,d,v1,v2,h,x,y,rfl,ha,T,he,E,G,kx,ky,ae,ak,q⟩:=b;have m:=tL.nd;have S:=R.units;exists _,(Qd (Qt 2 m (Zh Ue (pv 0) (Zl (Qa (pv 1) Qe))))
  (Qd (Qt 3 m (Zs GC R rfl mC kC bC .nil Q5 (Qa (pv 2) (Qa (Zl Qe) Qe))))
  (Qd (Z8 Gv rfl (Yx (pv 2)) (Vv rfl (Zn (Z6 4 m) (Zn (Z6 5 m) (Zn (Z6 6 m) Wl))))
  (Qh (Zq (PW.pt (J9 (Qr Va (pv 4) Q7 (Q4 _)) (Uq (Qr Va (Qn (Ui S) (pv 3) (pv 5)) (Qn (Ui S) (pv 3) (pv 6)) (Q4 _)))))
  (Qh (Qv Ww)) Q6)))
  (Qh (Qv Ww)))))
 have am:e.length=d.length:=Gr T;have al:d.length<=3000:=by have:=Zj (d.map (·.2.1));rw[List.length_map]at this;ext
 refine{_,Xb,_,Xb,by show 1<=Gj;decide,λag hl=>?_};have X:=Qf hl (.lst [.ref c]);refine{a,ag,e,[.ref c],Xb,Xb,X _ _ ha,Qb,small (by show e.length+1<=_;ext),λn hn=>?_};have s4:=Qf hn (.lst (e++[.ref c]));refine{_,Xb,Gw _,λz hz=>?_};have Y:=Qf hz (.lst []);have Z:=(X.trans s4).trans Y;have ad:Qs ([]:List Th)+Qs ((d++[(h,x,y)]).map (·.2.1))+Qs ((d++[(h,x,y)]).map (·.2.2))<=3000:=by rw[List.map_append,List.map_append,Y2,Y2];simp only[List.map_cons,List.map_nil,Qs];ext
 have H:Vr I (e++[.ref c]) (d++[(h,x,y)]):=Yh T (.cons ⟨c,v1,v2,Xb,he,E,G⟩ .nil);have ah:(e++[V.ref c]).length=(d++[(h,x,y)]).length:=Gr H;have Q:=Y _ _ (@Qb _ n (.lst (e++[.ref c])));have ac:∀p∈d++[(h,x,y)],(p.2.1.ok=Gg/\p.2.1.depth<=8)/\p.2.2.ok=Gg/\p.2.2.depth<=8:=by
  intro p j;rcases List.mem_append.mp j with j|j
  .exact ae p j
  .rw[List.mem_singleton]at j;subst j;exact⟨kx,ky⟩
 generalize e++[V.ref c]=aa at*;generalize d++[(h,x,y)]=r at*;refine{n,z,aa,[],r,[],Xb,Q,H.Ql (Qp.of Z),Qb,.nil,(λt j=>nomatch j),ac,ad,λd2 S2 L2 H2 O aj J L _ af=>?_};have o:=Z.trans O;have W:=O _ _ Q;let ai:Nat->St->Hp->Prop:=λi C v=>i0 (v=H2) (∃x4 x5 x6,C=[Ga (.ref a),Ga (.ref c),Ga (.ref n),Ga (.ref d2),x4,x5,x6]) (∀u g,(Gq,u,g)∈r.take i->¬Cg r u g)
 refine⟨_,Xb,n,Xb,{_,Zb.of W},Xh (K:=K) (a:=n) (xs:=aa) ai
  {Xb,{_,_,_,Xb},by simp} (by rintro i C v _ ⟨c,_⟩;exact Zb.of (by rw[c];exact W)) ?_ ?_⟩
 .rintro i p C v hi ⟨rfl,⟨x4,x5,x6,rfl⟩,l⟩;obtain⟨⟨D,A,B⟩,N,a',w1,w2,rfl,ab,t1,t2⟩:=Qy H hi;obtain⟨c1,_,_,_,rfl,_,_,_⟩:=t1.inv;obtain⟨c2,_,_,_,rfl,_,_,_⟩:=t2.inv;have U:=List.mem_of_getElem? N;have j:=af (D,A,B) U;have tk:r.take (i+1)=r.take i++[(D,A,B)]:=by rw[List.take_add_one,N];rfl
  exists a',_,Xb,Zz.of (o _ _ ab),Xb,_,_,Xb,_,_,Xb,_,_,Xb,Xb;exists _,Xb,Xb,_,Xb;rw[Xo,vO];cases D with
  |true=>
   refine Zu (Zu {Xb,{_,_,_,Xb},λu g b=>?_});rw[tk,List.mem_append,List.mem_singleton]at b;rcases b with b|b
   .exact l u g b
   .cases b
  |false=>
   refine Y0 ?_;refine{_,Xb,_,Xb,J.get j.1 (t1.same o) {_,Xb,_,Xb,J.get j.2 (t2.same o) {Xb,_,Xb,?_}}};rw[Vk];refine Vu (λk=>?_) (λk=>?_)
   .have k:L2 A=L2 B:=by simpa using k
    exact q Gg _ o {λ_=>{A,B,U,(L.iff j.1 j.2).mp k},λ_=>rfl}
   .refine{Xb,{_,_,_,Xb},λu g b=>?_};rw[tk,List.mem_append,List.mem_singleton]at b;rcases b with b|b
    .exact l u g b
    .cases b;intro z;have:=(L.iff j.1 j.2).mpr z;simp[this]at k
 .rintro C v ⟨rfl,_,l⟩;rw[ah,List.take_length]at l;exact q Gq _ o {λz=>by(cases z),(by rintro⟨u,g,E,G⟩;exact absurd G (l u g E))}
end
section
variable{P:Gi}{w:Gu}{K:Gd}{mg:GY->Option Value}{base:Heap}
theorem vC:Qw ["_law_cell","_law_size"] ["_law_cell"] (Qk nk):=by eq_refl
theorem KZ(F:Wj K "_law_any" "_law_any" nk f fd):Qu P w K mg base Z5 1 f fd ["_law_cell"] uN:=by
 refine F.ok vC (λj H Q E h=>?_) (λd A a s H j Q E k h=>?_)
 .obtain⟨n,rfl,_⟩:=h;rfl
 obtain⟨n,rfl,q⟩:=h;have i:=vC.nd;exists _,(Qd (Qt 1 i (Zh Xy (Zh X0 (pv 0) Qj) (Zh wq Qj Qj)))
  (Qh (Qv (Zh ny (pv 1) (Qn Ze (Zl (Qa Qj (Qa (Rr Uz Qj) Qe))) (Zh Xy (pv 0) Qj))))))
 exists _,Xb,_,_,Xb,Xb,{by decide,by decide},_,_,Xb,Xb,{by decide,by decide,by decide},_,_,Xb,Xb,(by show(0:Int)<10^DT 59;decide);refine{_,Xb,_,Xb,by show 2<=Gj;decide,λl b=>?_};obtain⟨v,e,g⟩:=V7 [V.int 1,V.int (-1)] (n % 2) (TJ _ (by decide)) (Tq _ (by decide));have c:=List.mem_of_getElem? g;simp only[List.mem_cons,List.not_mem_nil,E4]at c;exists _,Xb,_,_,Xb,Xb,(by show(0:Int)<2;decide),l,_,_,v,Xb,Xb,Zb.of Qb,e;rcases c with rfl|rfl
 .exact{_,_,Xb,Xb,.inr {by decide,by decide},q _ _ (Qf b _)}
 .exact{_,_,Xb,Xb,.inr {by decide,by decide},q _ _ (Qf b _)}
theorem xN:Qw ["_law_cells","_law_things","_law_deeds","_law_k","_law_rest","_law_one","_law_other","_law_way","_law_odd"] ["_law_cells","_law_things"] (Qk qt):=by eq_refl
theorem HJ{dA:Tp}(F:Wj K "_law_drawn_deeds" "_law_drawn_deeds" qt f fd)(S:gG mg)
  (GA:Qu P w K mg base Z5 1 fA dA ["_law_cell"] uN)(kA:KI K fA)(bA:zk K dA ["_law_cell"] [])(mA:MG mg "_law_any" fA):
  Qu P w K mg base Z5 2 f fd ["_law_cells","_law_things"] (zD K):=by
 refine F.ok xN (λn T e b j=>?_) (λr o v s T n e b hr j=>?_)
 .obtain⟨a,y,E,m,J,rfl,_⟩:=j;rfl
 obtain⟨a,y,E,m,J,rfl,X,am,hb,ab,ao,an,q⟩:=j;have u:=xN.nd;have aq:=ab.length;exists _,(Qd (Qt 2 u (Zl Qe))
  (Qd (Z8 Gv rfl (Vg rfl S.range (Qa (Qo Xd rfl S.len GX (Qa (pv 0) Qe)) Qe)) (Z6 3 u)
  (Qd (Qt 4 u (Zh X0 (Qn Ze (pv 0) (pv 3)) Qj))
  (Qd (Qt 5 u (Qn Ze (pv 1) (Zh Xy (Zh Uw (pv 4) (pv 3)) (Qo Xd rfl S.len GX (Qa (pv 1) Qe)))))
  (Qd (Qt 6 u (Qn Ze (pv 1) (Zh Xy (Zh Uw (Zh Uw (Zh X0 (pv 4) Qj) (Zh ny Qj (pv 3))) Qj) (Qo Xd rfl S.len GX (Qa (pv 1) Qe)))))
  (Qd (Qt 7 u (Zh Xy (Qn Ze (pv 0) (pv 3)) Qj))
  (Qh (Zq (Qr Rv (pv 7) Qj (Q4 _))
  (Qh (Zc (Xk Gs Gy GJ Zr (pv 2) (Qa (Za (Qa Q7 (Qa (pv 5) (Qa (pv 6) Qe)))) Qe)))) (Qh (Zq (Qr Rv (pv 7) Qj (Q4 _))
  (Qh (Zc (Xk Gs Gy GJ Zr (pv 2) (Qa (Za (Qa Q7 (Qa (pv 5) (Qa (pv 6) Qe)))) Qe)))) (Qh (Zq (Qr Rv (pv 7) Qj (Q4 _))
  (Qh (Zc (Xk Gs Gy GJ Zr (pv 2) (Qa (Za (Qa Q7 (Qa (pv 5) (Qa (pv 6) Qe)))) Qe)))) (Qd (Qt 8 u (Zs GA hr rfl mA kA bA .nil Q5 (Qa (Qn Ze (pv 0) (pv 3)) Qe)))
  (Qh (Zc (Xk Gs Gy GJ Zr (pv 2) (Qa (Za (Qa Q7 (Qa (Qn Ze (Zl (Qa (Zh Xy (pv 4) Qj) (Qa Qj (Qa (Rr Uz Qj) (Qa (pv 8) Qe))))) (Zh Xy (Zh X0 (pv 4) Qj) Qj)) Qe))) Qe))))))))))))))))
  (Qh (Qv (pv 2)))))
 refine{Gw _,λp hp=>?_};have s1:=Qf hp (.lst []);let al:Nat->St->Hp->Prop:=λi ae k=>mV λ(g:List V)(l:List Dd)(L M N O Q R:Option V)=>jF (ae=[Ga (.ref a),Ga (.ref y),Ga (.ref p),L,M,N,O,Q,R]) (Qx T k) (k p=Ga (.lst g)) (U8 k g l) (l.length=i) (∀d∈l,d.fits J)
 refine⟨_,Xb,_,_,Xb,.inl {_,s1.seq X,Xb},_,Xb,by lia,by rw[List.length_map];lia,Vh (lo:=0) (n:=(((E.map V.int).length:Int)).toNat) al
  {[],[],_,_,_,_,_,_,Xb,s1,Qb,.nil,Xb,λd D=>nomatch D} ?_ ?_⟩
 .rintro i ae k hi ⟨g,l,L,M,N,O,Q,R,rfl,t,h,W,g3,g4⟩;have hi:i<E.length:=by rw[List.length_map]at hi;lia
  have ap:g.length=l.length:=Gr W;generalize hc:E[i]=c;have ec:atI (E.map V.int) (0+(i:Int))=Ga (.int c):=by rw[Ee];refine Qz ?_;rw[List.getElem?_map,List.getElem?_eq_getElem hi,hc];rfl
  have Z:(0:Int)<m.length:=by lia
  obtain⟨n,a1,f1⟩:=V7 m ((c / 10+(0+(i:Int))) % m.length) (TJ _ (by lia)) (Tq _ Z);obtain⟨o,a2,f2⟩:=V7 m ((c / 10 / 7+2*(0+(i:Int))+1) % m.length) (TJ _ (by lia)) (Tq _ Z);obtain⟨H,e1,i1⟩:=ab.get f1;obtain⟨I,e2,i2⟩:=ab.get f2;have A:=List.mem_of_getElem? e1;have B:=List.mem_of_getElem? e2;have Y:=t _ _ hb;exists _,Xb,_,Xb,a,_,_,_,Xb,Xb,t.seq X,ec,_,_,Xb,Xb,{by decide,by decide};exists _,Xb,_,Xb,_,Xb,_,_,Xb,Xb,_,Xb,_,_,Xb,.inl {m,Zb.of Y,Xb},_,_,Xb,Xb,Z,y,m,_,n,Xb,Xb,Zb.of Y,a1;exists _,Xb,_,Xb,_,_,Xb,Xb,{by decide,by decide},_,Xb,_,_,Xb,Xb,.inl {by decide,by decide},_,_,Xb,Xb,_,_,Xb,Xb,_,Xb,_,_,Xb,.inl {m,Zb.of Y,Xb},_,_,Xb,Xb,Z,y,m,_,o,Xb,Xb,Zb.of Y,a2;exists _,Xb,_,Xb,a,_,_,_,Xb,Xb,t.seq X,ec,_,_,Xb,Xb,(by show(0:Int)<10;decide);have U:∀{r:Hp}{b:Gc}{v:List V}{d:Dd}{ai:Option V},Qx k r->r b=Ge->d.fits J->hE (zj (zj r b (.tup v)) p (.lst (g++[.ref b]))) (.ref b) d->
    mV λ(ag:List V)(l:List Dd)(L M N O Q R:Option V)=>jF ([Ga (V.ref a),Ga (.ref y),Ga (.ref p),Ga (.int (0+(i:Int))),Ga (.int (c / 10)),Ga n,Ga o,Ga (.int (c % 10)),ai]=[Ga (.ref a),Ga (.ref y),Ga (.ref p),L,M,N,O,Q,R]) (Qx T (zj (zj r b (.tup v)) p (.lst (g++[.ref b])))) ((zj (zj r b (.tup v)) p (.lst (g++[.ref b]))) p=Ga (.lst ag)) (U8 (zj (zj r b (.tup v)) p (.lst (g++[.ref b]))) ag l) (l.length=i+1) (∀d∈l,d.fits J):=by
   intro r b v d ai G e hf D;have s4:=Qf e (.tup v);have p4:=s4 _ _ (G _ _ h);have C:Qp k (zj (zj r b (.tup v)) p (.lst (g++[.ref b]))):=((Qp.of G).trans (Qp.of s4)).trans (Zk λys z=>by rw[p4]at z;cases z);refine{g++[.ref b],l++[d],_,_,_,_,_,_,Xb,λq ar hq=>?_,Qb,Yh (W.Ql C) (.cons D .nil),by rw[List.length_append,List.length_singleton,g3],λd' aj=>?_}
   .rw[Qg (Qc hq hp)];exact s4 _ _ (G _ _ (t _ _ hq))
   .rcases List.mem_append.mp aj with z|z
    .exact g4 d' z
    .rw[List.mem_singleton]at z;rw[z];exact hf
  have ad:∀{x:GY}{b:Gc}{d:Dd},k b=Ge->d.fits J->(d=.ask H I/\x="ask"\/∃bb,d=.tell bb H I/\x=tw bb)->hE (zj (zj k b (.tup [.str x,n,o])) p (.lst (g++[.ref b]))) (.ref b) d:=by
   intro x b d e hf D;have s4:=Qf e (.tup [.str x,n,o]);have p4:=s4 _ _ h;have aa:b≠p:=λz=>by rw[z,h]at e;cases e
   have C:Qp T (zj (zj k b (.tup [.str x,n,o])) p (.lst (g++[.ref b]))):=((Qp.of t).trans (Qp.of s4)).trans (Zk λys z=>by rw[p4]at z;cases z);have af:(zj (zj k b (.tup [.str x,n,o])) p (.lst (g++[.ref b]))) b=Ga (.tup [.str x,n,o]):=by rw[Qg aa];exact Qb
   rcases D with⟨rfl,rfl⟩|⟨bb,rfl,rfl⟩
   .exact{b,n,o,Xb,af,i1.Ql C,i2.Ql C}
   .exact{b,n,o,Xb,af,i1.Ql C,i2.Ql C}
  exists _,Xb,_,_,Xb,Xb,_,Xb;refine Vu (λc1=>?_) (λc1=>?_)
  .refine{_,Xb,.inl {Xb,_,Zb.of h},_,Xb,_,Xb,by show 3<=Gj;decide,λb e=>?_};exists p,g,.ref b,Xb,Xb,Qf e _ _ _ h,(by rw[Gz];lia);exact U (d:=.tell Gg H I) (λ_ _ j=>j) e ⟨A,B⟩ (ad e ⟨A,B⟩ (.inr ⟨Gg,Xb,Xb⟩))
  exists _,Xb,_,_,Xb,Xb,_,Xb;refine Vu (λc2=>?_) (λc2=>?_)
  .refine{_,Xb,.inl {Xb,_,Zb.of h},_,Xb,_,Xb,by show 3<=Gj;decide,λb e=>?_};exists p,g,.ref b,Xb,Xb,Qf e _ _ _ h,(by rw[Gz];lia);exact U (d:=.tell Gq H I) (λ_ _ j=>j) e ⟨A,B⟩ (ad e ⟨A,B⟩ (.inr ⟨Gq,Xb,Xb⟩))
  exists _,Xb,_,_,Xb,Xb,_,Xb;refine Vu (λc3=>?_) (λc3=>?_)
  .refine{_,Xb,.inl {Xb,_,Zb.of h},_,Xb,_,Xb,by show 3<=Gj;decide,λb e=>?_};exists p,g,.ref b,Xb,Xb,Qf e _ _ _ h,(by rw[Gz];lia);exact U (d:=.ask H I) (λ_ _ j=>j) e ⟨A,B⟩ (ad e ⟨A,B⟩ (.inl ⟨Xb,Xb⟩))
  refine{_,Xb,_,Xb,a,_,_,_,Xb,Xb,t.seq X,ec,_,Xb,λah H2 s2=>?_};refine{_,Xb,.inl {Xb,_,Zb.of (s2 _ _ h)},_,Xb,_,_,Xb,Xb,(by show(0:Int)<4;decide),_,Xb,_,Xb,by show 4<=Gj;decide,λak hl=>?_};have G:=Qf hl (.lst [.int (c / 10 % 4),.int 0,.int (-1),.int ah]);obtain⟨v3,a3,f3⟩:=V7 [V.int (c / 10 % 4),.int 0,.int (-1),.int ah] (c / 10 / 4 % 4) (TJ _ (by decide)) (Tq _ (by decide));have hv:=List.mem_of_getElem? f3;obtain⟨z,rfl⟩:∃z,v3=V.int z:=by simp only[List.mem_cons,List.not_mem_nil,E4]at hv;rcases hv with j|j|j|j<;>exact⟨_,j⟩
  refine{_,Xb,_,_,Xb,Xb,{by decide,by decide},_,_,Xb,Xb,(by show(0:Int)<4;decide),ak,_,_,.int z,Xb,Xb,Zb.of Qb,a3,by show 2<=Gj;decide,λb e=>?_};have ac:=s2.trans G;have aa:b≠p:=λz=>by rw[z,ac _ _ h]at e;cases e
  exists p,g,.ref b,Xb,Xb,Qf e _ _ _ (ac _ _ h),(by rw[Gz];lia);exact U (d:=.back z) ac e Tu {b,Xb,by rw[Qg aa];exact Qb}
 .rintro ae k ⟨g,l,L,M,N,O,Q,R,rfl,t,h,W,g3,g4⟩;refine{_,Xb,q p g l k t hp h W ?_ g4};rw[g3,List.length_map];lia
end
inductive xh(K:Gd)(vs:List V)(H:Hp)(Q:VK):Prop
 |mk (v:V) (t:Value) (b1:Bool) (b2:Bool) (h0:vs=[v]) (h1:Ro K H v t) (h2:Tf K t (.type "int")=Ga b1) (h3:Tf K t (.type "bool")=Ga b2) (h4:Q (.bl (b1&&!b2)) H):xh K vs H Q
def pQ(K:Gd):Sp:=λa H Q _=>xh K a H Q
inductive tZ(K:Gd)(vs:List V)(H:Hp)(Q:VK):Prop
 |mk (a:Gc) (ns:List Int) (k:Nat) (h0:vs=[.ref a,.int (k:Int)]) (h1:Zb K H a (ns.map V.int)) (h2:∀m:Int,Q (.int m) H):tZ K vs H Q
def xH(K:Gd):Sp:=λa H Q _=>tZ K a H Q
inductive wt(vs:List V)(H:Hp)(Q:VK):Prop
 |mk (a:Gc) (es:List V) (dl:List Dd) (h0:vs=[.ref a]) (h1:H a=Ga (.lst es)) (h2:U8 H es dl) (h3:(∀d∈dl,d.good)) (h4:dl.length<=10) (h5:∀(r:Gc)(rs:List V)(H':Hp),Qx H H'->H r=Ge->H' r=Ga (.lst rs)->Vr H' rs (after [] dl)->Q (.ref r) H'):wt vs H Q
def qz:Sp:=λa H Q _=>wt a H Q
theorem Hf(b:Bool):(tw b==("ask":GY))=Gq:=by cases b<;>decide+kernel
theorem Hw(b:Bool):(tw b==("back":GY))=Gq:=by cases b<;>decide+kernel
theorem A4:(("ask":GY)=="ask")=Gg:=by decide+kernel
theorem Kx:(("ask":GY)=="back")=Gq:=by decide+kernel
theorem OK:(("back":GY)=="back")=Gg:=by decide+kernel
theorem I3(a:List V)(i:Int)(b:0<=i):Ul a Ge (Ga i)=a.take i.toNat:=by obtain⟨k,rfl⟩:∃k:Nat,i=(k:Int):={i.toNat,by lia};unfold Ul;rw[HT.Iz,HT.Jo];simp
theorem zW(n:Nat)(h:Vr H xs tl):Vr H (xs.take n) (tl.take n):=by
 unfold Vr at h⊢;induction h generalizing n with
 |nil=>cases n<;>exact .nil
 |cons h r a=>
  cases n with
  |zero=>exact .nil
  |succ n=>exact .cons h (a n)
section
variable{P:Gi}{w:Gu}{K:Gd}{mg:GY->Option Value}{base:Heap}
theorem qA:Qw ["_law_found"] ["_law_found"] (Qk qh):=by eq_refl
theorem BM(F:Wj K "_law_whole" "_law_whole" qh f fd)(B:gG mg):Qu P w K mg base Z5 1 f fd ["_law_found"] (pQ K):=by
 refine F.ok qA (λj H Q E h=>?_) (λe A c s H j Q E k h=>?_)
 .obtain⟨v,t,a,b,rfl,_⟩:=h;rfl
 obtain⟨v,t,a,b,rfl,d,g,i,q⟩:=h;have l:=qA.nd;exists _,(Qh (Qv (JC (Qo Xi rfl B.isinstance Ta (Qa (pv 0) (Qa (Xn (v:=.ty "int") rfl B.int Lv Xb) Qe))) (rP (AO (Qo Xi rfl B.isinstance Ta (Qa (pv 0) (Qa (Xn (v:=.ty "bool") rfl B.bool Eo Xb) Qe))))))));exists _,Xb,_,_,_,a,Xb,d,g,a,Xb;cases a with
 |false=>exact Zu q
 |true=>exact Y0 {_,Xb,_,_,_,b,Xb,d,i,b,Xb,q}
theorem vn:Qw ["_law_script","_law_k"] ["_law_script","_law_k"] (Qk sAt):=by eq_refl
theorem Cb(F:Wj K "_law_at" "_law_at" sAt f fd)(B:gG mg):Qu P w K mg base Z5 1 f fd ["_law_script","_law_k"] (xH K):=by
 refine F.ok vn (λi H Q E h=>?_) (λg A d s H i Q E j h=>?_)
 .obtain⟨a,b,k,rfl,_⟩:=h;rfl
 obtain⟨a,b,k,rfl,e,q⟩:=h;have l:=vn.nd;exists _,(Qd (Zq (Qr Rv (pv 1) (Qo Xd rfl B.len GX (Qa (pv 0) Qe)) (Q4 _))
  (Qh (Qv (Qn Ze (pv 0) (pv 1)))) Q6)
  (Qh (Qv Qj)))
 exists _,Xb,_,Xb,_,_,Xb,.inl {_,e,Xb},_,_,Xb,Xb,_,Xb;refine Vu (λc=>?_) (λc=>q 0);have c:k<b.length:=by have:=TU c;rw[List.length_map]at this;ext
 refine{_,Xb,_,Xb,a,_,_,.int b[k],Xb,Xb,e,Qz ?_,q _};rw[List.getElem?_map,List.getElem?_eq_getElem c];rfl
theorem uM:Qw ["_law_deeds","_law_told","_law_deed"] ["_law_deeds"] (Qk nM):=by eq_refl
theorem QA{J:Gc}{X:Tp}(F:Wj K "_law_after" "_law_after" nM f fd)(af:gG mg)
  (GZ:Qu P w K mg base Z5 2 J X ["_law_told","_law_deed"] qJ)(kZ:KI K J)(bZ:zk K X ["_law_told","_law_deed"] [])(mZ:MG mg "_law_barred" J):
  Qu P w K mg base Z5 3 f fd ["_law_deeds"] qz:=by
 refine F.ok uM (λo H m g C=>?_) (λu r A s H o m g hr C=>?_)
 .obtain⟨a,I,B,rfl,_⟩:=C;rfl
 obtain⟨a,I,B,rfl,ha,ab,aa,ai,q⟩:=C;have Q:=uM.nd;exists _,(Qd (Qt 1 Q (Zl Qe))
  (Qd (Z8 Gv rfl (Yx (pv 0)) (Z6 2 Q)
  (Qh (Zq (Qr Va (Qn Q3 (pv 2) Qj) Q7 (Q4 _))
  (Qh (Zq (A8 lC lC Qj (Qn Q3 (pv 2) Qj) (Qo Xd rfl af.len GX (Qa (pv 1) Qe)))
  (Qh (Qt 1 Q (Yo Jv (pv 1) Xt (Yu (Qn Q3 (pv 2) Qj))))) Q6)) (Qh (Zq (PW.pt (J9 (Qr Io (Qn Q3 (pv 2) Qj) Q7 (Q4 _)) (Uq (Jy (Wb (Zs GZ hr rfl mZ kZ bZ .nil Q5 (Qa (pv 1) (Qa (pv 2) Qe))))))))
  (Qh (Zc (Xk Gs Gy GJ Zr (pv 1) (Qa (pv 2) Qe)))) Q6)))))
  (Qh (Qv (pv 1)))))
 refine{Gw _,λl0 ac=>?_};have s1:=Qf ac (.lst []);have ag:I.length=B.length:=Gr ab;refine⟨_,Xb,a,Xb,{_,Zb.of (s1 _ _ ha)},Xh (K:=K) (a:=a) (xs:=I) (λk G t=>∃(e:Gc)(b:List V)(W:Option V),G=[Ga (.ref a),Ga (.ref e),W]/\Qx H t/\H e=Ge/\t e=Ga (.lst b)/\Vr t b (after [] (B.take k)))
  {l0,[],Ge,Xb,s1,ac,Qb,by simp[after];exact .nil} (by rintro k G t _ ⟨_,_,_,_,j,_⟩;exact Zb.of (j _ _ ha)) ?_ ?_⟩
 .rintro k x G t hk ⟨e,b,W,rfl,j,v,h,l⟩;obtain⟨d,Y,N⟩:=Qy ab hk;have O:=N.Ql (Qp.of j);have Z:=aa d (List.mem_of_getElem? Y);have E:iM (after [] (B.take k)):=Oh (λp D=>nomatch D) λd N=>aa d (List.mem_of_mem_take N);have ad:=Rj (ds:=B.take k) (tl:=[]);rw[List.length_take]at ad;simp only[List.length_nil]at ad;rw[yk Y];generalize after [] (B.take k)=tl at*;have ae:b.length=tl.length:=Gr l;have sz:=zG E;have ah:∀p∈tl,(p.2.1.ok=Gg/\p.2.1.depth<=8)/\p.2.2.ok=Gg/\p.2.2.depth<=8:=λp D=>{{(E p D).1.1,(E p D).1.2.1},(E p D).2.1,(E p D).2.2.1};cases d with
  |tell u x y=>
   obtain⟨g,T,U,rfl,m,R,S⟩:=O;have L:=Z.1;have M:=Z.2;have zx:=L.2.2;have zy:=M.2.2;exists _,Xb,g,_,_,_,Xb,Xb,Zz.of m,Qz (j:=0) rfl,Xb,_,Xb;rw[Xo,Hw];refine Zu ?_;exists _,Xb,g,_,_,_,Xb,Xb,Zz.of m,Qz (j:=0) rfl,Xb,_,Xb;rw[Xo,Hf];refine Y0 ?_;refine{_,Xb,_,Xb,e,g,b,tl,T,U,u,x,y,Xb,h,l,m,R,S,{L.1,L.2.1},{M.1,M.2.1},ah,by ext,λrr H2 o hb=>{rr,Xb,?_}};cases rr with
   |true=>
    refine Zu ?_;have r:Vt tl (.tell u x y)=(tl,.str "clash"):=by simp only[Vt];rw[Gn (hb.mp Xb)]
    rw[r];exact{e,b,_,Xb,j.trans o,v,o _ _ h,l.Ql (Qp.of o)}
   |false=>
    refine Y0 ?_;have nb:¬Yv (tl++[(u,x,y)]):=λz=>GO (hb.mpr z);have r:Vt tl (.tell u x y)=(tl++[(u,x,y)],.int ((tl.length:Int)+1)):=by simp only[Vt];rw[Gh nb]
    rw[r];exists _,Xb,.inl {Xb,_,Zb.of (o _ _ h)},_,Xb,e,b,_,Xb,Xb,o _ _ h,(by rw[Gz];ext);have A:Qp t (zj H2 e (.lst (b++[.ref g]))):=(Qp.of o).trans (Zk λxs z=>by rw[o _ _ h]at z;cases z);exact{e,b++[.ref g],_,Xb,λc aj C=>by rw[Qg (Qc C v)];exact o _ _ (j _ _ C),v,Qb,Yh (l.Ql A) (.cons {g,T,U,Xb,A _ _ m,R.Ql A,S.Ql A} .nil)}
  |ask x y=>obtain⟨g,T,U,rfl,m,R,S⟩:=O;exists _,Xb,g,_,_,_,Xb,Xb,Zz.of m,Qz (j:=0) rfl,Xb,_,Xb;rw[Xo,Kx];refine Zu ?_;exists _,Xb,g,_,_,_,Xb,Xb,Zz.of m,Qz (j:=0) rfl,Xb,_,Xb;rw[Xo,A4];refine Zu (Zu ?_);exact{e,b,_,Xb,j,v,h,l}
  |back i=>
   obtain⟨g,rfl,m⟩:=O;exists _,Xb,g,_,_,_,Xb,Xb,Zz.of m,Qz (j:=0) rfl,Xb,_,Xb;rw[Xo,OK];refine Y0 ?_;exists _,Xb,g,_,_,_,Xb,Xb,Zz.of m,Qz (j:=1) rfl,_,_,Xb,Xb,_,Xb;refine Vu (λu=>?_) (λu=>?_)
   .have u:0<=i:=TU u;exists _,Xb,_,_,Xb,.inl {_,Zb.of h,Xb},_,_,Xb,Xb,_,Xb;refine Vu (λA=>?_) (λA=>?_)
    .have A:i<=(b.length:Int):=TU A;have r:Vt tl (.back i)=(tl.take i.toNat,.int ((tl.length:Int) - i)):=by simp only[Vt];rw[Gn {u,by rw[<-ae];exact A}]
     rw[r];refine{_,Xb,_,Xb,g,_,_,_,Xb,Xb,Zz.of m,Qz (j:=1) rfl,_,Xb,e,_,Xb,Zb.of h,λn L=>?_};rw[I3 b i u];have o:=Qf L (.lst (b.take i.toNat));exact{n,_,_,Xb,j.trans o,j.free L,Qb,zW _ (l.Ql (Qp.of o))}
    .have A:¬i<=(b.length:Int):=λz=>A (Tc z);have r:Vt tl (.back i)=(tl,.str "no moment"):=by simp only[Vt];rw[Gh (λz=>A (by rw[ae];exact z.2))]
     rw[r];exact{e,b,_,Xb,j,v,h,l}
   .have u:¬0<=i:=λz=>u (Tc z);have r:Vt tl (.back i)=(tl,.str "no moment"):=by simp only[Vt];rw[Gh (λz=>u z.1)]
    rw[r];exact{Gq,Xb,Zu {e,b,_,Xb,j,v,h,l}}
 .rintro G t ⟨e,b,W,rfl,j,v,h,l⟩;rw[ag,List.take_length]at l;exact{_,Xb,q e b t j v h l}
end
end K07
namespace Sb
open PySem PySem.Spec PyProof.Rows L2
def Xc:List (Xm×V):=[(.inr "sab",.str "tab"),(.inr "tab",.str "x"),(.inr "sob",.str "sab"),(.inr "sat",.str "sob"),(.inr "fig",.str "fog"),(.inr "fog",.str "hog")]
def rn(w:GY):GY:=if w="sab"then"tab"else if w="tab"then"x"else if w="sob"then"sab"else if w="sat"then"sob"else if w="fig"then"fog"else if w="fog"then"hog"else("q":GY)++w++"q"
def unq(w:GY):GY:=⟨w.cps.extract 1 (w.cps.size - 1)⟩
def un(w:GY):GY:=if w="tab"then"sab"else if w="x"then"tab"else if w="sab"then"sob"else if w="sob"then"sat"else if w="fog"then"fig"else if w="hog"then"fog"else unq w
theorem Kh(w:GY):(("q":GY)++w++"q").cps[0]?=Ga 113:=by have e:(("q":GY)++w++"q").cps=#[113]++w.cps++#[113]:=rfl;rw[e,Su (by simp;ext),Su (by simp)];rfl
theorem PD(w:GY):unq (("q":GY)++w++"q")=w:=by
 have e:(("q":GY)++w++"q").cps=#[113]++w.cps++#[113]:=rfl;unfold unq;rw[e];cases w with
 |mk c=>congr 1;apply Array.ext';simp
theorem qy(w:GY):un (rn w)=w:=by
 unfold rn;split
 .next h=>rw[h];decide+kernel
 split
 .next h=>rw[h];decide+kernel
 split
 .next h=>rw[h];decide+kernel
 split
 .next h=>rw[h];decide+kernel
 split
 .next h=>rw[h];decide+kernel
 split
 .next h=>rw[h];decide+kernel
 have f:=Kh w;have a:∀x:GY,x.cps[0]?≠Ga 113->¬(("q":GY)++w++"q"=x):=λx b z=>b (by rw[<-z];exact f);unfold un;rw[Gh (a _ (by decide+kernel)),Gh (a _ (by decide+kernel)),Gh (a _ (by decide+kernel)),Gh (a _ (by decide+kernel)),Gh (a _ (by decide+kernel)),Gh (a _ (by decide+kernel))];exact PD w
theorem UA:jq [] Xc=Xc:=by decide+kernel
theorem Aw(w:GY):(Yt Xc (.inr w)).getD (.str (("q":GY)++w++"q"))=.str (rn w):=by
 unfold rn Xc Yt;by_cases a:w="sab"
 .subst a;decide+kernel
 rw[Gh a];by_cases b:w="tab"
 .subst b;decide+kernel
 rw[Gh b];by_cases c:w="sob"
 .subst c;decide+kernel
 rw[Gh c];by_cases d:w="sat"
 .subst d;decide+kernel
 rw[Gh d];by_cases e:w="fig"
 .subst e;decide+kernel
 rw[Gh e];by_cases f:w="fog"
 .subst f;decide+kernel
 rw[Gh f];have k:∀x:GY,¬w=x->decide ((Sh x:Xm)=Sh w)=Gq:=λx h=>GQ λz=>h (NA z).symm;simp only[List.find?_cons,List.find?_nil,k _ a,k _ b,k _ c,k _ d,k _ e,k _ f];rfl
theorem BL{w:GY}(h:Dc w=Gg):Dc (rn w)=Gg:=by
 unfold rn;split
 .decide+kernel
 split
 .decide+kernel
 split
 .decide+kernel
 split
 .decide+kernel
 split
 .decide+kernel
 split
 .decide+kernel
 have e:(("q":GY)++w++"q").cps=#[113]++w.cps++#[113]:=rfl;have a:w.cps.all (·<0x110000)=Gg:=h;show(("q":GY)++w++"q").cps.all (·<0x110000)=Gg;rw[e,SW,SW,a];simp
theorem pe(a:GY->GY):∀b:List Th,Uk a b=b.map (Th.V1 a)
 |[]=>by simp[Uk]
 |t::r=>by simp[Uk,pe a r]
theorem Hq{P:Gi}{w:Gu}{K:Gd}{r p d:Gc}{s:List V}{n:List Th}{S:Th->Prop}{F:Th->Th}{H:Hp}{Q:Hp->Prop}(J:H r=Ga (.tup s))(h:Zp H s n)(g:∀t∈n,S t/\t.ok=Gg/\t.depth<=8)(N:Mp P w H d S F)(m:H p=Ge)(b:s.length<=3000)
  (q:∀b a,Qx H b->b p=Ga (.lst a)->Zp b a (n.map F)->Q b):iB p (ij K r) (Vn 0) ko (tOp (iH P w) (Vw 1) (Vw 0)) Q [Ge,Ga (.ref d)] (zj H p (.lst [])):=by
 refine Jd (K:=K) (a:=r) (xs:=s) (small (by ext)) (λi a u k=>(∃A,u=[A,Ga (.ref d)])/\Zp H a ((n.take i).map F)/\k=zj H p (.lst a)) {{_,Xb},by simp;exact .nil,Xb} (λi a u k _⟨_,_,e⟩=>Zz.of (by rw[e];exact Qf m _ _ _ J)) ?_ ?_
 .rintro i x a u k I v ⟨⟨A,rfl⟩,l,rfl⟩ f;obtain⟨t,y,z⟩:=h.get I;obtain⟨b,_,_,_,rfl,_,_,_⟩:=z.inv;have o:=Qf m (.lst a);obtain⟨D,E,G⟩:=g t (List.mem_of_getElem? y);obtain⟨e,L,O,T⟩:=N.ex;obtain⟨c,B,C⟩:=T t D;obtain⟨j,M,R,U⟩:=(N.same o).ex;have W:j=e\/True:=.inr Tu;exists _,Xb,_,Xb,d,b,kd t,e,.ref c,Xb,Xb,{o _ _ L,Q8 (Qp.of o) O},Ob (z.same o) E G,B,f,{_,Xb},?_
  .rw[List.take_add_one,y,List.map_append];exact l.append (.one C)
  .rw[Vz]
 .rintro a u k v ⟨_,l,rfl⟩ f;rw[h.length,List.take_length]at l;exact q _ a (Qf m _) f (l.same (Qf m _))
end Sb
namespace K07
open PySem L2 Sb
def rg(t:Th):Prop:=t.ok=Gg/\t.depth<=8/\t.short=Gg/\t.size<=1000
inductive yy(vs:List V)(H:Hp)(Q:VK):Prop
 |mk (v:V) (t:Th) (h0:vs=[v]) (h1:Z2 H v t) (h2:rg t) (h3:∀(c:Gc)(H':Hp),Qx H H'->Z2 H' (.ref c) (t.V1 rn)->Q (.ref c) H'):yy vs H Q
def pZ:Sp:=λa H Q _=>yy a H Q
theorem nd3:(["_law_one","_law_made"]:List GY).Nodup:=by decide+kernel
theorem yX{w:GY}{f:List Th}(h:rg (.mk w f)):∀p∈f,rg p:=λp a=>by obtain⟨d,g,e,i⟩:=h;simp only[Th.ok,Th.depth,Th.short,Th.size,Td]at d g e i;have b:=d.2;have c:=e.2;rw[Uv,List.all_eq_true]at b;rw[yY,List.all_eq_true]at c;have:=X7 a;have:=rj a;exact{b p a,by ext,c p a,by ext}
section
variable{P:Gi}{w:Gu}{K:Gd}{mg:GY->Option Value}{base:Heap}
theorem uF:Qw ["_law_thing","_law_words","_law_order","_law_todo","_law_part","_law_made","_law_inner"] ["_law_thing"] (Qk Rl):=by eq_refl
theorem Kw{a4:Gc}{fd:Tp}(F:Wj K "_law_recalled" "_law_recalled" Rl a4 fd)(ax:gG mg):Qu P w K mg base Z5 1 a4 fd ["_law_thing"] pZ:=by
 refine F.ok uF (λvs au a7 a6 G=>?_) (λbl a5 bn s au vs a7 a6 hr G=>?_)
 .obtain⟨af,t,rfl,_⟩:=G;rfl
 obtain⟨af,t,rfl,hv,aZ,q⟩:=G;obtain⟨ok,dp,sh,bb⟩:=id aZ;have U:=uF.nd;have H:=hr.units;have bm:a5.units+1<DM\/True:=.inr Tu;exists _,(Qd (Qt 1 U (II (trs:=[(tC (.str "sab"),tC (.str "tab")),(tC (.str "tab"),tC (.str "x")),(tC (.str "sob"),tC (.str "sab")),(tC (.str "sat"),tC (.str "sob")),(tC (.str "fig"),tC (.str "fog")),(tC (.str "fog"),tC (.str "hog"))]) (Ji Q7 Q7 (Ji Q7 Q7 (Ji Q7 Q7 (Ji Q7 Q7 (Ji Q7 Q7 (Ji Q7 Q7 OC)))))) (RT Gg) (RT (6:Nat)) (List.cons_ne_nil _ _) (Nat.le_of_ble_eq_true (RT Gg))))
  (Qd (Qt 2 U (Zl Qe))
  (Qd (Qt 3 U (Zl (Qa (pv 0) Qe)))
  (Qd (Ws Gv (Qr (nD H) (pv 3) (Zl Qe) (Q4 _))
  (Qd (Qt 4 U (jr Gs DD DE iX (pv 3)))
  (Qd (Zc (Xk Gs Gy GJ Zr (pv 2) (Qa (pv 4) Qe)))
  (Qh (Qt 3 U (Zh Ue (pv 3) (Xx Ju rfl ax.list TV (Qa (Yo U1 (pv 4) (Yu Qj) Xt) Qe))))))))
  (Qd (Ub (i:=5) U rfl (Ej Xb) Ip)
  (Qd (Z8 Gv rfl (yn rfl ax.reversed (Qa (pv 2) Qe)) (Z6 4 U)
  (Qd (R3 (i:=6) (own:=["_law_one"]) (fv:=[(5,"_law_made")]) U rfl rfl rfl (S:=(by eq_refl:Wa (Qk Rl) _)) (.cons rfl (De Xb) rfl .nil) (V4 (Yo U1 (pv 4) (Yu Qj) Xt))
   (λ_ _ _ _ _=>Xe (i:=0) nd3 rfl (De Xb) (Ej Xb)) (λ_ _ _ _ _=>We) (λ_ _ _ _ _=>(Qn (r:=iH P w) (Ui H) (pv 1) (pv 0))))
  (Qh (Oj (Xx Wh rfl ax.tuple TR (Qa (Zh Ue (Zl (Qa (IS (DG (LG (by decide) _) H) (pv 1) (Qn Q3 (pv 4) Qj) (Zh Oi (Zh Oi Q7 (Qn Q3 (pv 4) Qj)) Q7) ⟨Xb,Xb,Xb,Xb⟩) Qe)) (pv 6)) Qe)) (jk (pv 5) (pv 4) (jd H))))))
  (Qh (Qv (Qn (Ui H) (pv 5) (pv 0))))))))))
 intro O a8;exists Qb,Xc,Xb,(by decide);rw[Vz,UA];have s1:=Qf a8 (.dK Xc);have w1:(zj au O (.dK Xc)) O=Ga (.dK Xc):=Qb;generalize zj au O (.dK Xc)=N at s1 w1⊢;refine{Gw _,λh ho=>?_};have s2:=Qf ho (.lst []);refine{_,Xb,by show 1<=Gj;decide,λg hl=>?_};have s3:=Qf hl (.lst [af]);have a0:=(s1.trans s2).trans s3;have ah:h≠g:=Qc Qb hl;have a9:N h=Ge:=ho;have aX:N g=Ge:=s2.free hl;exists λaY X E=>ip λ(g:Gc)(ov xs:List V)(a f:List Th)(W:Option V)=>kh (X=[Ga af,Ga (.ref O),Ga (.ref h),Ga (.ref g),W,Ge,Ge]) (Qx N E) (N g=Ge) (h≠g) (E h=Ga (.lst ov)) (E g=Ga (.lst xs)) (Zp E ov a) (Zp E xs f) (∀u∈a,rg u) (∀u∈f,rg u) (t∈a\/t∈f) (∀(i:Nat)w b,a[i]?=Ga (Th.mk w b)->∀p∈b,(∃j:Nat,i<j/\a[j]?=Ga p)\/p∈f) (aY=Qs f) (a.length+Qs f<=1000),
  {_,g,[],[af],[],[t],Ge,Xb,s2.trans s3,aX,ah,s3 _ _ Qb,Qb,.nil,.one (hv.same a0),(λu H=>nomatch H),λu H=>by rw[List.mem_singleton]at H;subst H;exact aZ,.inr List.mem_cons_self,λi w b e=>by simp at e,Xb,by simp[Qs];exact bb}
 clear s3 a0 ah aX hl;rintro aY X E ⟨g,ov,xs,a,f,W,rfl,sm,hl,ah,go,gl,aO,aT,fO,fT,a3,Xg,rfl,sz⟩;have lx:=aT.length;have lo:=aO.length;have lT:=Zj f;refine{_,Xb,Gw _,λz hz=>?_};have s4:=Qf hz (.lst []);exists .list (Wg f),.list [],.lst (s4 _ _ gl) (aT.same s4).dts,.lst Qb .nil,by simp only[Tt];exact lO f (by rw[Uv,List.all_eq_true];exactλu H=>(fT u H).1),by simp[Tt,Gx],?_,_,Xb
 .simp only[DK,Tv];ext
 have ev:TD (.list (Wg f)) (.list [])=f.isEmpty:=by
  simp only[TD];rw[Og];cases f with
  |nil=>simp[Wg]
  |cons t r=>simp[Wg]
 rw[ev];rcases List.eq_nil_or_concat f with rfl|⟨Tr,u,eT⟩
 .refine Zu ?_;have tO:t∈a:=a3.resolve_right (by simp);have Xg:∀(i:Nat)w b,a[i]?=Ga (Th.mk w b)->∀p∈b,∃j:Nat,i<j/\a[j]?=Ga p:=λi w b e p A=>(Xg i w b e p A).resolve_right (by simp);have M:=sm.trans s4;have ag:=s4 _ _ go;have av:=aO.same s4;generalize zj E z (.lst [])=H3 at M ag av⊢;intro d hd;have T:=Qf hd (Vx P w d []);have aS:N d=Ge:=M.free hd;have aR:au d=Ge:=s1.free aS;have aw:=T _ _ ag;have w4:=T _ _ (M _ _ w1);have aQ:=av.same T;have aV:h≠d:=Qc ag hd;have aU:O≠d:=Qc (M _ _ w1) hd;have bk:a.length<=1000:=by ext
  let aW:Nat->St->Hp->Prop:=λk X l=>ia λ(W x6:Option V)=>i0 (X=[Ga af,Ga (.ref O),Ga (.ref h),Ga (.ref g),W,Ga (.ref d),x6]) (Jk d (zj H3 d (Vx P w d [])) l) (∃y:List KE,y.length<=k/\l d=Ga (Vx P w d y)/\Vd l y/\∀u,u∈a.reverse.take k->∃I,Yf y (kd u)=Ga (.ref I)/\Z2 l (.ref I) (u.V1 rn))
  refine⟨_,Xb,h,ov,Xb,Zb.of aw,rh (K:=K) (a:=h) (xs:=ov) aW
   {_,_,Xb,Jk.refl,[],Gm _,Qb,(λp A=>nomatch A),by simp} (by rintro k X l _ ⟨_,_,_,B,_⟩;exact Zb.of (B _ _ aw aV)) ?_ ?_⟩
  .rintro k x X l hk ⟨W,x6,rfl,B,y,lk,aa,ab,ac⟩;have aD:k<ov.length:=by have:=(List.getElem?_eq_some_iff.mp hk).1;simpa using this
   have hx:∃u,a.reverse[k]?=Ga u/\Z2 (zj H3 d (Vx P w d [])) x u:=by rw[List.getElem?_reverse aD]at hk;obtain⟨u,Y,Z⟩:=aQ.get hk;refine{u,?_,Z};rw[List.getElem?_reverse (by ext),<-lo];exact Y
   obtain⟨u,Q,hx⟩:=hx;have tu:Qp (zj H3 d (Vx P w d [])) l:=B.Ql Qb (λxs z=>by cases z);have am:=hx.Ql tu;have J:=fO u (List.mem_reverse.mp (List.mem_of_getElem? Q));obtain⟨I,D,us,b,rfl,rfl,hb,ai⟩:=am.inv;have aj:=yX J;have M5:Mp P w l d (λu=>u∈a.reverse.take k) (Th.V1 rn):=⟨y,aa,ab,ac⟩;have aH:∀p∈b,p∈a.reverse.take k:=λp A=>by
    have Y:a[a.length - 1 - k]?=Ga (Th.mk D b):=by rw[List.getElem?_reverse (by ext)]at Q;exact Q
    obtain⟨j,hj,ej⟩:=Xg _ _ _ Y p A;have o:j<a.length:=(List.getElem?_eq_some_iff.mp ej).1;have Z:a.reverse[a.length - 1 - j]?=Ga p:=by rw[List.getElem?_reverse (by ext)];rw[show a.length - 1 - (a.length - 1 - j)=j by ext];exact ej
    have m:(a.reverse.take k)[a.length - 1 - j]?=Ga p:=by rw[List.getElem?_take_of_lt (by ext)];exact Z
    exact List.mem_of_getElem? m
   have ba:b.length<=3000:=by have h1:=Zj b;have R:=J.2.2.2;simp only[Th.size]at R;ext
   have bd:=ai.length;have al:l O=Ga (.dK Xc):=B _ _ w4 aU;refine{_,Xb,_,Xb,I,_,Xb,Zz.of hb,Wz _ _,λr hr=>?_};rw[gY];have s6:=Qf hr (.tup us);refine{r,Xb,{_,Zz.of Qb},λp A=>?_};refine Hq (K:=K) Qb (ai.same s6) (λp A=>{aH p A,(aj p A).1,(aj p A).2.1}) (M5.same s6) A (by ext) λH7 ys s7 aE ay=>?_;have S:=s6.trans s7;have ak:=S _ _ hb;have aG:=ay.length;rw[List.length_map]at aG;have be:D.length<=200:=by have:=J.2.2.1;simp only[Th.short,Td,SI]at this;exact this.1
   have lq:(("q":GY)).length=1:=by decide+kernel
   have bc:(("q":GY)++D).length<=201:=by rw[Str.length_append,lq];ext
   exists _,Xb,O,Xb,.inl {Xc,.inl (S _ _ al)},_,Xb,I,_,_,_,Xb,Xb,Zz.of ak,Qz (j:=0) rfl,_,Xb,I,_,_,_,Xb,Xb,Zz.of ak,Qz (j:=0) rfl,_,_,Xb,Xb,by rw[lq,Gz];ext,_,_,Xb,Xb,by rw[lq,Gz];ext,_,Wn.k (k:=.inr D) (S _ _ al);rw[Aw];refine{by show 1<=Gj;decide,λc1 aA=>?_};have s8:=Qf aA (.lst [.str (rn D)]);refine{_,Xb,c1,p,_,_,Xb,Xb,Qb,s8 _ _ aE,small (by show 1+_<=_;ext),λc2 aB=>?_};have s9:=Qf aB (.lst ([.str (rn D)]++ys));refine{c2,_,Xb,.inl {Zb.of Qb,λc3 aC=>?_}};have an:=Qf aC (.tup ([.str (rn D)]++ys));have L:=((S.trans s8).trans s9).trans an;have aI:=(s8.trans s9).trans an;refine{_,Xb,_,Xb,Mp.set (t:=.mk D b) (S:=λu=>u∈a.reverse.take k) (F:=Th.V1 rn) (n:=k) {y,lk,L _ _ aa,Q8 (Qp.of L) ab,λt ht=>by obtain⟨v,m,o⟩:=ac t ht;exact{v,m,o.same L}} (by ext) J.1 J.2.1 (am.same L) ?_ λC az aF=>?_}
   .simp only[Th.V1,pe];exact .mk Qb (ay.same aI)
   .obtain⟨m,o,l2,v,C⟩:=aF;refine{_,_,Xb,λc h h1 R=>az _ _ (L _ _ (B _ _ h1 R)) R,m,o,l2,v,λu' ae=>C u' ?_};rw[List.take_add_one,Q]at ae;rcases List.mem_append.mp ae with z|z
    .exact .inl z
    .exact .inr (by simpa using z)
  .rintro X l ⟨W,x6,rfl,B,y,lk,aa,ab,ac⟩;have tu:Qp (zj H3 d (Vx P w d [])) l:=B.Ql Qb (λxs z=>by cases z);obtain⟨I,_,_,_,rfl,_,_,_⟩:=hv.inv;have M5:Mp P w l d (λu=>u∈a.reverse.take ov.length) (Th.V1 rn):=⟨y,aa,ab,ac⟩;have o:t∈a.reverse.take ov.length:=by rw[lo,<-List.length_reverse,List.take_length];exact List.mem_reverse.mpr tO
   refine{_,Xb,_,Xb,M5.get o ok dp (((hv.same s1).same M).same T|>.Ql tu) λc m=>q c l (λe o' G=>?_) m};exact B _ _ (T _ _ (M _ _ (s1 _ _ G))) (Qc G aR)
 .have eT:f=Tr++[u]:=by simpa using eT
  subst eT;have aM:(Tr++[u]).isEmpty=Gq:=by cases Tr<;>rfl
  rw[aM];refine Y0 ?_;obtain⟨o,x,rfl,M,Q⟩:=Ox aT;have ao:Qs (Tr++[u])=Qs Tr+u.size:=by rw[Y2];simp[Qs]
  rw[ao]at sz;have bf:=O3 u;have ap:=fT u (by simp);exists λar y=>∃m',m'<Qs (Tr++[u])/\ip λ(g:Gc)(ov xs:List V)(a f:List Th)(W:Option V)=>kh (ar=[Ga af,Ga (.ref O),Ga (.ref h),Ga (.ref g),W,Ge,Ge]) (Qx N y) (N g=Ge) (h≠g) (y h=Ga (.lst ov)) (y g=Ga (.lst xs)) (Zp y ov a) (Zp y xs f) (∀u∈a,rg u) (∀u∈f,rg u) (t∈a\/t∈f) (∀(i:Nat)w b,a[i]?=Ga (Th.mk w b)->∀p∈b,(∃j:Nat,i<j/\a[j]?=Ga p)\/p∈f) (m'=Qs f) (a.length+Qs f<=1000),λar y G=>G;have aL:(o++[x])[(o++[x]).length - 1]?=Ga x:=by simp
  exists _,Xb,.inl {Xb,_,Zb.of (s4 _ _ gl)},g,_,_,Xb,Xb,s4 _ _ gl,aL;rw[List.dropLast_concat];have J:Jk g E (zj (zj E z (.lst [])) g (.lst o)):=λc h e G=>by rw[Qg G];exact s4 _ _ e
  have l5:(zj (zj E z (.lst [])) g (.lst o)) g=Ga (.lst o):=Qb;generalize zj (zj E z (.lst [])) g (.lst o)=l at J l5⊢;have t5:Qp E l:=J.Ql gl (λxs e=>by cases e);have aP:Qx N l:=λc h e=>J c h (sm _ _ e) (Qc e hl);have T:=J _ _ go ah;exists _,Xb,.inl {Xb,_,Zb.of T},_,Xb,h,ov,_,Xb,Xb,T,(by rw[Gz];ext);have L:Jk h l (zj l h (.lst (ov++[x]))):=λc o' e G=>by rw[Qg G];exact e
  have Y:(zj l h (.lst (ov++[x]))) h=Ga (.lst (ov++[x])):=Qb;generalize zj l h (.lst (ov++[x]))=H6 at L Y⊢;have t6:Qp l H6:=L.Ql T (λxs e=>by cases e);have aq:Qx N H6:=λc o' e=>L c o' (aP _ _ e) (Qc e a9);have l6:=L _ _ l5 (Gp ah);have ad:=t5.trans t6;have M:=M.Ql ad;have Q:=Q.Ql ad;obtain⟨b0,D,B,b,rfl,rfl,aJ,ai⟩:=Q.inv;have bi:=ai.length;have ba:=Zj b;have bj:=M.length;have bh:=Zj Tr;have bg:(Th.mk D b).size=Qs b+1:=by simp only[Th.size]
  refine{_,Xb,_,Xb,_,Xb,b0,_,Xb,Zz.of aJ,Wz _ _,λr aN=>?_};rw[gY];have s7:=Qf aN (.tup B);refine{r,B,Xb,.inr (Zz.of Qb),λl2 aK=>?_};have s8:=Qf aK (.lst B);refine{g,l2,o,B,Xb,Xb,s8 _ _ (s7 _ _ l6),Qb,small (by ext),λn S=>?_};have s9:=Qf S (.lst (o++B));have Z:=s7.trans s8;have R:=Z.trans s9;exists Qs (Tr++b),by rw[ao,Y2];ext,n,ov++[.ref b0],o++B,a++[Th.mk D b],Tr++b,_,Xb,aq.trans R,(aq.trans Z).free S,?_,R _ _ Y,Qb,((aO.Ql ad).append (.one Q)).same R,(M.append ai).same R,?_,?_,?_,?_,Xb
  .exact Qc (Z _ _ Y) S
  .intro u' ae;rcases List.mem_append.mp ae with z|z
   .exact fO u' z
   .rw[List.mem_singleton]at z;rw[z];exact ap
  .intro u' ae;rcases List.mem_append.mp ae with z|z
   .exact fT u' (List.mem_append_left _ z)
   .exact yX ap u' z
  .rcases a3 with z|z
   .exact .inl (List.mem_append_left _ z)
   .rcases List.mem_append.mp z with z|z
    .exact .inr (List.mem_append_left _ z)
    .rw[List.mem_singleton]at z;rw[z];exact .inl (List.mem_append_right _ List.mem_cons_self)
  .intro i I C e p A;have v:(a++[Th.mk D b])[a.length]?=Ga (Th.mk D b):=by simp
   rcases Tn i a.length with m|m
   .rw[List.getElem?_append_left m]at e;rcases Xg i I C e p A with⟨j,hj,ej⟩|z
    .exact .inl {j,hj,by rw[List.getElem?_append_left (List.getElem?_eq_some_iff.mp ej).1];exact ej}
    .rcases List.mem_append.mp z with z|z
     .exact .inr (List.mem_append_left _ z)
     .rw[List.mem_singleton]at z;exact .inl {a.length,m,by rw[z];exact v}
   .have:i=a.length:=by have:=(List.getElem?_eq_some_iff.mp e).1;rw[List.length_append,List.length_singleton]at this;ext
    subst this;rw[v]at e;cases e;exact .inr (List.mem_append_right _ A)
  .rw[List.length_append,List.length_singleton,Y2];ext
end
end K07
namespace L2
open PySem PySem.Spec PyProof.Rows
section
variable{X:Cx}
inductive vT(x:V)(vs:List V)(H:Hp)(Q:VK):Prop
 |mk (l:Gc) (xs:List V) (i:Int) (y:V) (h0:x=.ref l) (h1:vs=[.int i,y]) (h2:H l=Ga (.lst xs)) (h3:xs.length<Gj) (h4:0<=i) (h5:i<=(xs.length:Int)) (h6:Q .non (zj H l (.lst (xs.take i.toNat++y::xs.drop i.toNat)))):vT x vs H Q
def CG:V->List V->Hp->VK->Prop:=λx a H Q=>vT x a H Q
theorem JL{b:List V}{a:List Value}(n:Nat)(r:Zt b a):Zt (b.take n) (a.take n):=by
 induction r generalizing n with
 |nil=>cases n<;>exact .nil
 |cons h r c=>
  cases n with
  |zero=>exact .nil
  |succ n=>exact .cons h (c n)
theorem IX{b:List V}{a:List Value}(n:Nat)(r:Zt b a):Zt (b.drop n) (a.drop n):=by
 induction r generalizing n with
 |nil=>cases n<;>exact .nil
 |cons h r c=>
  cases n with
  |zero=>exact .cons h r
  |succ n=>exact c n
theorem Ku(a:List Value)(k:Nat)(y:Value):(a.toArray.extract 0 k).push y++a.toArray.extract k=(a.take k++y::a.drop k).toArray:=by apply Array.toList_inj.mp;simp;exact List.take_of_length_le (by rw[List.length_drop];ext)
theorem JO:lX X "list.insert" CG:=by
 intro g s K H x G v E Q I p o h;obtain⟨l,J,i,y,rfl,rfl,d,B,u,w,q⟩:=h;cases p;obtain⟨D,c,rfl,⟨t,rfl⟩,m⟩:=vals2 o;obtain⟨z,a,n,r,A,e⟩:=I.iC d;have f:=r.length;have C:=Gz;have b:Builtin.List.listFitsIndex i=Gg:=by unfold Builtin.List.listFitsIndex;simp only[Td,SI];ext
 refine Le F.slot_list_insert {_,e,Xb} F.entry_list_insert (F.args_list_insert_3 _ _ _) (Lm l a.toArray n i t c (by simp[b]) (by rw[List.size_toArray];ext)) {e,?_};refine{.non,_,I.jV (its':=a.take i.toNat++c::a.drop i.toNat) d e ?_ ((JL _ r).append (.cons m (IX _ r))) ?_,Xb,q}
 .have k:¬i<0:=by ext
  have j:min i.toNat a.toArray.size=i.toNat:=by rw[List.size_toArray];ext
  simp only[k,Dm,j];exact Ku a i.toNat c
 .rw[List.length_append,List.length_cons,List.length_take,List.length_drop];ext
end
theorem B6(a:List V)(k:Nat):Ul a Ge (Ga (k:Int))=a.take k:=by unfold Ul;rw[HT.Iz,HT.Jo];simp
theorem Ay(a:List V)(k:Nat)(h:k<a.length):¬(HT.Wr a.length 0 Ge=0/\HT.Wr a.length a.length (Ga (k:Int))=a.length):=by rw[HT.Jo];rintro⟨_,b⟩;ext
theorem Ht{c:Type}{a:List c}{v:c}(h:a[a.length - 1]?=Ga v):atI a (-1)=Ga v:=by
 rcases List.eq_nil_or_concat a with rfl|⟨b,u,e⟩
 .simp at h
 .have e:a=b++[u]:=by simpa using e
  subst e;have:u=v:=by simpa using h
  rw[this];exact AJ b v
end L2
namespace Sb
open PySem PySem.Spec PyProof.Rows L2
variable{α β:Type}{tl:Tl}
mutual
theorem wD(a:GY->GY):∀t:Th,(t.V1 a).depth=t.depth
 |.mk w b=>by simp only[Th.V1,Th.depth,uJ a b]
theorem uJ(a:GY->GY):∀b:List Th,X6 (Uk a b)=X6 b
 |[]=>by simp only[Uk]
 |t::r=>by simp only[Uk,X6,wD a t,uJ a r]
end
mutual
theorem zO(a:GY->GY):∀t:Th,(t.V1 a).size=t.size
 |.mk w b=>by simp only[Th.V1,Th.size,yr a b]
theorem yr(a:GY->GY):∀b:List Th,Qs (Uk a b)=Qs b
 |[]=>by simp only[Uk]
 |t::r=>by simp only[Uk,Qs,zO a t,yr a r]
end
mutual
theorem vt:∀t:Th,t.ok=Gg->(t.V1 rn).ok=Gg
 |.mk w a,h=>by simp only[Th.ok,Td]at h;simp only[Th.V1,Th.ok,Td];exact{BL h.1,zE a h.2}
theorem zE:∀a:List Th,okL a=Gg->okL (Uk rn a)=Gg
 |[],_=>by simp only[Uk,okL]
 |t::r,h=>by simp only[okL,Td]at h;simp only[Uk,okL,Td];exact{vt t h.1,zE r h.2}
end
theorem K2{t:Th}(h:t.good):(t.V1 rn).good:={vt t h.1,by rw[wD];exact h.2.1,by rw[zO];exact h.2.2}
theorem BH{U:List Th}(h:∀t∈U,∀p∈t.parts,p∈U)(a:∀t∈U,t.good)(e:U.length<=60):jZ (U.map (Th.V1 rn)):=by
 refine{vr λt c p f=>?_,λt c=>?_,by rw[List.length_map];exact e}
 .obtain⟨u,d,rfl⟩:=List.mem_map.mp c;obtain⟨w,i⟩:=u;simp only[Th.V1,Th.parts,pe]at f;obtain⟨g,b,rfl⟩:=List.mem_map.mp f;exact List.mem_map.mpr {g,h _ d g (by simpa only[Th.parts]using b),Xb}
 .obtain⟨u,d,rfl⟩:=List.mem_map.mp c;exact K2 (a u d)
def Oz{α:Type}(xs:List α)(i:Nat)(y:α):List α:=xs.take i++y::xs.drop i
theorem Iy{a:List α}{i:Nat}{y x:α}:x∈Oz a i y↔x=y\/x∈a:=by
 unfold Oz;rw[List.mem_append,List.mem_cons];have h:x∈a↔x∈a.take i\/x∈a.drop i:=by rw[<-List.mem_append,List.take_append_drop]
 rw[h];constructor
 .rintro(h|h|h)
  .exact .inr (.inl h)
  .exact .inl h
  .exact .inr (.inr h)
 .rintro(h|h|h)
  .exact .inr (.inl h)
  .exact .inl h
  .exact .inr (.inr h)
theorem SB{a:List α}{i:Nat}{y:α}:(Oz a i y).length=a.length+1:=by unfold Oz;rw[List.length_append,List.length_cons,List.length_take,List.length_drop];ext
def mf(p q:Bool×Th×Th):Prop:=q=p\/q=(p.1,p.2.2,p.2.1)
theorem AR{a:Tl}{p q:Bool×Th×Th}(i:Nat)(h:Sub tl a)(c:mf p q):Sub (tl++[p]) (Oz a i q):=by
 intro b x y m;rcases List.mem_append.mp m with m|m
 .rcases h b x y m with z|z
  .exact .inl (Iy.mpr (.inr z))
  .exact .inr (Iy.mpr (.inr z))
 .rw[List.mem_singleton]at m;subst m;rcases c with rfl|rfl
  .exact .inl (Iy.mpr (.inl Xb))
  .exact .inr (Iy.mpr (.inl Xb))
theorem QJ{a:Tl}{p q:Bool×Th×Th}(i:Nat)(h:Sub a tl)(c:mf p q):Sub (Oz a i q) (tl++[p]):=by
 intro b x y m;rcases Iy.mp m with m|m
 .rcases c with rfl|rfl
  .exact .inl (List.mem_append_right _ (by rw[m];exact List.mem_cons_self))
  .obtain⟨d,e,f⟩:=p;simp only[TX]at m;obtain⟨rfl,rfl,rfl⟩:=m;exact .inr (List.mem_append_right _ List.mem_cons_self)
 .rcases h b x y m with z|z
  .exact .inl (List.mem_append_left _ z)
  .exact .inr (List.mem_append_left _ z)
theorem Uu{F:α->β->Prop}{a:List α}{b:List β}(n:Nat)(r:Paired F a b):Paired F (a.take n) (b.take n):=by
 induction r generalizing n with
 |nil=>cases n<;>exact .nil
 |cons h r c=>
  cases n with
  |zero=>exact .nil
  |succ n=>exact .cons h (c n)
theorem OQ{F:α->β->Prop}{a:List α}{b:List β}(n:Nat)(r:Paired F a b):Paired F (a.drop n) (b.drop n):=by
 induction r generalizing n with
 |nil=>cases n<;>exact .nil
 |cons h r c=>
  cases n with
  |zero=>exact .cons h r
  |succ n=>exact c n
theorem OV{F:α->β->Prop}{a:List α}{b:List β}{x:α}{y:β}(n:Nat)(r:Paired F a b)(h:F x y):Paired F (Oz a n x) (Oz b n y):=Yh (Uu n r) (.cons h (OQ n r))
theorem KN{a:List Th}{d:Dd}(h:∀p∈tl,p.2.1∈a/\p.2.2∈a)(g:d.fits a):∀p∈(Vt tl d).1,p.2.1∈a/\p.2.2∈a:=by
 cases d with
 |ask x y=>exact h
 |back i=>
  simp only[Vt];split
  .exactλp c=>h p (List.mem_of_mem_take c)
  .exact h
 |tell b x y=>
  simp only[Vt];split
  .exact h
  .intro p c;rcases List.mem_append.mp c with z|z
   .exact h p z
   .rw[List.mem_singleton]at z;subst z;exact g
theorem vK{a:List Th}:∀{ds:List Dd}{tl:Tl},(∀p∈tl,p.2.1∈a/\p.2.2∈a)->(∀d∈ds,d.fits a)->∀p∈after tl ds,p.2.1∈a/\p.2.2∈a
 |[],_,h,_=>h
 |d::ds,tl,h,g=>by have:=vK (ds:=ds) (tl:=(Vt tl d).1) (KN h (g d List.mem_cons_self)) λe b=>g e (List.mem_cons_of_mem _ b);simp only[after];exact this
theorem Vr.dds{H:Hp}{a:List V}(h:Vr H a tl):U8 H a (tl.map Up):=by
 unfold Vr at h;unfold U8;induction h with
 |nil=>exact .nil
 |cons h r b=>exact .cons h b
end Sb
namespace K07
open PySem L2 Sb
abbrev lSt(i:Nat):Db:=(X5 ie).getD i (.Pass {0,0,0,0})
abbrev lN:List GY:=["_law_script","_law_things","_law_told","_law_seed","_law_turned","_law_k","_law_deed","_law_called","_law_one","_law_other","_law_due","_law_asks","_law_rows","_law_j","_law_found"]
theorem jU:Qw lN ["_law_script"] (Qk ie):=by eq_refl
theorem qN(a:List Int)(j k:Nat):∃b:List Int,Ul (a.map V.int) (Ga (j:Int)) (Ga (k:Int))=b.map V.int/\b.length<=k - j/\(a.length<=j->b=[]):=by
 refine{(a.drop (min j a.length)).take (min k a.length - min j a.length),?_,?_,λh=>?_}
 .unfold Ul;rw[HT.Jo,HT.Jo,List.length_map,List.map_take,List.map_drop]
 .rw[List.length_take];ext
 .rw[Nat.min_eq_right h,Nat.sub_eq_zero_of_le (FA _ _)];simp
theorem yS{b:List Th}{m:Nat}(D:Drawn b m)(a:m<=4):∀t∈b,t.good:=λt c=>by obtain⟨j,a⟩:=List.mem_iff_getElem?.mp c;have g:j<b.length:=(List.getElem?_eq_some_iff.mp a).1;have d:=D.any j t a;have e:=D.dep j t a;have f:=D.len;exact{D.ok t c,by lia,by lia}
theorem QG(a:Tl)(x y:Th):Dc (kindOf a x y)=Gg:=by
 unfold kindOf;split
 .decide+kernel
 .split<;>decide+kernel
theorem Ko{H:Hp}{X:Gc->Prop}{d:Tl}{x y:Th}{f:List V}(G:¬Yv d)(F:f.length=(d.map Up++[Dd.ask x y]).length)(ok:oH H X (d.map Up++[Dd.ask x y]) f):
  (∀k:Nat,k<d.length->f[k]?=Ga (.int ((k:Int)+1)))/\∃a z C,f[d.length]?=Ga (.ref a)/\H a=Ga (.tup (.str (kindOf d x y)::z::C)):=by
 have b:f.length=d.length+1:=by rw[F,List.length_append,List.length_map,List.length_singleton]
 have i:∀k,¬Yv (d.take k):=λk z=>G (Js (xr k) z);have g:∀k,k<=d.length->after [] ((d.map Up++[Dd.ask x y]).take k)=d.take k:=λk l=>by rw[List.take_append_of_le_length (by rw[List.length_map];exact l),<-List.map_take];have:=(qF (d.take k) [] (by rw[List.nil_append];exact i k)).1;rw[List.nil_append]at this;exact this
 exists λk l=>?_
 .obtain⟨v,ev⟩:∃v,f[k]?=Ga v:={_,List.getElem?_eq_getElem (by ext)};obtain⟨p,o⟩:∃p,d[k]?=Ga p:={_,List.getElem?_eq_getElem l};have m:(d.map Up++[Dd.ask x y])[k]?=Ga (Up p):=by rw[List.getElem?_append_left (by rw[List.length_map];exact l),List.getElem?_map,o];rfl
  have h:=ok k _ v m ev;rw[g k (by ext)]at h;obtain⟨b,s,t⟩:=p;have j:¬Yv (d.take k++[(b,s,t)]):=by have:=i (k+1);rw[List.take_add_one,o]at this;exact this
  have q:(d.take k).length=k:=by rw[List.length_take];ext
  rcases h with⟨_,h⟩|⟨e,n,a,c,B,A,_,_,h,_⟩
  .rw[ev,h,q]
  .exact absurd {a,c,List.mem_of_getElem? h.1,h.2.1} j
 .obtain⟨v,ev⟩:∃v,f[d.length]?=Ga v:={_,List.getElem?_eq_getElem (by ext)};have m:(d.map Up++[Dd.ask x y])[d.length]?=Ga (.ask x y):=by rw[List.getElem?_append_right (by rw[List.length_map];exact Gm _),List.length_map,Nu];rfl
  have h:=ok _ _ v m ev;rw[g _ (Gm _),List.take_length]at h;have r:=h.head;have E:(Vt d (.ask x y)).2=.str (kindOf d x y):=rfl;rw[E]at r;obtain⟨e,w,z,q,o,u⟩:∃e w z q,v=.ref e/\H e=Ga (.tup (w::z::q)):=by
   rcases h with⟨_,e,B,A,h,b,_⟩|⟨_,e,n,a,c,B,A,h,b,_⟩|⟨_,_,e,K,L,I,J,S,h,b,_⟩
   .exact{_,_,_,_,h,b}
   .exact{_,_,_,_,h,b}
   .exact{_,_,_,_,h,b}
  rcases r with j|⟨a,C,j,D⟩
  .rw[o]at j;cases j
  .rw[o]at j;cases j;rw[u]at D;cases D;exact{e,z,q,by rw[ev,o],u}
section
variable{P:Gi}{w:Gu}{K:Gd}{mg:GY->Option Value}{base:Heap}{f:Gc}{cdv:Value}{A:TL}{outer:List L9}{s:Gk}{Hi:Hp}{E:XK}
abbrev XL(P:Gi)(w:Gu)(K:Gd)(mg:GY->Option Value)(base:Heap)(f:Gc)(cdv:Value)(A:TL)(outer:List L9)(s:Gk)(Hi:Hp)(E:XK):Cx:=(iG Z5 P w K mg base lN "law" (Qk ie) f cdv A outer s Hi E).nox
theorem zS(T:gG mg):∃t,PS (XL P w K mg base f cdv A outer s Hi E) (lSt 4) t/\∀(a F b l:Gc)(n:Int)(r:List V)(e:Tl)(D:Hp)
  (W:D l=Ga (.lst r))(X:Vr D r e)(hl:e.length<=10)(U:D b=Ga (.lst []))(ne:l≠b),
  Tr t (λσ H=>H=D/\σ=[Ga (.ref a),Ga (.ref F),Ga (.ref l),Ga (.int n),Ga (.ref b),Ge,Ge,Ge,Ge,Ge,Ge,Ge,Ge,Ge,Ge])
   (λσ H=>gV λd ul v B=>hJ (σ=[Ga (.ref a),Ga (.ref F),Ga (.ref l),Ga (.int n),Ga (.ref b),v,B,Ge,Ge,Ge,Ge,Ge,Ge,Ge,Ge]) (Jk b D H) (H b=Ga (.lst d)) (Vr H d ul) (ul.length=e.length) (Sub e ul) (Sub ul e)):=by
 have Z:=jU.nd;exists _,(Z8 Gv rfl (Vg rfl T.range (Qa (Qo Xd rfl T.len GX (Qa (pv 2) Qe)) Qe)) (Z6 5 Z)
  (Qd (Qt 6 Z (Qn Ze (pv 2) (pv 5)))
  (Qd (Zq (Qr Va (Zh Xy (Zh X0 (pv 3) (Zh Uw (pv 5) Qj)) Qj) Qj (Q4 _))
  (Qh (Qt 6 Z (Za (Qa (Qn Q3 (pv 6) Qj) (Qa (Qn Q3 (pv 6) Qj) (Qa (Qn Q3 (pv 6) Qj) Qe)))))) Q6)
  (Qh (Zc (Xk Gs M3 M4 JO (pv 4) (Qa (Zh Xy (Zh Uw (Zh X0 (pv 3) Qj) (Zh ny Qj (pv 5))) (Zh Uw (Qo Xd rfl T.len GX (Qa (pv 4) Qe)) Qj)) (Qa (pv 6) Qe))))))))
 intro a F b l n r e D W X hl U ne;rintro D' σ H ⟨rfl,rfl⟩ kk;have ao:r.length=e.length:=Gr X;let ak:Nat->St->Hp->Prop:=λk σ o=>gV λd ul v B=>hJ (σ=[Ga (.ref a),Ga (.ref F),Ga (.ref l),Ga (.int n),Ga (.ref b),v,B,Ge,Ge,Ge,Ge,Ge,Ge,Ge,Ge]) (Jk b H o) (o b=Ga (.lst d)) (Vr o d ul) (ul.length=k) (Sub (e.take k) ul) (Sub ul (e.take k))
 refine⟨_,Xb,_,_,Xb,.inl {_,Zb.of W,Xb},_,Xb,by ext,by ext,Vh (lo:=0) (n:=((r.length:Int)).toNat) ak
  {[],[],_,_,Xb,Jk.refl,U,.nil,Xb,(λaj x y Y=>by simp at Y),(λaj x y Y=>by simp at Y)} ?_ ?_⟩
 .rintro k σ o hk ⟨d,ul,v,B,rfl,I,j,M,g3,N,O⟩;have hk:k<e.length:=by ext
  have am:d.length=ul.length:=Gr M;obtain⟨x,ex⟩:∃x,r[k]?=Ga x:={_,List.getElem?_eq_getElem (by ext)};have G:Qp H o:=I.Ql U (λxs z=>by cases z);obtain⟨p,ep,m,R,S,rfl,he,t1,t2⟩:=Qy X ex;have L:=G _ _ he;have ah:=I _ _ W ne;have et:e.take (k+1)=e.take k++[p]:=by rw[List.take_add_one,ep];rfl
  exists _,Xb,_,Xb,l,r,_,_,Xb,Xb,Zb.of ah,(by rw[Ee];exact Qz ex);exists _,Xb,_,Xb,_,_,Xb,Xb,_,_,Xb,Xb,{by ext,by ext},_,_,Xb,Xb,(by show(0:Int)<2;decide),Xb,_,Xb;have ab:∀{g:Hp}{q:Bool×Th×Th}{y:V}{af:Option V},Qx o g->mf p q->(∃m C u,y=.ref m/\g m=Ga (.tup [.str (tw q.1),C,u])/\Z2 g C q.2.1/\Z2 g u q.2.2)->∀i:Nat,
    gV λae ul v B=>hJ ([Ga (V.ref a),Ga (.ref F),Ga (.ref l),Ga (.int n),Ga (.ref b),Ga (.int (0+(k:Int))),af,Ge,Ge,Ge,Ge,Ge,Ge,Ge,Ge]=[Ga (V.ref a),Ga (.ref F),Ga (.ref l),Ga (.int n),Ga (.ref b),v,B,Ge,Ge,Ge,Ge,Ge,Ge,Ge,Ge]) (Jk b H (zj g b (.lst (Oz d i y)))) ((zj g b (.lst (Oz d i y))) b=Ga (.lst ae)) (Vr (zj g b (.lst (Oz d i y))) ae ul) (ul.length=k+1) (Sub (e.take (k+1)) ul) (Sub ul (e.take (k+1))):=by
   intro g q y af h ad hy i;have ac:=h _ _ j;have ai:Qp o (zj g b (.lst (Oz d i y))):=(Qp.of h).trans (Zk λxs z=>by rw[ac]at z;cases z);have Q:Qp g (zj g b (.lst (Oz d i y))):=Zk λxs z=>by rw[ac]at z;cases z
   obtain⟨e',v',u',rfl,J,h3,h4⟩:=hy;exists _,Oz ul i q,_,_,Xb,λc an h1 J=>by rw[Qg J];exact h _ _ (I _ _ h1 J),Qb,OV i (M.Ql ai) {e',v',u',Xb,Q _ _ J,h3.Ql Q,h4.Ql Q},by rw[SB,g3],?_
   .rw[et];exact AR i N ad
   .rw[et];exact QJ i O ad
  have aa:=TJ (n / 3+2*(0+(k:Int))) (show((d.length:Int)+1)≠0 by ext);have al:=Tq (n / 3+2*(0+(k:Int))) (show(0:Int)<(d.length:Int)+1 by ext);refine Vu (λc=>?_) (λc=>?_)
  .refine{_,Xb,m,_,_,_,Xb,Xb,Zz.of L,Qz (j:=0) rfl,_,Xb,m,_,_,_,Xb,Xb,Zz.of L,Qz (j:=2) rfl,_,Xb,m,_,_,_,Xb,Xb,Zz.of L,Qz (j:=1) rfl,by show 3<=Gj;decide,λC ag=>?_};have h:=Qf ag (.tup [.str (tw p.1),S,R]);exists _,Xb,.inl {Xb,_,Zb.of (h _ _ j)},_,Xb,_,_,Xb,Xb,{by decide,by decide},_,Xb,_,_,Xb,Xb,.inl {by decide,by decide},_,_,Xb,Xb,_,Xb,_,_,Xb,.inl {_,Zb.of (h _ _ j),Xb},_,_,Xb,Xb,_,_,Xb,Xb,(by ext),_,Xb,b,d,_,_,Xb,Xb,h _ _ j,by rw[Gz];ext,aa,(by ext);exact ab h (.inr Xb) {C,S,R,Xb,Qb,(t2.Ql G).same h,(t1.Ql G).same h} _
  .exists _,Xb,.inl {Xb,_,Zb.of j},_,Xb,_,_,Xb,Xb,{by decide,by decide},_,Xb,_,_,Xb,Xb,.inl {by decide,by decide},_,_,Xb,Xb,_,Xb,_,_,Xb,.inl {_,Zb.of j,Xb},_,_,Xb,Xb,_,_,Xb,Xb,(by ext),_,Xb,b,d,_,_,Xb,Xb,j,by rw[Gz];ext,aa,(by ext);exact ab (λ_ _ C=>C) (.inl Xb) {m,R,S,Xb,L,t1.Ql G,t2.Ql G} _
 .rintro σ o ⟨d,ul,v,B,rfl,I,j,M,g3,N,O⟩;have g:((r.length:Int)).toNat=e.length:=by ext
  rw[g,List.take_length]at N O;exact kk _ _ {d,ul,v,B,Xb,I,j,M,by ext,N,O}
theorem PJ{G:Gc}{U:Tp}(aa:Yd 1 (XL P w K mg base f cdv A outer s Hi E).A)(R:Qu P w K mg base Z5 1 G U ["_law_thing"] pZ)(kR:KI K G)(T:zk K U ["_law_thing"] [])(mR:MG mg "_law_recalled" G):
  ∃t,PS (XL P w K mg base f cdv A outer s Hi E) (lSt 6) t/\∀(a u b g y:Gc)(n:Int)(B e:Option V)(o:List V)(h:Tl)(j:Hp)
  (L:j g=Ga (.lst o))(M:Vr j o h)(hl:h.length<=10)(Y:∀p∈h,rg p.2.1/\rg p.2.2)(I:j b=Ga (.lst []))(ne:g≠b),
  Tr t (λσ H=>H=j/\σ=[Ga (.ref a),Ga (.ref u),Ga (.ref g),Ga (.int n),Ga (.ref y),B,e,Ga (.ref b),Ge,Ge,Ge,Ge,Ge,Ge,Ge])
   (λσ H=>ia λd e=>iA (σ=[Ga (.ref a),Ga (.ref u),Ga (.ref g),Ga (.int n),Ga (.ref y),B,e,Ga (.ref b),Ge,Ge,Ge,Ge,Ge,Ge,Ge]) (Jk b j H) (H b=Ga (.lst d)) (Vr H d (h.map (U4 rn)))):=by
 have nd:=jU.nd;exists _,(Z8 Gv rfl (Yx (pv 2)) (Z6 6 nd)
  (Qh (Zc (Xk Gs Gy GJ Zr (pv 7) (Qa (Za (Qa (Qn Q3 (pv 6) Qj) (Qa (Zs R aa rfl mR kR T .nil Q5 (Qa (Qn Q3 (pv 6) Qj) Qe)) (Qa (Zs R aa rfl mR kR T .nil Q5 (Qa (Qn Q3 (pv 6) Qj) Qe)) Qe)))) Qe)))))
 intro a u b g y n B e o h j L M hl Y I ne;rintro D' σ H ⟨rfl,rfl⟩ kk;have ae:o.length=h.length:=Gr M;let ag:Nat->St->Hp->Prop:=λk σ i=>ia λd e=>iA (σ=[Ga (.ref a),Ga (.ref u),Ga (.ref g),Ga (.int n),Ga (.ref y),B,e,Ga (.ref b),Ge,Ge,Ge,Ge,Ge,Ge,Ge]) (Jk b H i) (i b=Ga (.lst d)) (Vr i d ((h.take k).map (U4 rn)))
 refine⟨_,Xb,g,Xb,{_,Zb.of L},Xh (K:=K) (a:=g) (xs:=o) ag
  {[],_,Xb,Jk.refl,I,by simp;exact .nil} (by rintro k σ i _ ⟨_,_,_,l,_⟩;exact Zb.of (l _ _ L ne)) ?_ ?_⟩
 .rintro k x σ i ex ⟨d,e,rfl,l,r,m⟩;have af:d.length=((h.take k).map (U4 rn)).length:=Gr m;rw[List.length_map,List.length_take]at af;have Q:Qp H i:=l.Ql I (λxs z=>by cases z);obtain⟨p,W,F,v1,v2,rfl,he,t1,t2⟩:=Qy M ex;have J:=Q _ _ he;obtain⟨ab,ac⟩:=Y p (List.mem_of_getElem? W);refine{_,Xb,.inl {Xb,_,Zb.of r},_,Xb,F,_,_,_,Xb,Xb,Zz.of J,Qz (j:=0) rfl,_,Xb,F,_,_,_,Xb,Xb,Zz.of J,Qz (j:=1) rfl,v1,p.2.1,Xb,t1.Ql Q,ab,λC H2 O i1=>?_};refine{_,Xb,F,_,_,_,Xb,Xb,Zz.of (O _ _ J),Qz (j:=2) rfl,v2,p.2.2,Xb,(t2.Ql Q).same O,ac,λD S s3 i2=>?_};refine{by show 3<=Gj;decide,λq ad=>?_};have s4:=Qf ad (.tup [.str (tw p.1),.ref C,.ref D]);have N:=(O.trans s3).trans s4;have X:=N _ _ r;exists b,d,_,Xb,Xb,X,(by rw[Gz];ext);have v:Qp (zj S q (.tup [.str (tw p.1),.ref C,.ref D])) (zj (zj S q (.tup [.str (tw p.1),.ref C,.ref D])) b (.lst (d++[.ref q]))):=Zk λxs z=>by rw[X]at z;cases z
  have ah:=(Qp.of N).trans v;exists _,_,Xb,λc ai h1 Z=>by rw[Qg Z];exact N _ _ (l _ _ h1 Z),Qb;rw[List.take_add_one,W,List.map_append];exact Yh (m.Ql ah) (.cons {q,_,_,Xb,v _ _ Qb,((i1.same s3).same s4).Ql v,(i2.same s4).Ql v} .nil)
 .rintro σ i ⟨d,e,rfl,l,r,m⟩;rw[ae,List.take_length]at m;exact kk _ _ ⟨d,e,Xb,l,r,m⟩
structure iN(H:Hp)(n:Nat)(kd:GY)(a xa:Gc):Prop where
 ex:∃(tv:List V)(tl:Tl)(U:List Th)(x y:Th)(v1 v2:V),H a=Ga (.lst tv)/\Vr H tv tl/\tl.length=n/\¬Yv tl/\H xa=Ga (.tup [.str "ask",v1,v2])/\Z2 H v1 x/\Z2 H v2 y/\kindOf tl x y=kd/\jZ U/\(∀p∈tl,p.2.1∈U/\p.2.2∈U)/\x∈U/\y∈U
theorem iN.same{H b:Hp}(e:Qx H b){n:Nat}{kd:GY}{a c:Gc}(h:iN H n kd a c):iN b n kd a c:=by obtain⟨p,o,U,x,y,q,r,d,f,g,i,j,k,l,m⟩:=h.ex;exact{p,o,U,x,y,q,r,e _ _ d,f.Ql (Qp.of e),g,i,e _ _ j,k.same e,l.same e,m}
theorem I7{fW Y Z:Gc}{dW dH dS:Tp}{nW:Nat}{pW:GY}(a:gG mg)(ah:Yd 1 (XL P w K mg base f cdv A outer s Hi E).A)(au:Yd nW (XL P w K mg base f cdv A outer s Hi E).A)
  (GW:Qu P w K mg base Z5 nW fW dW [pW] p9)(kW:KI K fW)(bW:zk K dW [pW] [])(mW:MG mg "answers" fW)
  (GH:Qu P w K mg base Z5 1 Y dH ["_law_found"] (pQ K))(kH:KI K Y)(bH:zk K dH ["_law_found"] [])(mH:MG mg "_law_whole" Y)
  (GS:Qu P w K mg base Z5 1 Z dS ["_law_found","_law_due"] nR)(kS:KI K Z)(bS:zk K dS ["_law_found","_law_due"] [])(mS:MG mg "_law_so" Z):
  ∃t,PS (XL P w K mg base f cdv A outer s Hi E) (lSt 13) t/\∀(M N O Q c R S T U:Option V)(v j l:Gc)(b:List V)(kd:GY)(B C D n o q:Gc)(e:Hp)
  (hq:e v=Ga (.lst b))(hl:b.length<=10)(ae:Dc kd=Gg)(af:e j=Ga (.lst [.ref n,.ref o,.ref q]))(ag:e l=Ga (.lst [.ref B,.ref C,.ref D]))
  (b0:iN e b.length kd B n)(b1:iN e b.length kd C o)(b2:iN e b.length kd D q),
  Tr t (λσ H=>H=e/\σ=[M,N,Ga (.ref v),O,Q,c,R,S,T,U,Ga (.str kd),Ga (.ref j),Ga (.ref l),Ge,Ge])
   (λσ H=>True):=by
 have nd:=jU.nd;exists _,(Z8 Gv rfl (Vg rfl a.range (Qa Qj Qe)) (Z6 13 nd)
  (Qd (Qt 14 nd (Zs GW au rfl mW kW bW .nil Q5 (Qa (Zh Ue (Qn Ze (pv 12) (pv 13)) (Zl (Qa (Qn Ze (pv 11) (pv 13)) Qe))) Qe)))
  (Qd (Zq (PW.pt (Rx (Jy (Wb (Qo Xi rfl a.isinstance Ta (Qa (pv 14) (Qa (Xn (v:=.ty "list") rfl a.list TV Xb) Qe))))) (Ia (Qr Io (Qo Xd rfl a.len GX (Qa (pv 14) Qe)) (Zh Uw (Qo Xd rfl a.len GX (Qa (pv 2) Qe)) Qj) (Q4 _)))))
  (Qh (Qv Ww)) Q6)
  (Qd (Z8 Gv rfl (Vg rfl a.range (Qa (Qo Xd rfl a.len GX (Qa (pv 2) Qe)) Qe)) (Z6 5 nd)
  (Qh (Zq (PW.pt (Rx (Jy (Wb (Zs GH ah rfl mH kH bH .nil Q5 (Qa (Qn Ze (pv 14) (pv 5)) Qe)))) (Ia (Qr Io (Qn Ze (pv 14) (pv 5)) (Zh Uw (pv 5) Qj) (Q4 _)))))
  (Qh (Qv Ww)) Q6)))
  (Qh (Zq (PW.pt (Rx (Jy (Wb (Qo Xi rfl a.isinstance Ta (Qa (Qn Ze (pv 14) (Rr Uz Qj)) (Qa (Xn (v:=.ty "tuple") rfl a.tuple TR Xb) Qe))))) (Ia (Jy (Wb (Zs GS ah rfl mS kS bS .nil Q5 (Qa (Yo U1 (Qn Ze (pv 14) (Rr Uz Qj)) Xt (Yu Qj)) (Qa (Za (Qa (pv 10) Qe)) Qe))))))))
  (Qh (Qv Ww)) Q6))))))
 intro M N O Q c R S T U v j l b kd B C D n o q e hq hl ae af ag b0 b1 b2;rintro D' σ H ⟨rfl,rfl⟩ kk;let ay:Nat->St->Hp->Prop:=λk σ W=>ke λc ak am=>lJ (σ=[M,N,Ga (.ref v),O,Q,c,R,S,T,U,Ga (.str kd),Ga (.ref j),Ga (.ref l),ak,am]) (Qx H W)
 refine⟨_,Xb,by decide,by decide,Vh (lo:=0) (n:=DT 3) ay
  {_,_,_,Xb,λ_ _ ap=>ap} ?_ (λσ W _=>kk _ _ Tu)⟩
 rintro u σ W hj ⟨c,ak,am,rfl,L⟩;have hj:u<3:=hj;obtain⟨J,g,er,ea,bj⟩:∃J g,[V.ref B,.ref C,.ref D][u]?=Ga (.ref J)/\[V.ref n,.ref o,.ref q][u]?=Ga (.ref g)/\iN H b.length kd J g:=by
  match u,hj with
  |0,_=>exact⟨B,n,Xb,Xb,b0⟩
  |1,_=>exact⟨C,o,Xb,Xb,b1⟩
  |2,_=>exact⟨D,q,Xb,Xb,b2⟩
 obtain⟨ab,tl,an,x,y,v1,v2,h1,h2,h3,h4,h5,h6,h7,h8,hU,h9,hx,hy⟩:=(bj.same L).ex;have aA:ab.length=tl.length:=Gr h2;refine{_,Xb,_,Xb,l,_,_,_,Xb,Xb,Zb.of (L _ _ ag),(by rw[Ee];exact Qz er),_,Xb,_,Xb,j,_,_,_,Xb,Xb,Zb.of (L _ _ af),(by rw[Ee];exact Qz ea),by show 1<=Gj;decide,λc1 aq=>?_};have s1:=Qf aq (.lst [.ref g]);refine{J,c1,_,_,Xb,Xb,s1 _ _ h1,Qb,small (by show _+1<=_;ext),λc2 ar=>?_};have s2:=Qf ar (.lst (ab++[.ref g]));have F:=s1.trans s2;refine{c2,ab++[.ref g],tl.map Up++[Dd.ask x y],an,Xb,Qb,Yh ((h2.dds).same F) (.cons (show hE _ (.ref g) (.ask x y)from{g,v1,v2,Xb,F _ _ h5,h6.same F,h7.same F}) .nil),hU,?_,?_,λr h H2 g2 _ i I ok=>?_}
 .intro d G;rcases List.mem_append.mp G with z|z
  .obtain⟨p,m,rfl⟩:=List.mem_map.mp z;exact h9 p m
  .rw[List.mem_singleton]at z;subst z;exact⟨hx,hy⟩
 .rw[List.length_append,List.length_map,List.length_singleton];ext
 obtain⟨aw,av,zv,xv,ax,aa⟩:=Ko h4 I ok;rw[List.length_append,List.length_map,List.length_singleton]at I;have sA:=(L.trans F).trans g2;rw[h8]at aa;refine{_,Xb,_,_,_,Gg,Xb,.lst i,vm,Gg,Xb,Zu ?_};exists _,Xb,_,_,Xb,.inl {_,Zb.of i,Xb},_,Xb,_,_,Xb,.inl {_,Zb.of (sA _ _ hq),Xb},_,_,Xb,Xb,Xb,_,Xb;rw[Vk];have ao:(((h.length:Nat):Int)==((b.length:Nat):Int)+1)=Gg:=by rw[I,h3];simp
 rw[ao];refine Zu ?_;let az:Nat->St->Hp->Prop:=λk σ X=>iV λc=>lJ (σ=[M,N,Ga (.ref v),O,Q,c,R,S,T,U,Ga (.str kd),Ga (.ref j),Ga (.ref l),Ga (.int (0+(u:Int))),Ga (.ref r)]) (X=H2)
 refine⟨_,Xb,_,_,Xb,.inl {_,Zb.of (sA _ _ hq),Xb},_,Xb,by ext,by ext,Vh (lo:=0) (n:=((b.length:Int)).toNat) az
  {_,Xb,Xb} ?_ ?_⟩
 .rintro k σ X G ⟨c,rfl,rfl⟩;have G:k<tl.length:=by ext
  have ek:=aw k G;have m:atI h (0+(k:Int))=Ga (.int ((k:Int)+1)):=by rw[Ee];exact Qz ek
  refine{_,Xb,_,Xb,r,h,_,_,Xb,Xb,Zb.of i,m,_,_,Gg,Gq,Xb,.int _,qX,nz,Gg,Xb,Zu ?_};exists _,Xb,_,Xb,r,h,_,_,Xb,Xb,Zb.of i,m,_,Xb,_,_,Xb,Xb,Xb,_,Xb;rw[Vk];have:((k:Int)+1==0+(k:Int)+1)=Gg:=by simp
  rw[this];exact Zu {_,Xb,Xb}
 .rintro σ X ⟨c,rfl,rfl⟩;have m:atI h (-1)=Ga (.ref av):=Ht (by rw[I];simpa using ax);refine{_,Xb,_,Xb,r,h,_,_,Xb,Xb,Zb.of i,m,_,_,_,Gg,Xb,.tup aa,rG,Gg,Xb,Zu ?_};refine{_,Xb,_,Xb,r,h,_,_,Xb,Xb,Zb.of i,m,_,Xb,av,_,Xb,Zz.of aa,Ay _ 1 (by simp),λc3 ac=>?_};rw[show Ul (V.str kd::zv::xv) Ge (Ga 1)=[V.str kd]from B6 _ 1];have s3:=Qf ac (.tup [.str kd]);refine{_,Xb,by show 1<=Gj;decide,λc4 ad=>?_};have s4:=Qf ad (.tup [.str kd]);refine{_,_,.tuple [.str kd],Xb,.tup (s4 _ _ Qb) (.cons (.str _) .nil),.tup Qb (.cons (.str _) .nil),by simp[Tt,Gx,ae],by simp[Oq,Z3],by simp[DK,Tv],λH5 G=>{Gg,Xb,Zu ?_}};exact{_,_,_,Xb,((sA.trans s3).trans s4).trans G}
theorem zZ{b:List Th}{m:Nat}(D:Drawn b m)(e:m<=4):∀t∈b,rg t:=λt a=>by obtain⟨c,d,f⟩:=yS D e t a;exact{c,d,D.sh t a,by ext}
theorem QZ{M nW:Nat}{T fD fE fF fA fR fN fW fH fS:Gc}{fd dD dE dF dA dR dN dW dH dS:Tp}{pW:GY}(F:Wj K "law" "law" ie T fd)(ac:gG mg)(hM:3<=M)(hW:nW<=M)
  (GD:Qu P w K mg base Z5 2 fD dD ["_law_cells"] (yc K))(kD:KI K fD)(bD:zk K dD ["_law_cells"] [])(mD:MG mg "_law_drawn_things" fD)
  (GE:Qu P w K mg base Z5 2 fE dE ["_law_cells","_law_things"] (zD K))(kE:KI K fE)(bE:zk K dE ["_law_cells","_law_things"] [])(mE:MG mg "_law_drawn_deeds" fE)
  (GF:Qu P w K mg base Z5 3 fF dF ["_law_deeds"] qz)(kF:KI K fF)(bF:zk K dF ["_law_deeds"] [])(mF:MG mg "_law_after" fF)
  (GA:Qu P w K mg base Z5 1 fA dA ["_law_script","_law_k"] (xH K))(kA:KI K fA)(bA:zk K dA ["_law_script","_law_k"] [])(mA:MG mg "_law_at" fA)
  (GR:Qu P w K mg base Z5 1 fR dR ["_law_thing"] pZ)(kR:KI K fR)(bR:zk K dR ["_law_thing"] [])(mR:MG mg "_law_recalled" fR)
  (GN:Qu P w K mg base Z5 2 fN dN ["_law_told","_law_one","_law_other"] yQ)(kN:KI K fN)(bN:zk K dN ["_law_told","_law_one","_law_other"] [])(mN:MG mg "_law_kind" fN)
  (GW:Qu P w K mg base Z5 nW fW dW [pW] p9)(kW:KI K fW)(bW:zk K dW [pW] [])(mW:MG mg "answers" fW)
  (GH:Qu P w K mg base Z5 1 fH dH ["_law_found"] (pQ K))(kH:KI K fH)(bH:zk K dH ["_law_found"] [])(mH:MG mg "_law_whole" fH)
  (GS:Qu P w K mg base Z5 1 fS dS ["_law_found","_law_due"] nR)(kS:KI K fS)(bS:zk K dS ["_law_found","_law_due"] [])(mS:MG mg "_law_so" fS):
  Qu P w K mg base Z5 (M+1) T fd ["_law_script"] (lW K):=by
 refine F.ok jU (λB ad v E G=>?_) (λcdv A outer s ad B v E hr G=>?_)
 .obtain⟨a,J,rfl,_⟩:=G;rfl
 obtain⟨a,J,rfl,hS,bn,q⟩:=G;have l:=jU.nd;have a4:Yd 3 _:=hr.mono hM;have aq:Yd 2 _:=hr.mono (by lia);have O:Yd 1 _:=hr.mono (by lia);have a5:Yd nW _:=hr.mono hW;obtain⟨tT,bb,bf⟩:=zS (P:=P) (w:=w) (K:=K) (mg:=mg) (base:=base) (f:=T) (cdv:=cdv) (A:=A) (outer:=outer) (s:=s) (Hi:=ad) (E:=E) ac;obtain⟨tC,ba,stC⟩:=PJ (P:=P) (w:=w) (K:=K) (mg:=mg) (base:=base) (f:=T) (cdv:=cdv) (A:=A) (outer:=outer) (s:=s) (Hi:=ad) (E:=E) O GR kR bR mR;obtain⟨tA,a9,be⟩:=I7 (P:=P) (w:=w) (K:=K) (mg:=mg) (base:=base) (f:=T) (cdv:=cdv) (A:=A) (outer:=outer) (s:=s) (Hi:=ad) (E:=E) ac O a5 GW kW bW mW GH kH bH mH GS kS bS mS;exists _,(Qd (Qt 1 l (Zs GD aq rfl mD kD bD .nil Q5 (Qa (Yo Jv (pv 0) (Yu Qj) (Yu Qj)) Qe)))
  (Qd (Qt 2 l (Zs GF a4 rfl mF kF bF .nil Q5 (Qa (Zs GE aq rfl mE kE bE .nil Q5 (Qa (Yo Jv (pv 0) (Yu Qj) (Yu Qj)) (Qa (pv 1) Qe))) Qe)))
  (Qd (Qt 3 l (Zs GA O rfl mA kA bA .nil Q5 (Qa (pv 0) (Qa Qj Qe))))
  (Qd (Qt 4 l (Zl Qe))
  (Qd bb
  (Qd (Qt 7 l (Zl Qe))
  (Qd ba
  (Qd (Qt 8 l (Qn Ze (pv 1) (Zh Xy (Zh X0 (pv 3) Qj) (Qo Xd rfl ac.len GX (Qa (pv 1) Qe)))))
  (Qd (Qt 9 l (Qn Ze (pv 1) (Zh Xy (Zh Uw (Zs GA O rfl mA kA bA .nil Q5 (Qa (pv 0) (Qa Qj Qe))) Qj) (Qo Xd rfl ac.len GX (Qa (pv 1) Qe)))))
  (Qd (Qt 10 l (Zs GN aq rfl mN kN bN .nil Q5 (Qa (pv 2) (Qa (pv 8) (Qa (pv 9) Qe)))))
  (Qd (Qt 11 l (Zl (Qa (Za (Qa Q7 (Qa (pv 8) (Qa (pv 9) Qe)))) (Qa (Za (Qa Q7 (Qa (pv 9) (Qa (pv 8) Qe)))) Qe))))
  (Qd (Zc (Xk Gs Gy GJ Zr (pv 11) (Qa (Za (Qa Q7 (Qa (Zs GR O rfl mR kR bR .nil Q5 (Qa (pv 8) Qe)) (Qa (Zs GR O rfl mR kR bR .nil Q5 (Qa (pv 9) Qe)) Qe)))) Qe)))
  (Qd (Qt 12 l (Zl (Qa (pv 2) (Qa (pv 4) (Qa (pv 7) Qe)))))
  (Qd a9
  (Qh (Qv Ww))))))))))))))))
 obtain⟨au,am,bo,_⟩:=qN J 2 6;obtain⟨av,an,bp,_⟩:=qN J 6 11;have am:Ul (J.map V.int) (Ga 2) (Ga 6)=au.map V.int:=am;have an:Ul (J.map V.int) (Ga 6) (Ga 11)=av.map V.int:=an;refine{_,Xb,_,Xb,_,Xb,a,_,Xb,hS,λp1 a2=>?_};rw[am];have s1:=Qf a2 (.lst (au.map V.int));refine{p1,au,Xb,Zb.of Qb,by lia,λY m u H1 g1 _ gl ga S=>?_};have sA:=s1.trans g1;have br:=S.len;have D:=yS S (by lia);have ai:=zZ S (by lia);have bu:=ga.length;refine{_,Xb,_,Xb,_,Xb,a,_,Xb,sA.seq hS,λp4 a3=>?_};rw[an];have s4:=Qf a3 (.lst (av.map V.int));refine{_,Xb,p4,Y,av,m,u,Xb,Zb.of Qb,by lia,s4 _ _ gl,ga.same s4,by lia,by lia,λq0 es C H2 g2 _ gq aU ld aA=>?_};have aC:∀d∈C,d.good:=λd hd=>by
  have G:=aA d hd;cases d with
  |tell v x y=>exact{D x G.1,D y G.2}
  |ask x y=>exact{D x G.1,D y G.2}
  |back i=>exact Tu
 refine{q0,es,C,Xb,gq,aU,aC,by lia,λQ R H3 g3 _ U ag=>?_};have nb:¬Yv (after [] C):=Ow QN;have H:∀p∈after [] C,p.2.1∈u/\p.2.2∈u:=vK (λp b=>nomatch b) aA;have aa:iM (after [] C):=Oh (λp b=>nomatch b) aC;have bq:(after [] C).length<=5:=by have:=Rj (ds:=C) (tl:=[]);simp only[List.length_nil]at this;lia
 generalize after [] C=tl at*;have bs:R.length=tl.length:=Gr ag;have aH:=((sA.trans s4).trans g2).trans g3;have aV:=((s4.trans g2).trans g3) _ _ gl;have aS:=ga.same ((s4.trans g2).trans g3);refine{_,Xb,a,J,0,Xb,aH.seq hS,λn=>?_};refine{Gw _,λu0 ar=>?_};have s5:=Qf ar (.lst []);refine bf a Y u0 Q n R tl _ (s5 _ _ U) (ag.Ql (Qp.of s5)) (by lia) Qb (Qc U ar) _ _ _ ⟨Xb,Xb⟩ ?_;rintro bv H6 ⟨uv,ul,x5,x6,rfl,aO,aX,bk,bt,bd,az⟩;have al:Qx H3 H6:=λc aG I=>aO _ _ (s5 _ _ I) (Qc I ar);refine{Gw _,λl0 ap=>?_};have s7:=Qf ap (.lst []);refine stC a Y l0 Q u0 n x5 x6 R tl _ (s7 _ _ (al _ _ U)) ((ag.Ql (Qp.of al)).Ql (Qp.of s7)) (by lia) (λp b=>{ai _ (H p b).1,ai _ (H p b).2}) Qb (Qc (al _ _ U) ap) _ _ _ ⟨Xb,Xb⟩ ?_;rintro bw H8 ⟨cv,x6,rfl,aP,aT,bj⟩;have ay:Qx H6 H8:=λc aG I=>aP _ _ (s7 _ _ I) (Qc I ap);have Z:=al.trans ay;have bc:=aH.trans Z;have ae:=Z _ _ aV;have aB:=aS.same Z;have ah:(0:Int)<m.length:=by lia
 obtain⟨j,aM,aQ⟩:=V7 m (n / 5 % m.length) (TJ _ (by lia)) (Tq _ ah);obtain⟨x,ex,i1⟩:=aB.get aQ;have W:=List.mem_of_getElem? ex;exists _,Xb,_,Xb,_,_,Xb,Xb,{by decide,by decide},_,Xb,_,_,Xb,.inl {m,Zb.of ae,Xb},_,_,Xb,Xb,ah,Y,m,_,j,Xb,Xb,Zb.of ae,aM;refine{_,Xb,_,Xb,a,J,1,Xb,bc.seq hS,λa8=>?_};obtain⟨k,aN,aR⟩:=V7 m ((a8+1) % m.length) (TJ _ (by lia)) (Tq _ ah);obtain⟨y,ey,i2⟩:=aB.get aR;have X:=List.mem_of_getElem? ey;exists _,_,Xb,Xb,_,Xb,_,_,Xb,.inl {m,Zb.of ae,Xb},_,_,Xb,Xb,ah,Y,m,_,k,Xb,Xb,Zb.of ae,aN;have gx:=D x W;have gy:=D y X;have zx:=gx.2.2;have zy:=gy.2.2;have sz:=zG aa;have ao:=Z _ _ U;have aF:=ag.Ql (Qp.of Z);refine{_,Xb,_,Xb,_,Xb,Q,R,tl,j,k,x,y,Xb,ao,aF,i1,i2,{gx.1,gx.2.1},{gy.1,gy.2.1},λp b=>{{(aa p b).1.1,(aa p b).1.2.1},(aa p b).2.1,(aa p b).2.2.1},by lia,λkd H9 s9 hk=>?_};have af:=hk.eq;refine{_,Xb,_,Xb,by show 3<=Gj;decide,λf aY=>?_};have aI:=Qf aY (.tup [.str "ask",j,k]);refine{_,Xb,_,Xb,by show 3<=Gj;decide,λg aZ=>?_};have aw:=Qf aZ (.tup [.str "ask",k,j]);refine{by show 2<=Gj;decide,λt aE=>?_};have aj:=Qf aE (.lst [.ref f,.ref g]);have aL:=((s9.trans aI).trans aw).trans aj;refine{_,Xb,.inl {Xb,_,Zb.of Qb},_,Xb,j,x,Xb,i1.same aL,ai x W,λo bm aJ i3=>?_};refine{_,Xb,k,y,Xb,(i2.same aL).same aJ,ai y X,λr N aK i4=>?_};refine{by show 3<=Gj;decide,λe a0=>?_};have ax:=Qf a0 (.tup [.str "ask",.ref o,.ref r]);have ak:=(aJ.trans aK).trans ax;have aD:=ak _ _ (show(zj _ t (.lst [.ref f,.ref g])) t=Ga (.lst [V.ref f,.ref g])from Qb);exists t,_,_,Xb,Xb,aD,(by show 2<Gj;decide);have sB:Qx H8 (zj (zj N e (.tup [.str "ask",.ref o,.ref r])) t (.lst ([.ref f,.ref g]++[.ref e]))):=λc aG I=>by have v:=((s9.trans aI).trans aw) _ _ I;rw[Qg (Qc v aE)];exact ak _ _ (aj _ _ v)
 have ab:Qp (zj N e (.tup [.str "ask",.ref o,.ref r])) (zj (zj N e (.tup [.str "ask",.ref o,.ref r])) t (.lst ([.ref f,.ref g]++[.ref e]))):=Zk λxs z=>by rw[aD]at z;cases z
 have bg:=ab _ _ (ak _ _ ((aw.trans aj) _ _ (show(zj H9 f (.tup [.str "ask",j,k])) f=Ga (.tup [.str "ask",j,k])from Qb)));have bh:=ab _ _ (ak _ _ (aj _ _ (show(zj _ g (.tup [.str "ask",k,j])) g=Ga (.tup [.str "ask",k,j])from Qb)));have bi:=ab _ _ (show(zj N e (.tup [.str "ask",.ref o,.ref r])) e=Ga (.tup [.str "ask",.ref o,.ref r])from Qb);have a6:=((i3.same aK).same ax).Ql ab;have a7:=(i4.same ax).Ql ab;have aW:(zj (zj N e (.tup [.str "ask",.ref o,.ref r])) t (.lst ([.ref f,.ref g]++[.ref e]))) t=Ga (.lst [.ref f,.ref g,.ref e]):=Qb;generalize zj (zj N e (.tup [.str "ask",.ref o,.ref r])) t (.lst ([.ref f,.ref g]++[.ref e]))=HB at*;refine{_,Xb,_,Xb,_,Xb,by show 3<=Gj;decide,λlr a1=>?_};have L:=Qf a1 (.lst [.ref Q,.ref u0,.ref l0]);have h:=sB.trans L;have U0:jZ u:={vr S.cl,D,by lia};have bl:∀p∈ul,p.2.1∈u/\p.2.2∈u:=λp b=>by
  rcases az p.1 p.2.1 p.2.2 b with z|z
  .exact H _ z
  .exact{(H _ z).2,(H _ z).1}
 refine be _ _ _ _ _ _ _ _ _ Q t lr R kd Q u0 l0 f g e _ (h _ _ ao) (by lia) (by rw[af];exact QG tl x y) (L _ _ aW) Qb ?_ ?_ ?_ _ _ _ ⟨Xb,Xb⟩ (λB v _=>q _)
 .exact{R,tl,u,x,y,j,k,h _ _ ao,aF.Ql (Qp.of h),by lia,nb,L _ _ bg,i1.same h,i2.same h,af.symm,U0,H,W,X}
 .refine{uv,ul,u,y,x,k,j,h _ _ (ay _ _ aX),(bk.Ql (Qp.of ay)).Ql (Qp.of h),by lia,λz=>nb (Js az z),L _ _ bh,i2.same h,i1.same h,?_,U0,bl,X,W};rw[af];exact(CA bd az (.inr Xb)).symm
 .refine{cv,tl.map (U4 rn),u.map (Th.V1 rn),x.V1 rn,y.V1 rn,.ref o,.ref r,h _ _ aT,bj.Ql (Qp.of h),by rw[List.length_map];lia,λz=>nb ((HR qy).mp z),L _ _ bi,a6.same L,a7.same L,?_,BH S.cl D (by lia),λp b=>?_,List.mem_map.mpr ⟨x,W,Xb⟩,List.mem_map.mpr ⟨y,X,Xb⟩}
  .rw[af];exact K3 qy
  .obtain⟨B,v,rfl⟩:=List.mem_map.mp b;exact{List.mem_map.mpr {_,(H B v).1,Xb},List.mem_map.mpr {_,(H B v).2,Xb}}
end
end K07
namespace L2
open PySem PySem.Spec PyProof.Rows
variable{p0 p1:GY}
section
variable{K:Gd}{x qual:GY}{st:Db}{f:Gc}{fd:Tp}
theorem Wj.b1(F:Wj K x qual st f fd)(h:∀(kV k n:Value)(l:Option Gc)(j ct:Value)(i:Value),bindArgs (Du x qual (Vl st) (X5 st) (Qk st) .none kV k n l j ct) {[i],[]}=pure ([p0].zip [i])):zk K fd [p0] []:=
 F.binds λa b c d e g o m=>by rcases o with _|⟨i,_|_⟩<;>first|exact h a b c d e g i|cases m
theorem Wj.b2(F:Wj K x qual st f fd)(h:∀(kV l o:Value)(m:Option Gc)(k ct:Value)(i j:Value),bindArgs (Du x qual (Vl st) (X5 st) (Qk st) .none kV l o m k ct) {[i,j],[]}=pure ([p0,p1].zip [i,j])):zk K fd [p0,p1] []:=
 F.binds λa b c d e g p n=>by rcases p with _|⟨i,_|⟨j,_|_⟩⟩<;>first|exact h a b c d e g i j|cases n
theorem Wj.b3{p2:GY}(F:Wj K x qual st f fd)(h:∀(kV m p:Value)(n:Option Gc)(l ct:Value)(i j k:Value),bindArgs (Du x qual (Vl st) (X5 st) (Qk st) .none kV m p n l ct) {[i,j,k],[]}=pure ([p0,p1,p2].zip [i,j,k])):zk K fd [p0,p1,p2] []:=
 F.binds λa b c d e g q o=>by rcases q with _|⟨i,_|⟨j,_|⟨k,_|_⟩⟩⟩<;>first|exact h a b c d e g i j k|cases o
theorem Wj.b4{p2 p3:GY}(F:Wj K x qual st f fd)(h:∀(kV n q:Value)(o:Option Gc)(m ct:Value)(i j k l:Value),bindArgs (Du x qual (Vl st) (X5 st) (Qk st) .none kV n q o m ct) {[i,j,k,l],[]}=pure ([p0,p1,p2,p3].zip [i,j,k,l])):zk K fd [p0,p1,p2,p3] []:=
 F.binds λa b c d e g r p=>by rcases r with _|⟨i,_|⟨j,_|⟨k,_|⟨l,_|_⟩⟩⟩⟩<;>first|exact h a b c d e g i j k l|cases p
end
theorem Zy{K:Gd}{x q:GY}{a:Db}{f:Gc}(h:Sb.Yr K x q a f):∃b,Wj K x q a f b/\T1 K (.ref f)=Gg:=by obtain⟨_,_,_,_,_,_,_,_,_,l,c,k⟩:=h;exact{_,yR l c k,k}
end L2
namespace K07
open PySem L2 Sb
section
variable{K:Gd}
theorem Aa{a:Lj}{w:Gu}{aR:Heap}{mg:GY->Option Value}{fa:Gc}(X:K.In aR)(f:aR.Ns T6 mg)(d9:mg "law"=Ga (.ref fa))(x:Fx K)
  :∃fd:Tp,(∀(s:Gk)(G:Value),Fg s fd {[G],[]} [("_law_script",G)])/\∀base:Heap,K.In base->base.Ns T6 mg->Qu a.prog w K mg base Z5 66 fa fd ["_law_script"] (lW K):=by
 obtain@⟨CP,n,d,j,h,f0,f1,f2,f3,f4,f5,f6,f7,f8,f9,c6,c7,c8,c9,da,db,dd,de,df,dg,fG,fH,fI,dh,di,dj,dk,fJ,dl,dm,dn,dp,dq,dr,fK,fL,fM,fN,fO,fP,fQ,fR,fS,fT,fU,fV,fW,fX,gb,ga,gd,gc,aP,pP,dP,oP,sP,mP,cP,fq,fo,fp,aW,pW,dW,oW,sW,mW,cW,fv,fw,aN,pN,dN,oN,sN,mN,cN,fh,fi,fl,fn,fm,fk,fj,fg,aS,pS,dS,oS,sS,mS,cS,fu,fs,fr,ft,aB,pB,dB,oB,sB,mB,cB,fe,ff,fc,c2,c4,c3,cw,a0,h0,a1,i1,h1,a2,i2,h2,a3,i3,h3,a4,h4,a5,h5,a6,i6,h6,a7,i7,h7,a8,h8,a9,i9,h9,bK,ea,ds,bL,eb,dt,bM,ec,du,bN,ed,dv,bO,ee,dw,bP,ef,dx,bQ,eg,dy,bR,eh,dz,bS,ei,dA,bT,ej,dC,bU,dD,bV,dE,aG,dF,bW,ek,dG,bX,el,dH,bY,em,dI,bZ,en,dJ,ca,dK,cb,eo,dL,ce,ep,dM,cf,eq,dO,cg,er,dQ,ch,es,dR,ci,et,dT,aH,dU,cj,dV,ck,dX,cl,dY,cm,dZ,cn,d0,aI,d1,co,d2,cp,d3,cq,d4,cr,d5,cs,d6,cu,d7,cv,d8,ba,fC,fx,bb,be,fE,fy,fA,fB,bc,bd,fz,fF,fD⟩:=x;have k:=d9.symm.trans (Ev X f cv);cases k;have g:=λ{x:GY}{c5:Gc}(k:gh K x c5)=>Ev X f k;have y:=λ{x:GY}(k:gD K x)=>RI X f k;have TP:gX K mg CP:={⟨pP,dP,oP,sP⟩,fq,fo,fp,g aP};have u:jz K mg n:={⟨pW,dW,oW,sW⟩,fv,fw,g aW,{_,Ev X f c2,{_,Xb}},{_,Ev X f c4,{_,Xb}},{_,Ev X f c3,{_,Xb}}};have b:Um K mg d:={⟨pN,dN,oN,sN⟩,fh,fi,fl,fn,fm,fk,fj,fg,g aN};have TS:ju K j:={⟨pS,dS,oS,sS⟩,fu,fs,fr,ft};have i:iy K mg h:={⟨pB,dB,oB,sB⟩,fe,ff,fc,g aB,{_,Ev X f cw,{_,Xb}}};have e:gG mg:={y ba,y fC,y fx,y bb,y be,y fE,y fy,y fA,y fB,y bc,y bd};have c:Ii mg:={y ba,y bb,y be,y bc,y bd,y fz,y fF,y fD};obtain⟨_,H,k0⟩:=Zy h0;have b0:=H.b1 (p0:="thing") λ_ _ _ _ _ _ _=>rfl;obtain⟨_,I,k1⟩:=Zy h1;have b1:=I.b1 (p0:="self") λ_ _ _ _ _ _ _=>rfl;obtain⟨_,T,k2⟩:=Zy h2;have b2:=T.b2 (p0:="self") (p1:="thing") λ_ _ _ _ _ _ _ _=>rfl;have m2:Yc K CP "place_of" f2:=⟨a2,i2,k2⟩;obtain⟨_,F3,k3⟩:=Zy h3;have b3:=F3.b2 (p0:="self") (p1:="places") λ_ _ _ _ _ _ _ _=>rfl;obtain⟨_,F4,k4⟩:=Zy h4;have b4:=F4.b2 (p0:="met") (p1:="thing") λ_ _ _ _ _ _ _ _=>rfl;obtain⟨_,F5,k5⟩:=Zy h5;have b5:=F5.b2 (p0:="spare") (p1:="inner") λ_ _ _ _ _ _ _ _=>rfl;obtain⟨_,F6,k6⟩:=Zy h6;have b6:=F6.b4 (p0:="self") (p1:="thing") (p2:="near") (p3:="spare") λ_ _ _ _ _ _ _ _ _ _=>rfl;have m6:Yc K n "place_within" f6:=⟨a6,i6,k6⟩;obtain⟨_,F7,k7⟩:=Zy h7;have b7:=F7.b3 (p0:="self") (p1:="thing") (p2:="form") λ_ _ _ _ _ _ _ _ _=>rfl;have m7:Yc K CP "place_by_form" f7:=⟨a7,i7,k7⟩;obtain⟨_,F8,k8⟩:=Zy h8;have b8:=F8.b2 (p0:="forms") (p1:="told") λ_ _ _ _ _ _ _ _=>rfl;obtain⟨_,F9,k9⟩:=Zy h9;have b9:=F9.b2 (p0:="self") (p1:="forms") λ_ _ _ _ _ _ _ _=>rfl;obtain⟨_,J,eu⟩:=Zy ds;have aJ:=J.b2 (p0:="self") (p1:="place") λ_ _ _ _ _ _ _ _=>rfl;have aX:Yc K d "take_in" c6:=⟨bK,ea,eu⟩;obtain⟨_,o,ev⟩:=Zy dt;have v:=o.b2 (p0:="self") (p1:="place") λ_ _ _ _ _ _ _ _=>rfl;have C:Yc K d "key_of" c7:=⟨bL,eb,ev⟩;obtain⟨_,L,ew⟩:=Zy du;have z:=L.b3 (p0:="self") (p1:="one") (p2:="other") λ_ _ _ _ _ _ _ _ _=>rfl;have D:Yc K d "equal" c8:=⟨bM,ec,ew⟩;obtain⟨_,M,ex⟩:=Zy dv;have aK:=M.b4 (p0:="self") (p1:="one") (p2:="other") (p3:="reason") λ_ _ _ _ _ _ _ _ _ _=>rfl;have aY:Yc K d "merge" c9:=⟨bN,ed,ex⟩;obtain⟨_,N,ey⟩:=Zy dw;have cx:=N.b2 (p0:="self") (p1:="link") λ_ _ _ _ _ _ _ _=>rfl;have e1:Yc K d "merge_link" da:=⟨bO,ee,ey⟩;obtain⟨_,O,ez⟩:=Zy dx;have cy:=O.b3 (p0:="self") (p1:="low") (p2:="high") λ_ _ _ _ _ _ _ _ _=>rfl;have e2:Yc K d "hang" db:=⟨bP,ef,ez⟩;obtain⟨_,P,eA⟩:=Zy dy;have cz:=P.b3 (p0:="self") (p1:="gone") (p2:="kept") λ_ _ _ _ _ _ _ _ _=>rfl;have e3:Yc K d "give_over" dd:=⟨bQ,eg,eA⟩;obtain⟨_,Q,eB⟩:=Zy dz;have A:=Q.b3 (p0:="self") (p1:="one") (p2:="other") λ_ _ _ _ _ _ _ _ _=>rfl;have E:Yc K d "way" de:=⟨bR,eh,eB⟩;obtain⟨_,R,eC⟩:=Zy dA;have cA:=R.b2 (p0:="self") (p1:="place") λ_ _ _ _ _ _ _ _=>rfl;have e4:Yc K d "way_up" df:=⟨bS,ei,eC⟩;obtain⟨_,S,eD⟩:=Zy dC;have cC:=S.b1 (p0:="self") λ_ _ _ _ _ _ _=>rfl;have e5:Yc K d "rows" dg:=⟨bT,ej,eD⟩;obtain⟨_,U,eE⟩:=Zy dD;have cD:=U.b4 (p0:="things") (p1:="net") (p2:="one") (p3:="other") λ_ _ _ _ _ _ _ _ _ _=>rfl;obtain⟨_,V,eF⟩:=Zy dE;have cE:=V.b3 (p0:="net") (p1:="one") (p2:="other") λ_ _ _ _ _ _ _ _ _=>rfl;obtain⟨_,W,aT⟩:=Zy dF;have aL:=W.b2 (p0:="net") (p1:="link") λ_ _ _ _ _ _ _ _=>rfl;obtain⟨_,Y,fY⟩:=Zy dG;have cF:=Y.b3 (p0:="self") (p1:="things") (p2:="net") λ_ _ _ _ _ _ _ _ _=>rfl;obtain⟨_,Z,eG⟩:=Zy dH;have B:=Z.b4 (p0:="self") (p1:="one") (p2:="other") (p3:="reason") λ_ _ _ _ _ _ _ _ _ _=>rfl;have F:Yc K j "write" di:=⟨bX,el,eG⟩;obtain⟨_,aa,eH⟩:=Zy dI;have cG:=aa.b2 (p0:="self") (p1:="link") λ_ _ _ _ _ _ _ _=>rfl;have e6:Yc K j "write_link" dj:=⟨bY,em,eH⟩;obtain⟨_,p,eI⟩:=Zy dJ;have l:=p.b3 (p0:="self") (p1:="one") (p2:="other") λ_ _ _ _ _ _ _ _ _=>rfl;have m:Yc K j "line_for" dk:=⟨bZ,en,eI⟩;obtain⟨_,ab,eJ⟩:=Zy dK;have cH:=ab.b1 (p0:="deeds") λ_ _ _ _ _ _ _=>rfl;obtain⟨_,ac,fZ⟩:=Zy dL;have cI:=ac.b1 (p0:="self") λ_ _ _ _ _ _ _=>rfl;obtain⟨_,ad,eK⟩:=Zy dM;have cJ:=ad.b2 (p0:="self") (p1:="deed") λ_ _ _ _ _ _ _ _=>rfl;have e7:Yc K h "answer" dm:=⟨ce,ep,eK⟩;obtain⟨_,ae,eL⟩:=Zy dO;have cK:=ae.b2 (p0:="self") (p1:="moment") λ_ _ _ _ _ _ _ _=>rfl;have e8:Yc K h "go_back" dn:=⟨cf,eq,eL⟩;obtain⟨_,af,eM⟩:=Zy dQ;have cL:=af.b3 (p0:="self") (p1:="deed") (p2:="entry") λ_ _ _ _ _ _ _ _ _=>rfl;have e9:Yc K h "tell" dp:=⟨cg,er,eM⟩;obtain⟨_,ag,eN⟩:=Zy dR;have cM:=ag.b2 (p0:="self") (p1:="entry") λ_ _ _ _ _ _ _ _=>rfl;have fb:Yc K h "ask" dq:=⟨ch,es,eN⟩;obtain⟨_,ah,eO⟩:=Zy dT;have aM:=ah.b3 (p0:="self") (p1:="net") (p2:="entry") λ_ _ _ _ _ _ _ _ _=>rfl;have aZ:Yc K h "lines_for" dr:=⟨ci,et,eO⟩;obtain⟨_,ai,aU⟩:=Zy dU;have aO:=ai.b2 (p0:="net") (p1:="entries") λ_ _ _ _ _ _ _ _=>rfl;obtain⟨_,aj,eP⟩:=Zy dV;have cO:=aj.b1 (p0:="_law_cell") λ_ _ _ _ _ _ _=>rfl;obtain⟨_,ak,eQ⟩:=Zy dX;have cQ:=ak.b2 (p0:="_law_found") (p1:="_law_due") λ_ _ _ _ _ _ _ _=>rfl;obtain⟨_,al,eR⟩:=Zy dY;have cR:=al.b1 (p0:="_law_cells") λ_ _ _ _ _ _ _=>rfl;obtain⟨_,am,eS⟩:=Zy dZ;have cT:=am.b2 (p0:="_law_cells") (p1:="_law_things") λ_ _ _ _ _ _ _ _=>rfl;obtain⟨_,ao,eT⟩:=Zy d0;have cU:=ao.b1 (p0:="_law_cell") λ_ _ _ _ _ _ _=>rfl;obtain⟨_,ap,aV⟩:=Zy d1;have aQ:=ap.b2 (p0:="_law_told") (p1:="_law_things") λ_ _ _ _ _ _ _ _=>rfl;obtain⟨_,aq,eU⟩:=Zy d2;have cV:=aq.b3 (p0:="_law_told") (p1:="_law_one") (p2:="_law_other") λ_ _ _ _ _ _ _ _ _=>rfl;obtain⟨_,ar,eV⟩:=Zy d3;have cX:=ar.b2 (p0:="_law_told") (p1:="_law_deed") λ_ _ _ _ _ _ _ _=>rfl;obtain⟨_,au,eW⟩:=Zy d4;have cY:=au.b1 (p0:="_law_deeds") λ_ _ _ _ _ _ _=>rfl;obtain⟨_,av,eX⟩:=Zy d5;have cZ:=av.b2 (p0:="_law_script") (p1:="_law_k") λ_ _ _ _ _ _ _ _=>rfl;obtain⟨_,aw,eY⟩:=Zy d6;have c0:=aw.b1 (p0:="_law_found") λ_ _ _ _ _ _ _=>rfl;obtain⟨_,ax,eZ⟩:=Zy d7;have c1:=ax.b1 (p0:="_law_thing") λ_ _ _ _ _ _ _=>rfl;obtain⟨oc,od,an,sl,kV,dc,pm,cd,ct,ll,cc,e0⟩:=d8;have bf:=yR (st:=ie) ll cc e0;have MP:Mk K CP f1:=⟨mP,a1,i1,cP⟩;have MW:Mk K n f3:=⟨mW,a3,i3,cW⟩;have MN:Mk K d f9:=⟨mN,a9,i9,cN⟩;have MS:Mk K j dh:=⟨mS,bW,ek,cS⟩;have MB:Mk K h dl:=⟨mB,cb,eo,cB⟩;refine{Du "law" "law" (Vl ie) (X5 ie) (Qk ie) .none kV dc pm an cd ct,λs G=>.of_eq Xb,λbase _ _=>?_};have G0:=A6 (P:=a.prog) (w:=w) (mg:=mg) (base:=base) H c;have G7:=PN (P:=a.prog) (w:=w) (mg:=mg) (base:=base) F7 TP c;have G4:=P9 (P:=a.prog) (w:=w) (mg:=mg) (base:=base) F4 c;have G5:=Kv (P:=a.prog) (w:=w) (mg:=mg) (base:=base) F5;have G3:=OY (P:=a.prog) (w:=w) (mg:=mg) (base:=base) F3 u;have G6:=tF (P:=a.prog) (w:=w) (mg:=mg) (base:=base) F6 TP u c m6 b6 G0 k0 b0 (g a0) G4 k4 b4 (g a4) G5 k5 b5 (g a5) m7 G7 b7 50;have G2:=Cw T u MW G3 b3 m6 b6 G6;have G1:=QK (P:=a.prog) (w:=w) (mg:=mg) (base:=base) I TP;have q:=Kt (P:=a.prog) (w:=w) (mg:=mg) (base:=base) L b;have ay:=A5 (P:=a.prog) (w:=w) (mg:=mg) (base:=base) o b c;have bI:=QF (P:=a.prog) (w:=w) (mg:=mg) (base:=base) o b c;have bk:=CJ (P:=a.prog) (w:=w) (mg:=mg) (base:=base) R b;have bi:=Pv (P:=a.prog) (w:=w) (mg:=mg) (base:=base) O b;have bj:=Po P b C ay v;have bh:=C6 N b c e2 bi cy e3 bj cz;have az:=AY M b D q z e1 bh cx;have G9:=PV (P:=a.prog) (w:=w) (mg:=mg) (base:=base) F9 b;have bg:=yJ J b aX aJ C ay v 59;have G8:=BF F8 b c MN G9 b9 aX bg aJ aY az aK;have aE:=Hs ai b c D q z;have r:=HP Q b c e4 bk cA;have bl:=Am S b c C bI v;have aA:=OZ (P:=a.prog) (w:=w) (mg:=mg) (base:=base) W b c;have bn:=CI V b c E r A aA aT aL (g aG);have t:=Ah (P:=a.prog) (w:=w) (mg:=mg) (base:=base) (C:=d) Z TS c;have bJ:=tX (g:=Gq) (k:=2) (by decide) p TS b m l IE E r A F t B;have aC:=tX (g:=Gg) (k:=3) (by decide) p TS b m l bJ E r A F t B;have bp:=C2 aa TS m l aC aA aT aL (g aG) F t B;have bo:=IT (P:=a.prog) (w:=w) (mg:=mg) (base:=base) (C:=d) Y TS;have bm:=Pa U TS b (Ev X f aS) MS bo cF bn eF cE (g bV) m l aC e6 cG bp;have aD:=KJ ah i TP bm eE cD (g bU);have bv:=KP ag i TP b G8 k8 b8 (g a8) D q z e5 bl cC aY az aK aE aU aO (g aH) aZ aD aM;have bu:=JI af i TP c G8 k8 b8 (g a8) aE aU aO (g aH) aZ aD aM;have bt:=Ab (P:=a.prog) (w:=w) (mg:=mg) (base:=base) (CP:=CP) ae i c;have br:=I6 ac i TP MP G1 b1;have bs:=AV ad i TP e8 bt cK m2 G2 b2 fb bv cM e9 bu cL;have bq:=HD ab i MB br cI e7 bs cJ;have bw:=JV (P:=a.prog) (w:=w) (mg:=mg) (base:=base) aj e.abs;have bz:=BY al e bw eP cO (g cj);have bB:=KZ (P:=a.prog) (w:=w) (mg:=mg) (base:=base) ao;have bA:=HJ am e bB eT cU (g cn);have bx:=AC (P:=a.prog) (w:=w) (mg:=mg) (base:=base) ak e;have aF:=BB (P:=a.prog) (w:=w) (mg:=mg) (base:=base) ap e;have bC:=CY aq aF aV aQ (g aI);have bD:=HS ar aF aV aQ (g aI);have bE:=QA au e bD eV cX (g cp);have bF:=Cb (P:=a.prog) (w:=w) (mg:=mg) (base:=base) av e;have bG:=BM (P:=a.prog) (w:=w) (mg:=mg) (base:=base) aw e;have bH:=Kw (P:=a.prog) (w:=w) (mg:=mg) (base:=base) ax e;exact QZ (M:=65) bf e (by decide) (by decide) bz eR cR (g cl) bA eS cT (g cm) bE eW cY (g cq) bF eX cZ (g cr) bH eZ c1 (g cu) bC eU cV (g co) bq eJ cH (g ca) bG eY c0 (g cs) bx eQ cQ (g ck)
end
theorem JF{l:Lj}{q:Gi}{c:List GY}{m:(GY->Option Value)->Heap->Prop}{i:Gu->Heap->Prop}{d:Nf}{K:Ng->Gd}(o:l.most=Ga 63)(g:d.params.defaults=[])
  (n:∀(w:Gu)(h:Heap),i w h->(K w.params).In h)
  (F:∀(w:Gu)(e:GY->Option Value)(j:Gc)(h:Heap),(K w.params).In h->h.Ns T6 e->e d.name=Ga (.ref j)->
   ∃k:Tp,(∀(s:Gk)(u:Value),Fg s k {[u],[]} [("_law_script",u)])/\∀b:Heap,(K w.params).In b->b.Ns T6 e->Qu l.prog w (K w.params) e b Z5 66 j k ["_law_script"] (lW (K w.params))):
  MO q c m i l.row.toRowW d [] (λf b=>SY f b):=
 L2.KO (n:=63) (k:=66) (x:="_law_script") (CX:=λ_=>Z5) (sp:=λw=>lW (K w.params)) o (by decide) g {Xb,by decide,by decide} n F (λ_ _ a j e _ b=>{a,j,Xb,b,e,λ_=>rfl}) λ_ _ _ _ _ z=>z
end K07
theorem PySem.Challenge.cw_samebook_k07_whole_order_and_words_holds : PySem.Challenge.rw_samebook_k07_whole_order_and_words.Holds := by
  exact K07.head λ K g d c e b f => K07.JF (l := PySem.Challenge.rw_samebook_k07_whole_order_and_words) rfl e b λ w j i h KX G a => K07.Aa KX G (by rw [c] at a; exact a) (f w)
