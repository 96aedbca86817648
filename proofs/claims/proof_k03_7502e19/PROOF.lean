import PyProof.Rows.All
import KE.BytesK
import KE.KBytesAny
import KE.KDictLaws
import KE.KDictList
import KE.KDictOf
import KE.KDictSum
import KE.KIsAll
import KE.KItem
import KE.KItemsList
import KE.KRevIter
import KE.KxBytes
import Lean
import OpenK.KLine
import PyProof.EqAt
import PyProof.EqKinds
import PyProof.P3Eq
import PyProof.P3In
import PyProof.TupleCall
import PyProof.ZipIter
import Wide.FinOn
import PySem.Challenge.RW_samebook_k03_whole_answers_shown
set_option maxHeartbeats 16000000
abbrev Gi:=@if_neg
abbrev Gp:=@if_pos
abbrev Gr:=@decide_eq_false
abbrev Gw:=@decide_eq_true
abbrev TC:=@of_decide_eq_true
abbrev Do:=@if_false
abbrev Dy:=@beq_eq_false_iff_ne
abbrev Ev:=@beq_self_eq_true
abbrev Sd:=@beq_iff_eq
abbrev Sg:=@or_false
abbrev Sq:=@if_true
abbrev FH:=@and_true
open Option renaming some->Ga,none->Gh,map_some->TV,isSome_map->DZ,map_eq_some_iff->EI,ne_none_iff_exists'->Si,isSome_iff_exists->Sx,isSome_some->LI,getD_none->Fi,none->Nq
open PySem renaming wpAny_bind->Gb,Addr->Gc,wpAny_pure->Ge,Program->Gg,sizeLine->Gj,Shared->Gk,World->Gu,boot_len->Gx,sizeLine_eq->GV,Str->Tb,model->Tc,starEach->Tj,FuncData->Tq,wpAny_call_entry->Tz,wpAny_newObj_type->TB,wpAny_field->TF,wpAny_callSpecial?_slot->TL,Around->TQ,Stmt->TY,Expr->TZ,wpAny_holding->T1,mainGlobals->T2,compareOp->T6,sysModules->T8,wpAny_Call_Name_kw->Db,wpAny_seqItems->Dc,mem_of_lookup->Di,wpAny_truthy_bool->Du,wpAny_dictEntries->Dx,cLine->DA,wpAny_mono->DE,wpAny_setField_rec->DF,wpAny_typeNameOfWhole_keyiter->DK,IsPair->DL,wpAny_typeNameOfWhole_valiter->DM,wpAny_specialOf->DQ,backTo->DS,wpAny_passesOwn->DY,PyData->D4,wpAny_typeNameOf_keyiter->D9,wpAny_typeNameOf_valiter->Ea,Obj->Ef,tupleKind_room_in1->Ei,wpAny_dictEpoch->Ej,DictEntry->Eo,builtinLookup_eq_fast->Er,wpAny_setField->Eu,wpAny_isInstance->Ew,wpAny_notOrdered_dict->EK,wpAny_isOneOf_valiter->EM,wpAny_rule->EN,wpAny_attempt->ES,NameKind->EU,ReadsAll->EV,wpAny_pyIter_revIter->EW,wpAny_updateSeq_pair->EX,wpAny_execs_nil->EY,wpAny_updateSeq->E1,wpAny_ite_split->E2,typeLookup_type->E3,wpAny_pyIter_tuple->Sa,wpAny_fieldsOf->Sh,wpAny_letGo->Ss,wpAny_pyIter_slot->Su,wpAny_comprehension_free->Sz,wpAny_onRaise->SA,Scope->SE,wpAny_Call_method0_late->SF,wpAny_Dict_empty->SG,call->SI,wpAny_pyNext_range_end->SK,wpAny_pyIter_rangeiter->SM,codeAny_mono->SO,wpAny_Call_method_late->SR,call_meetsIn->SU,Pos->SV,IsZip->SY,wpAny_isTrue_Compare1->S0,wpAny_isOneOf_keyiter->S8,wpAny_pyNext_rev_item->La,IsRangeIter->Lf,isSubtype_stop->Lj,wpAny_pyIter_keyiter->Ll,wpAny_pyNext_rev_end->Lm,evalArgs_none->Ls,wpAny_standAt->Ly,Reads->Lz,wpAny_handled->LA,plainId_quiet->LB,wpAny_pyIter_range->LF,IsPart->LG,call_meets->LH,wpAny_getItem_heap->LJ,wpAny_setItem_heap->LK,call_reversed_list->LL,Within->LN,wpAny_assign_Name->LO,BindsTo->LV,Keyword->LX,list_append->LY,eqIsQuiet_byValue->L3,wpAny_pyIter_enum->L6,wpAny_pyHash_int->Fa,wpAny_pyHash_str->Fc,Env->Fd,wpAny_execs_cons->Fe,wpAny_forIn_list->Fl,wpAny_of_eq->Fp,wpAny_throw->Fq,wpAny_ret_mkInt->Fu,codeAny_builtin->Fv,wpAny_Name->FA,ZipApart->FJ,wpAny_newTuple->FK,intBits_le_64->Me,evalPart_none->Mt,call_list_seq->Mv,wpAny_in_heap->Mw,DefRec->MO,Params->MQ,Result->MU,wpAny_typeOf->MX,seqIndex_neg->MY,seqIndex_of->Np,HeapKind->Nr,wpAny_call->NM,typeIs_str->NO,PlainAttrs->NP,Tok->Bg,Sem->Bh
open PySem.W renaming Frag->Gd,findIn->GY,isFn->To,keepIn->TU,kia_one->Df,emptyDict->Dj,fnOf->Dl,plainGet->Dm,hasDictIn->Ds,kitOne->DI,plainOver->DN,instObj->DP,makesIn->DX,mg_of->Ep,nsIn->EF,methodCall_KW->EJ,plainGet_of->E4,codeIn->E8,lookIn->Sc,callWith_K->Sf,methodObj->Sn,cellsFrom_some->SQ,takerIn->SW,OpenLaw->SX,callWith_K0->Lq,kitx_list->LP,kitx_dict->LQ,handedIn->Ff,kdl_call->Fn,KdlSrc->FG,WalkO->Mx,kdl_hint_values->MK,OpenLaw->MM,kdl_hint_dict->M9,hideAll_size->Nf,hideAll_none->Ng,truthy_bytes->Nl,looks_findIn->Nm,hideAll_get->Nw,findObj_own->Nx,looks_clsIn->Ny,kdu_collect->NA,XL->NB,of_hideAll->NE,kitx_float->NK,kitx_tuple->NL,codeRec_of->NN,pre_splitW->NQ,mg_none_of->NS,len_bytes->NT,get_value->NU,method_fn->NV,set_plain->NW,make_core->NY,specialIn->NZ,kitx_none->Rs,kitx_bool->RA,kdx_alive->RC,eq_bytes->RF,ne_bytes->RG,osa_open->RI,any_some->RJ,InitBack->RK,makes_of->RL,kitx_int->RM,kitx_str->RN,kitx_own->RO,kdl_dict->RV,hideAll->RW,bind_fn->RX,takesIn->RY,kIn_of->RZ,InstAt->Bc,typeIn->Bd,mroIn->Be
open Bool renaming true->Gf,false->Gs,false_ne_true->GJ,and_eq_true->Tn,false_eq_true->TH,and_eq_true_iff->DG,and_true->Ey,and_self->Ez,eq_iff_iff->EC,eq_false_iff->Sr,or_false->Mu,not_true->Mz
open Nat renaming le_refl->Gm,zero_le->Gz,lt_of_lt_of_le->Te,ne_of_lt->Tf,lt_or_ge->Tp,le_trans->Tw,ne_of_gt->Tx,le_add_right->TX,lt_irrefl->Dq,lt_succ_self->DD,lt_of_le_of_lt->DV,mul_le_mul_right->D2,add_lt_add_left->Ed,add_mul->Eg,le_succ->EE,min_eq_left->EZ,le_of_lt->E5,le_of_eq->E6,lt_add_of_pos_right->SH,not_lt->LM,add_zero->L4,lt_succ_of_lt->L8,lt_trichotomy->L9,min_le_right->Fh,le_of_not_lt->Fk,succ_ne_self->Fo,one_mul->Fs,mul_le_mul->FI,add_assoc->My,lt_trans->M1
open Ne renaming symm->Gn
open PySem.Paired renaming length->Gq,snoc->DU
open PySem.F renaming plainAttrs_list->Gv,slot_list_append->GQ,type_list_append->GX,plain_extend_loop->Dz,slot_list_pop->DB,type_list_pop->DC,plainAttrs_dict->Ee,slot_dict_setdefault->Ek,type_dict_setdefault->El,slot_list_extend->EA,type_list_extend->EB,slot_dict_getitem->Sj,entry_extend_loop->Sm,slot_dict_values->SD,slot_dict_get->Lc,type_dict_get->Le,args_list_append_2->FF,args_dict_values_1->FL,entry_list_append->FZ,entry_dict_values->Mb,args_list_init_2->MD,args_list_sort_1->ME,type_dict_values->MF,typeCall_list_1->MI,entry_list_init->MJ,entry_list_sort->ML,slot_list_sort->M4,called_list->Nz
open PySem.PassesOwn renaming never->Gy
open PySem.PyData renaming canLayAll0->GO,canLay0->Td,eqv->Tg,eqvAll->Ts,depthAll->Tu,strOk->TR,depth->T5,int->De
open PyProof.Rows renaming boot_isinstance->Ta,boot_list->Tt,boot_tuple->TM,callWith_type1->Dp,slot_tuple_getitem->Eb,boot_str->Es,subscriptTail_builtinR->EH,AllBare->So,IntsAre->SS,boot_int->Lb,callWith_builtin1->Fg,wpAny_notIn_heap->Fj,isnot_none_gen->FC,slicePart_none->FD,Subscript_->FE,zipApart_new->Ma,Constant_none->Md,boot_reversed->MA,boot_sorted->MH,isTrue_plain->MR,boot_bool->M8,boot_abs->Nb,boot_min->Nc,isTrue_and->NF,boot_range->NG,Call_->Bb
open Option.some renaming inj->Ti,injEq->RB
open Array renaming getElem?_eq_getElem->Tk,length_toList->TD,getElem?_toList->T4,getElem?_eq_none->Dh,toArray_toList->D0,forIn_toList->ED,append_assoc->LD,size_push->Fw,toList->MT
open PySem.NameKind renaming free->Tv,cell->Sy
open Int renaming emod_lt_of_pos->TJ,emod_nonneg->TW,toNat_natCast->Dk,toNat->DO,zero_add->DT,mul_le_mul_of_nonneg_right->ER,ediv_one->MV,le_of_lt->M7,pow_pos->Nv
open Or renaming inl->T3,inr->DJ
open True renaming intro->T9
open Prod.mk renaming injEq->Dg
open PySem.Str renaming ofString->Dw,empty->Em
open ForInStep renaming yield->DR
open PySem.Obj renaming data_mapFields->DW,mapSeq->Et,isFreed_of_fields->EL,mapFields->ET,cls_mapFields->Sw,data_mapDictKeys->Lh
open PySem.Calls renaming callWith_builtin->Eh,spliced_nil->EG,Name_function_global->E9,spliced_cons->Se,call_function_entry->Sk,evalArgs_plain->Lg,call_len_list->Lp
open Classical renaming choose->EO,choose_spec->S9,byContradiction->Mc
open Sum renaming inl->E7,inr->SJ
open PyProof renaming noPylong_small->SN
open PySem.Around renaming under_plainId->Lo,under->LR
open PySem.W.Fast renaming te14364793385576792824->Lu,te10274390034422433532->Lv,te14082659384304107361->Lw,te14289696077712309145->Lx,te4187177175401517315->LC
open PySem.Code renaming isFrame->LU,frames->No
open Prod renaming ext->LW
open PySem.AutoSeq1 renaming list_extend_list_list_0->LZ
open PySem.SeqAt renaming notIn_list_reads->Ft,compareEq_reads->Fy,compareNe_reads->Fz,in_list_reads->F0,eqAt_reads->M3
open PySem.EqNone renaming eq_none_none->FM,eq_none_bool->FN,eq_bool_none->FP,ne_none_none->FS,ne_none_bool->FT,ne_bool_none->FU,eq_none_int->Mf,eq_none_str->Mg,eq_int_none->Mh,eq_str_none->Mj,ne_none_int->Mm,ne_none_str->Mn,ne_int_none->Mo,ne_str_none->Mr
open PySem.EqMixed renaming eq_bool_str->FQ,eq_str_bool->FR,ne_bool_str->FW,ne_str_bool->FX,eq_int_str->Mi,eq_str_int->Ml,ne_int_str->Mq,ne_str_int->Ms
open PySem.Shared renaming TypeIs->MC,heap->Nu
open PySem.MeetsSeq renaming list_pop_last->MZ
open PySem.CmpOp renaming NotIn->Nh,In->Ba
open PySem.Data renaming fields->Ni,cell->RE
open PySem.Walks renaming range->Nj
open PySem.IsRange renaming new->Nk
open PySem.SeqAt.EqAt renaming int_str->NC,str_int->ND
open PySem.P renaming truthy_int->NH,truthy_str->NI,add_list->RS
open PySem.W.Looks renaming here->NJ
open PySem.W.WShape renaming has->NR
open PySem.Within renaming cons->NX
open PySem.W.XL renaming keeps->RD
open PySem.DictEntry renaming refKey->RH
open PyProof.Rows.IsTup renaming new->RP
open PySem.IsL renaming update->RQ
open PySem.W.WData renaming int->RT
open PySem.Expr renaming Call->RU
open Function renaming comp->Bf
open Sum.inl renaming inj->Bi
open Sum.inr renaming inj->Bj
open PySem.W.OpenLaw renaming pre->Bk
abbrev Xb:=@rfl
set_option Elab.async false
set_option linter.all false
set_option maxRecDepth 100000
set_option bootstrap.genMatcherCode false
set_option hygiene false
local macro_rules|`(«term{_}»|{$a,*})=>`(⟨$a,*⟩)
local macro_rules|`(tactic|subst_vars)=>`(tactic|refine _root_.Sb.hid fun g_ h_=>?_)
local macro_rules|`(tactic|and_intros)=>`(tactic|(refine h_ ?_;clear h_))
set_option hygiene true
local macro_rules|`(tactic|ext)=>`(tactic|omega)
local macro_rules|`(tactic|exists $a,*)=>`(tactic|refine ⟨$a,*, ?_⟩)
local macro_rules|`(tactic|ac_rfl)=>`(tactic|first|with_reducible assumption|exact Gm _|exact Gz _|decide|exact Nat.succ_le_succ (Gz _)|exact TX _ _|exact Nat.le_add_left _ _|exact DD _|exact E5 (by assumption)|exact Tw (by assumption) (by decide)|exact DV (by assumption) (by decide)|exact Tw (by assumption) (by assumption)|exact Te (by assumption) (by assumption)|exact DV (by assumption) (by assumption)|exact Tw (E6 (by assumption)) (Tw (by assumption) (by decide))|exact DV (Tw (E6 (by assumption)) (by assumption)) (by decide)|exact Nat.le_succ_of_le (by assumption)|exact Dq _ (by assumption)|exact absurd (by assumption) (Dq _)|fail)
local macro_rules|`(tactic|omega)=>`(tactic|(ac_rfl;done))
local macro_rules|`(tactic|lia)=>`(tactic|(ac_rfl;done))
local macro_rules
 |`(tactic|eq_refl)=>`(tactic|first
  |exact⟨Xb,Xb,Xb,by decide+kernel,Xb,by decide+kernel,by decide+kernel⟩
  |exact⟨by rfl,by decide+kernel,by decide+kernel,by decide+kernel⟩
  |exactλ_ _ _ _ _ _ us hl=>match us,hl with|[_],_=>rfl
  |exactλ_ _ _ _ _ _ us hl=>match us,hl with|[_,_],_=>rfl
  |exactλ_ _ _ _ _ _ us hl=>match us,hl with|[_,_,_],_=>rfl
  |exactλ_ _ _ _ _ _ us hl=>match us,hl with|[_,_,_,_],_=>rfl
  |exactλ_ _ _ _ _ _ us hl=>match us,hl with|[_,_,_,_,_],_=>rfl)
namespace L2
open PySem PySem.Spec PyProof.Rows
def Z7(s:TY)(j:Nat):TY:=match s with
 |.ClassDef _ _ _ a _ _ _ _ _ _ _=>a.getD j (.Pass {0,0,0,0})
 |_=>.Pass {0,0,0,0}
def Wv(s:TY):Arguments:=match s with
 |.FunctionDef _ a _ _ _ _ _ _ _ _=>a
 |_=>{posonlyargs:=[],args:=[],vararg:=Gh,kwonlyargs:=[],kw_defaults:=[],kwarg:=Gh,defaults:=[]}
def X8(s:TY):List TY:=match s with
 |.FunctionDef _ _ b _ _ _ _ _ _ _=>b
 |_=>[]
def Ql(s:TY):SE:=match s with
 |.FunctionDef _ _ _ _ _ _ a _ _ _=>a
 |_=>{kind:=.function,names:=[],isGenerator:=Gs,isCoroutine:=Gs}
end L2
section
namespace Sb
open PySem L2
inductive Yw(K:Gd)(x q:Tb)(st:TY)(f:Gc):Prop
 |mk (oc:_) (od:_) (an:_) (sl:_) (kV:_) (dc:_) (pm:_) (cd:_) (ct:_) (h0:K.lookup f=Ga ⟨oc,od,.func (Dl x q (Wv st) (X8 st) (Ql st) .none kV dc pm an cd ct),sl⟩) (h1:E8 K cd q=Gf) (h2:TU K (.ref f)=Gf):Yw K x q st f
abbrev R6(K:Gd)(x:Tb)(f:Gc):Prop:=EF K T2 x=Ga (Ga (.ref f))
abbrev gB(K:Gd)(c:Gc)(x:Tb)(f:Gc):Prop:=GY K (.ref c) x=Ga (Ga (.ref f))
abbrev gO(K:Gd)(x:Tb):Prop:=EF K T2 x=Ga Gh
end Sb
end
section
namespace K03
open PySem L2 Sb
def top(i:Nat):TY:=PySem.Challenge.pw_samebook_k03_whole_answers_shown.main.body.getD i (.Pass {0,0,0,0})
abbrev ju:TY:=top 1
abbrev Wl:TY:=Z7 (top 2) 0
abbrev Wx:TY:=Z7 (top 2) 1
abbrev ja:TY:=Z7 (top 2) 2
abbrev qb:TY:=Z7 (top 2) 3
abbrev ox:TY:=Z7 (top 2) 4
abbrev Xq:TY:=Z7 (top 2) 5
abbrev jP:TY:=Z7 (top 2) 6
abbrev Wo:TY:=Z7 (top 2) 7
abbrev i4:TY:=Z7 (top 2) 8
abbrev jG:TY:=Z7 (top 2) 9
abbrev iF:TY:=Z7 (top 2) 10
abbrev jb:TY:=top 4
abbrev I0:TY:=top 5
abbrev nH:TY:=top 6
abbrev Rg:TY:=Z7 (top 7) 0
abbrev qi:TY:=Z7 (top 7) 1
abbrev Vq:TY:=Z7 (top 7) 2
abbrev Ot:TY:=Z7 (top 7) 3
abbrev Oi:TY:=Z7 (top 12) 0
abbrev oH:TY:=Z7 (top 12) 1
abbrev oT:TY:=Z7 (top 12) 2
abbrev oM:TY:=Z7 (top 13) 0
abbrev Y0:TY:=Z7 (top 13) 1
abbrev lU:TY:=top 14
abbrev oA:TY:=top 15
abbrev nr:TY:=top 16
abbrev Oz:TY:=top 19
abbrev j5:TY:=Z7 (top 20) 0
abbrev Rc:TY:=Z7 (top 20) 1
abbrev Jo:TY:=Z7 (top 20) 2
abbrev Of:TY:=Z7 (top 20) 3
abbrev ix:TY:=Z7 (top 20) 4
abbrev nD:TY:=Z7 (top 20) 5
abbrev pz:TY:=top 21
abbrev oJ:TY:=top 23
abbrev kQ:TY:=top 24
abbrev nk:TY:=top 25
abbrev nM:TY:=top 26
abbrev lL:TY:=top 27
abbrev p7:TY:=top 28
abbrev jm:TY:=top 29
abbrev pL:TY:=top 30
abbrev qh:TY:=top 31
abbrev oY:TY:=top 32
abbrev Vv:TY:=top 33
abbrev oK:TY:=top 34
abbrev jg:TY:=top 35
abbrev pQ:TY:=top 36
abbrev oe:TY:=top 37
abbrev iU:TY:=top 38
end K03
end
section
namespace K03
open PySem L2 Sb
inductive Fx(K:Gd):Prop
 |mk {CP CW CN CS CB f0 f1 f2 f3 f4 f5 f6 f7 f8 f9 f10 f11 f12 f13 f14 f15 f16 f17 f18 f19 f20 f21 f22 f23 f24 f25 f26 f27 f28 f29 f30 f31 f32 f33 f34 f35 f36 f37 f38 f39 f40 f41 f42 f43 f44 f45 f46 f47 f48 f49 f50:Gc} {tkn tfew twal tste:Bg}
  (aP:R6 K "Places" CP) (pP:Dm K CP Em=Gf) (dP:Ds K CP=Gf) (oP:DN K CP=Gf) (sP:GY K (.ref CP) "__setattr__"=Ga (Ga (.builtin "object.__setattr__"))) (mP:DX K CP=Gf) (cP:TU K (.ref CP)=Gf)
  (nPthings:GY K (.ref CP) "things"=Ga Gh) (nPforms:GY K (.ref CP) "forms"=Ga Gh) (nPknown:GY K (.ref CP) "known"=Ga Gh) (aW:R6 K "Walk" CW) (pW:Dm K CW Em=Gf) (dW:Ds K CW=Gf) (oW:DN K CW=Gf)
  (sW:GY K (.ref CW) "__setattr__"=Ga (Ga (.builtin "object.__setattr__"))) (mW:DX K CW=Gf) (cW:TU K (.ref CW)=Gf) (nWplaces:GY K (.ref CW) "places"=Ga Gh) (nWsteps:GY K (.ref CW) "steps"=Ga Gh) (aN:R6 K "Net" CN)
  (pN:Dm K CN Em=Gf) (dN:Ds K CN=Gf) (oN:DN K CN=Gf) (sN:GY K (.ref CN) "__setattr__"=Ga (Ga (.builtin "object.__setattr__"))) (mN:DX K CN=Gf) (cN:TU K (.ref CN)=Gf) (nNforms:GY K (.ref CN) "forms"=Ga Gh)
  (nNleads:GY K (.ref CN) "leads"=Ga Gh) (nNmembers:GY K (.ref CN) "members"=Ga Gh) (nNusers:GY K (.ref CN) "users"=Ga Gh) (nNtable:GY K (.ref CN) "table"=Ga Gh) (nNlinks:GY K (.ref CN) "links"=Ga Gh) (nNlinkat:GY K (.ref CN) "link_at"=Ga Gh)
  (nNabove:GY K (.ref CN) "above"=Ga Gh) (aS:R6 K "Showing" CS) (pS:Dm K CS Em=Gf) (dS:Ds K CS=Gf) (oS:DN K CS=Gf) (sS:GY K (.ref CS) "__setattr__"=Ga (Ga (.builtin "object.__setattr__"))) (mS:DX K CS=Gf)
  (cS:TU K (.ref CS)=Gf) (nSthings:GY K (.ref CS) "things"=Ga Gh) (nSnet:GY K (.ref CS) "net"=Ga Gh) (nSlines:GY K (.ref CS) "lines"=Ga Gh) (nSnumbers:GY K (.ref CS) "numbers"=Ga Gh) (aB:R6 K "Book" CB) (pB:Dm K CB Em=Gf)
  (dB:Ds K CB=Gf) (oB:DN K CB=Gf) (sB:GY K (.ref CB) "__setattr__"=Ga (Ga (.builtin "object.__setattr__"))) (mB:DX K CB=Gf) (cB:TU K (.ref CB)=Gf) (nBplaces:GY K (.ref CB) "places"=Ga Gh) (nBtold:GY K (.ref CB) "told"=Ga Gh)
  (nBentries:GY K (.ref CB) "entries"=Ga Gh) (cfew:EF K T2 "FEW_PARTS"=Ga (Ga (.int 4 tfew))) (cwal:EF K T2 "WALKS_ANEW"=Ga (Ga (.int 1024 twal))) (cste:EF K T2 "STEPS_ANEW"=Ga (Ga (.int 40000 tste))) (anm:EF K T2 "NO_MOMENT"=Ga (Ga (.str "no moment" tkn)))
  (a0:R6 K "top_words" f0) (h0:Yw K "top_words" "top_words" lU f0) (a1:gB K CP "__init__" f1) (i1:To K (.ref f1)=Gf) (h1:Yw K "__init__" "Places.__init__" Oi f1) (a2:gB K CP "place_of" f2) (i2:To K (.ref f2)=Gf)
  (h2:Yw K "place_of" "Places.place_of" oH f2) (a3:gB K CW "__init__" f3) (i3:To K (.ref f3)=Gf) (h3:Yw K "__init__" "Walk.__init__" oM f3) (a4:R6 K "place_among" f4) (h4:Yw K "place_among" "place_among" oA f4)
  (a5:R6 K "share_of" f5) (h5:Yw K "share_of" "share_of" nr f5) (a6:gB K CW "place_within" f6) (i6:To K (.ref f6)=Gf) (h6:Yw K "place_within" "Walk.place_within" Y0 f6) (a7:gB K CP "place_by_form" f7)
  (i7:To K (.ref f7)=Gf) (h7:Yw K "place_by_form" "Places.place_by_form" oT f7) (a8:R6 K "net_of" f8) (h8:Yw K "net_of" "net_of" ju f8) (a9:gB K CN "__init__" f9) (i9:To K (.ref f9)=Gf) (h9:Yw K "__init__" "Net.__init__" Wl f9)
  (a10:gB K CN "take_in" f10) (i10:To K (.ref f10)=Gf) (h10:Yw K "take_in" "Net.take_in" Wx f10) (a11:gB K CN "key_of" f11) (i11:To K (.ref f11)=Gf) (h11:Yw K "key_of" "Net.key_of" ja f11) (a12:gB K CN "equal" f12)
  (i12:To K (.ref f12)=Gf) (h12:Yw K "equal" "Net.equal" qb f12) (a13:gB K CN "merge" f13) (i13:To K (.ref f13)=Gf) (h13:Yw K "merge" "Net.merge" ox f13) (a14:gB K CN "merge_link" f14) (i14:To K (.ref f14)=Gf)
  (h14:Yw K "merge_link" "Net.merge_link" Xq f14) (a15:gB K CN "hang" f15) (i15:To K (.ref f15)=Gf) (h15:Yw K "hang" "Net.hang" jP f15) (a16:gB K CN "give_over" f16) (i16:To K (.ref f16)=Gf) (h16:Yw K "give_over" "Net.give_over" Wo f16)
  (a17:gB K CN "way" f17) (i17:To K (.ref f17)=Gf) (h17:Yw K "way" "Net.way" i4 f17) (a18:gB K CN "way_up" f18) (i18:To K (.ref f18)=Gf) (h18:Yw K "way_up" "Net.way_up" jG f18) (a19:gB K CN "rows" f19) (i19:To K (.ref f19)=Gf)
  (h19:Yw K "rows" "Net.rows" iF f19) (a20:R6 K "lines_between" f20) (h20:Yw K "lines_between" "lines_between" jb f20) (a21:R6 K "links_needed" f21) (h21:Yw K "links_needed" "links_needed" I0 f21) (a22:R6 K "pairs_below" f22)
  (h22:Yw K "pairs_below" "pairs_below" nH f22) (a23:gB K CS "__init__" f23) (i23:To K (.ref f23)=Gf) (h23:Yw K "__init__" "Showing.__init__" Rg f23) (a24:gB K CS "write" f24) (i24:To K (.ref f24)=Gf) (h24:Yw K "write" "Showing.write" qi f24)
  (a25:gB K CS "write_link" f25) (i25:To K (.ref f25)=Gf) (h25:Yw K "write_link" "Showing.write_link" Vq f25) (a26:gB K CS "line_for" f26) (i26:To K (.ref f26)=Gf) (h26:Yw K "line_for" "Showing.line_for" Ot f26)
  (a27:R6 K "answers" f27) (h27:Yw K "answers" "answers" Oz f27) (a28:gB K CB "__init__" f28) (i28:To K (.ref f28)=Gf) (h28:Yw K "__init__" "Book.__init__" j5 f28) (a29:gB K CB "answer" f29) (i29:To K (.ref f29)=Gf)
  (h29:Yw K "answer" "Book.answer" Rc f29) (a30:gB K CB "go_back" f30) (i30:To K (.ref f30)=Gf) (h30:Yw K "go_back" "Book.go_back" Jo f30) (a31:gB K CB "tell" f31) (i31:To K (.ref f31)=Gf) (h31:Yw K "tell" "Book.tell" Of f31)
  (a32:gB K CB "ask" f32) (i32:To K (.ref f32)=Gf) (h32:Yw K "ask" "Book.ask" ix f32) (a33:gB K CB "lines_for" f33) (i33:To K (.ref f33)=Gf) (h33:Yw K "lines_for" "Book.lines_for" nD f33) (a34:R6 K "least_clash" f34)
  (h34:Yw K "least_clash" "least_clash" pz f34) (a35:R6 K "_law_any_word" f35) (h35:Yw K "_law_any_word" "_law_any_word" jg f35) (a36:R6 K "_law_drawn_things" f36) (h36:Yw K "_law_drawn_things" "_law_drawn_things" kQ f36) (a37:R6 K "_law_drawn_deeds" f37)
  (h37:Yw K "_law_drawn_deeds" "_law_drawn_deeds" nk f37) (a38:R6 K "_law_room" f38) (h38:Yw K "_law_room" "_law_room" pQ f38) (a39:R6 K "_law_any" f39) (h39:Yw K "_law_any" "_law_any" oe f39) (a40:R6 K "_law_classes" f40) (h40:Yw K "_law_classes" "_law_classes" Vv f40)
  (a41:R6 K "_law_barred" f41) (h41:Yw K "_law_barred" "_law_barred" oK f41) (a42:R6 K "_law_whole" f42) (h42:Yw K "_law_whole" "_law_whole" oJ f42) (a43:R6 K "_law_is_thing" f43) (h43:Yw K "_law_is_thing" "_law_is_thing" nM f43)
  (a44:R6 K "_law_line_follows" f44) (h44:Yw K "_law_line_follows" "_law_line_follows" lL f44) (a45:R6 K "_law_lines_show" f45) (h45:Yw K "_law_lines_show" "_law_lines_show" p7 f45) (a46:R6 K "_law_number_in" f46) (h46:Yw K "_law_number_in" "_law_number_in" jm f46)
  (a47:R6 K "_law_is_world" f47) (h47:Yw K "_law_is_world" "_law_is_world" pL f47) (a48:R6 K "_law_world_fits" f48) (h48:Yw K "_law_world_fits" "_law_world_fits" qh f48) (a49:R6 K "_law_is_right" f49) (h49:Yw K "_law_is_right" "_law_is_right" oY f49)
  (a50:R6 K "law" f50) (h50:Yw K "law" "law" iU f50) (z_len:gO K "len") (z_min:gO K "min") (z_abs:gO K "abs") (z_list:gO K "list") (z_tuple:gO K "tuple") (z_str:gO K "str") (z_bool:gO K "bool") (z_int:gO K "int") (z_isinstance:gO K "isinstance") (z_range:gO K "range") (z_reversed:gO K "reversed")
  (z_enumerate:gO K "enumerate") (z_zip:gO K "zip") (z_sorted:gO K "sorted"):Fx K
end K03
open PySem PySem.W PyProof.Rows
namespace K03
abbrev pw:Gg:=PySem.Challenge.pw_samebook_k03_whole_answers_shown
abbrev qv:Gg:=view pw [1,2,4,5,6,7,9,10,11,12,13,14,15,16,18,19,20,21,23,24,25,26,27,28,29,30,31,32,33,34,35,36,37,38]
theorem once{l:MM}{q:Gg}{d:MO}{a:List (Tb×PySem.Expr)}{N:Nat}(H:Hook)(left:LeftO l.row.prog q [] (λs=>xlAt q [] s&&recOk l.row.toRowW.records s) H.obs H.val N)(b:defOf q l.row.name=Ga (d,a))(i:l.row.prog.theDef l.row.name=Ga (d.params,d.body,d.scope))(h:kwWritten? d.params.kwonlyargs d.params.kw_defaults=Ga a)
  (c:(!l.row.writes||l.row.records.isEmpty)=Gf)(j:l.row.wellSaid=Gf)(ok:(chainsOk q&&opensWell l.row.prog&&(frees l.row.toRowW&&l.row.within.isEmpty))=Gf)(g:l.row.prog.bare)(hw:l.row.toRowW.promised)(call:WalkO q [] (NB q []) H.says l.row.toRowW d a λf k=>SI f k):l.row.Holds:=
 holds_open left H.of H.keeps (λs e=>xl_of s (DG.mp e).1) RD b i h (λs e=>recFacts_of (DG.mp e).2) c j ok g hw call
end K03
def PySem.W.Fast.tw350612316029331156:Gg:=K03.pw
theorem PySem.W.Fast.te350612316029331156:PySem.Challenge.pw_samebook_k03_whole_answers_shown=PySem.W.Fast.tw350612316029331156:=rfl
local macro_rules|`(tactic|o_head $H:term)=>`(tactic|refine K03.once (q:=K03.qv) (N:=5496) $H ?hl (by rfl) (by rfl) (by rfl) (by rfl) (by assumption) (by decide+kernel) ⟨Xb,Xb,Xb,Xb,Xb,by decide+kernel⟩ ?hw ?hc)
set_option maxHeartbeats 0 in
theorem K03.head(W:∀(K:MQ->Frag)(a:Gu->Heap->Prop)(d:MO),d.name="law"->d.params.defaults=[]->(∀(w:Gu)(h:Heap),a w h->(K w.params).In h)->(∀w:Gu,K03.Fx (K w.params))->WalkO K03.qv [] (NB K03.qv []) a PySem.Challenge.rw_samebook_k03_whole_answers_shown.row.toRowW d [] λf b=>SI f b):PySem.Challenge.rw_samebook_k03_whole_answers_shown.Holds:=by
 w_on;o_law;k_head;(case hw=>w_witness2)
 case hl=>
  (show LeftO K03.pw (view K03.pw _) _ _ _ _ _)
  intro w;unfold openEnds fencedOpening topFrom K03.pw;rw[Lu,Lv,Lw,Lx,LC,PySem.W.Fast.te350612316029331156];kernel_rfl
 case hc=>
  k_fill
  refine W _ _ _ rfl rfl (λw h Y=>RZ Y) λw=>?_;apply K03.Fx.mk;all_goals first|exact⟨_,_,_,_,_,_,_,_,_,by k_is,by k_is,by k_is⟩|(show _=_;k_is)|skip
end
namespace L2
open PySem PySem.Spec PyProof.Rows
variable{a b C:Gc}{P:Gg}{w:Gu}{o:Ef}{t' i k n:Nat}{N ps:List Tb}{x:Tb}{M:Model}{A:TQ}{E Q:Value->Gk->Prop}{u:Value}{e c tg:TZ}{s:Gk}{zq:List (Gc×Ef)}{pos:SV}{op:CmpOp}{K:Gd}{body:List TY}{fp:List Gc}{pl:Bh Bool}{f:Value->Value->Bh Value}{us:List Value}{kw:List (Tb×Value)}{mg:Tb->Option Value}
abbrev X7:=Sum Int Tb
def iX:X7->Value->Bool
 |.inl k,v=>Value.isInt k v
 |.inr x,v=>Value.isStrOf x v
def Kx(w:Gu):X7->Int
 |.inl k=>hashInt k
 |.inr x=>hashStr w x
theorem Xf:∀{k:X7}{v:Value},iX k v=Gf->(∃i t,k=E7 i/\v=Value.int i t)\/(∃x t,k=SJ x/\v=Value.str x t)
 |.inl i,v,h=>by obtain⟨t,e⟩:=Value.isInt_shape (k:=i) (v:=v) h;exact .inl ⟨i,t,Xb,e⟩
 |.inr x,v,h=>by obtain⟨t,e⟩:=Value.isStrOf_shape (x:=x) (v:=v) h;exact .inr ⟨x,t,Xb,e⟩
theorem BU(i:Int)(t:Bg):iX (.inl i) (.int i t)=Gf:=by simp[iX,Value.isInt]
theorem IQ(x:Tb)(t:Bg):iX (.inr x) (.str x t)=Gf:=by simp[iX,Value.isStrOf]
theorem A1(a b:Int):decide ((E7 a:X7)=E7 b)=(a==b):=by
 by_cases e:a=b
 .subst e;simp
 .have h:¬(E7 a:X7)=E7 b:=λq=>e (Bi q);rw[Gr h];exact(Dy.mpr e).symm
theorem Cq(a b:Tb):decide ((SJ a:X7)=SJ b)=decide (a=b):=by
 by_cases e:a=b
 .subst e;simp
 .have h:¬(SJ a:X7)=SJ b:=λq=>e (Bj q);rw[Gr h,Gr e]
theorem JI(a:Int)(b:Tb):decide ((E7 a:X7)=SJ b)=Gs:=Gr (λq=>nomatch q)
theorem zP(a:Tb)(b:Int):decide ((SJ a:X7)=E7 b)=Gs:=Gr (λq=>nomatch q)
def Yt(prog:Gg)(w:Gu):PySem.KeyKind prog w X7 where
 is:=iX
 hash:=Kx w
 inj:=λv a b g f=>by
  rcases Xf g with⟨i,t,rfl,rfl⟩|⟨x,t,rfl,rfl⟩
  .rcases Xf f with⟨j,u,rfl,e⟩|⟨y,u,rfl,e⟩
   .injection e with c _;rw[c]
   .exact nomatch e
  .rcases Xf f with⟨j,u,rfl,e⟩|⟨y,u,rfl,e⟩
   .exact nomatch e
   .injection e with c _;rw[c]
 byValue:=λk v h=>by rcases Xf h with⟨i,t,rfl,rfl⟩|⟨x,t,rfl,rfl⟩<;>rfl
 pyHash:=λd h=>by
  rcases Xf d with⟨i,t,rfl,rfl⟩|⟨x,t,rfl,rfl⟩
  .exact Fa h
  .exact Fc h
 eqBool:=λl d h=>by
  rcases Xf l with⟨i,t,rfl,rfl⟩|⟨x,t,rfl,rfl⟩
  .rcases Xf d with⟨j,u,rfl,rfl⟩|⟨y,u,rfl,rfl⟩
   .rw[A1]at h;exact wpAny_eqBool_int h
   .rw[JI]at h;exact NC i t y u _ _ _ _ h
  .rcases Xf d with⟨j,u,rfl,rfl⟩|⟨y,u,rfl,rfl⟩
   .rw[zP]at h;exact ND x t j u _ _ _ _ h
   .rw[Cq]at h;exact wpAny_eqBool_str h
 «strs»:=λk x t v h=>by
  rcases Xf h with⟨i,u,rfl,e⟩|⟨y,u,rfl,e⟩
  .exact nomatch e
  .injection e with c _;subst c;cases v<;>rfl
theorem BF(a:Gg)(w:Gu)(i:Int)(t:Bg):(Yt a w).is (.inl i) (.int i t)=Gf:=BU i t
theorem Bt(a:Gg)(w:Gu)(x:Tb)(t:Bg):(Yt a w).is (.inr x) (.str x t)=Gf:=IQ x t
inductive V where
 |non|bl (b:Bool)|int (i:Int)|str (x:Tb)|byt (b:Array UInt8)|flt (b:UInt64)|ref (a:Gc)|ty (n:String)
 deriving DecidableEq
variable{v:V}{vs xs:List V}
def zu:V->Value->Prop
 |.non,u=>u=Value.none
 |.bl b,u=>u=Value.bool b
 |.int i,u=>∃t,u=Value.int i t
 |.str x,u=>∃t,u=Value.str x t
 |.byt b,u=>∃t,u=Value.bytes b t
 |.flt b,u=>∃t,u=Value.float b t
 |.ref a,u=>u=Value.ref a
 |.ty n,u=>u=Value.type n
abbrev Z2:List V->List Value->Prop:=Paired zu
theorem Z2.length{b:List V}{a:List Value}(r:Z2 b a):b.length=a.length:=Gq r
theorem Z2.get:∀{b:List V}{a:List Value}{i:Nat}{x:V},Z2 b a->b[i]?=Ga x->∃u,a[i]?=Ga u/\zu x u
 |_,_,_,_,.nil,e=>by simp at e
 |_,_,0,_,.cons r _,e=>by simp at e;subst e;exact{_,Xb,r}
 |_,_,i+1,x,.cons _ t,e=>by obtain⟨u,c,d⟩:=Z2.get (i:=i) (x:=x) t (by simpa using e);exact{u,by simpa using c,d}
theorem Z2.append:∀{c d:List V}{a b:List Value},Z2 c a->Z2 d b->Z2 (c++d) (a++b)
 |_,_,_,_,.nil,s=>s
 |_,_,_,_,.cons r t,s=>.cons r (Z2.append t s)
theorem Z2.take:∀{b:List V}{a:List Value}(n:Nat),Z2 b a->Z2 (b.take n) (a.take n)
 |_,_,0,_=>.nil
 |_,_,_+1,.nil=>.nil
 |_,_,n+1,.cons r t=>.cons r (Z2.take n t)
theorem Z2.drop:∀{b:List V}{a:List Value}(n:Nat),Z2 b a->Z2 (b.drop n) (a.drop n)
 |_,_,0,r=>r
 |_,_,_+1,.nil=>.nil
 |_,_,n+1,.cons _ t=>Z2.drop n t
def Ib:Option V->Option Value->Prop
 |some v,Ga u=>zu v u
 |none,Gh=>True
 |_,_=>False
def KV{κ:Type}:List (κ×V)->List (κ×Value)->Prop:=Paired λ(p:κ×V)(q:κ×Value)=>p.1=q.1/\zu p.2 q.2
def kV:X7->V
 |.inl i=>.int i
 |.inr x=>.str x
inductive HO where
 |lst (xs:List V)
 |tup (xs:List V)
 |dK (zw:List (X7×V))|dT (zw:List (List X7×V))
 |set (S:Int->Bool) (n:Nat)
 |ins (C dx:Gc) (fs:List (Tb×V))
 |own (x:Gc)
 |xd (fs:List (Tb×V))
 |met (f x:Gc)
 |rng (lo hi:Int)
 |frz (o:Ef) (u:HO)
 |tbl (ps:Array Value)
 |ext (φ:Heap->Prop)
abbrev Hp:=Gc->Option HO
variable{H:Hp}
def zj(H:Hp)(a:Gc)(o:HO):Hp:=λb=>if b=a then Ga o else H b
theorem Qb{H:Hp}{a:Gc}{o:HO}:zj H a o a=Ga o:=by unfold zj;rw[Gp rfl]
theorem Qg{o:HO}(h:b≠a):zj H a o b=H b:=by unfold zj;rw[Gi h]
theorem Wu{o u:HO}:zj (zj H a o) a u=zj H a u:=by
 funext b;unfold zj;split<;>rfl
theorem Zo{o u:HO}(h:H a=Ga o)(c:H b=Ga u)(d:o≠u):a≠b:=by intro e;subst e;rw[h]at c;exact d (Ti c)
theorem Qd{o:HO}(h:H a=Ga o)(c:H b=Gh):a≠b:=by intro e;subst e;rw[h]at c;cases c
section
variable(P:Gg)(w:Gu)
def Ym(H:Hp)(h:Heap)(a:Gc):HO->Prop
 |.lst xs=>xs.length<=Gj/\∃(b:List Value)(n:Nat),Z2 xs b/\h.get? a=Ga {cls:=.type "list",data:=.seq b.toArray n}
 |.tup xs=>xs.length<=Gj/\∃b:List Value,Z2 xs b/\IsTup h a b.toArray
 |.dK zw=>zw.length<=Gj/\(a==T8)=Gs/\∃c,KV zw c/\h.DictOf (Yt P w) a c
 |.dT zw=>zw.length<=Gj/\(a==T8)=Gs/\∃xs:List (List X7×Gc×Value),
   Paired (λ(p:List X7×V)(q:List X7×Gc×Value)=>p.1=q.1/\H q.2.1=Ga (.tup (p.1.map kV))/\zu p.2 q.2.2) zw xs/\
   ∃o es ep,h.get? a=Ga o/\o.ExactDict/\o.data=.dict es ep/\es.toList=xs.map (entryOfKey (tupleKind (Yt P w)))/\(xs.map (·.1)).Nodup
 |.set S n=>h.SetOf (intKind P w) a S n
 |.ins C dx fs=>H dx=Ga (.own a)/\fs.length<=1000/\dx≠a/\h.get? a=Ga (DP C dx)/\
   ∃mA,h.Ns1 dx mA/\(∀f,Ib (fs.lookup f) (mA f))/\LN mA (fs.map (·.1))
 |.own _=>∃o,h.get? a=Ga o
 |.xd fs=>∃mA,h.Ns1 a mA/\∀f,Ib (fs.lookup f) (mA f)
 |.rng lo hi=>∃t u v,h.get? a=Ga {cls:=.type "range",data:=.fields #[.int lo t,.int hi u,.int 1 v]}
 |.frz o u=>h.get? a=Ga o/\Ym H h a u
 |.tbl ps=>h.get? a=Ga {cls:=.none,data:=.fields ps}
 |.met f x=>h.get? a=Ga (Sn (.ref f) (.ref x))
 |.ext c=>c h/\(∃o,h.get? a=Ga o)/\∀h1 h2:Heap,c h1->(∀o,h1.get? a=Ga o->h2.get? a=Ga o)->c h2
def Rp(H:Hp)(h:Heap):Prop:=∀a o,H a=Ga o->Ym P w H h a o
end
section
variable{P:Gg}{w:Gu}{H H':Hp}{h h':Heap}{a:Gc}{o:HO}
theorem Ym.lt(x:Ym P w H h a o):a<h.objs.size:=by
 cases o with
 |lst d=>obtain⟨_,_,_,_,e⟩:=x;exact Heap.lt_size e
 |tup d=>obtain⟨_,_,_,p⟩:=x;exact p.lt
 |dK b=>obtain⟨_,_,_,_,o,_,_,e,_⟩:=x;exact Heap.lt_size e
 |dT b=>obtain⟨_,_,_,_,o,_,_,e,_⟩:=x;exact Heap.lt_size e
 |set S n=>obtain⟨o,_,_,_,e,_⟩:=x;exact Heap.lt_size e
 |ins C f c=>obtain⟨_,_,_,e,_⟩:=x;exact Heap.lt_size e
 |own y=>obtain⟨_,e⟩:=x;exact Heap.lt_size e
 |xd c=>obtain⟨_,⟨_,_,_,e,_⟩,_⟩:=x;exact Heap.lt_size e
 |rng g f=>obtain⟨_,_,_,e⟩:=x;exact Heap.lt_size e
 |frz f u=>obtain⟨e,_⟩:=x;exact Heap.lt_size e
 |tbl f=>exact Heap.lt_size (show h.get? a=Ga _ from x)
 |met f y=>exact Heap.lt_size (show h.get? a=Ga _ from x)
 |ext f=>obtain⟨_,⟨_,e⟩,_⟩:=x;exact Heap.lt_size e
theorem Paired.Z8{e g:Type}{F G:e->g->Prop}:∀{c:List e}{d:List g},Paired F c d->(∀a b,F a b->G a b)->Paired G c d
 |_,_,.nil,_=>.nil
 |_,_,.cons r t,f=>.cons (f _ _ r) (Paired.Z8 t f)
theorem Ym.iB(x:Ym P w H h a o)(k:∀b u,(b=a\/H b=Ga (.own a))->h.get? b=Ga u->h'.get? b=Ga u)
  (E:∀b,H b=Ga (.own a)->H' b=Ga (.own a))(F:∀b m,H b=Ga (.tup m)->H' b=Ga (.tup m)):Ym P w H' h' a o:=by
 induction o with
 |lst m=>obtain⟨z,l,n,r,e⟩:=x;exact{z,l,n,r,k _ _ (.inl Xb) e}
 |tup m=>obtain⟨z,l,r,g,e,c⟩:=x;exact{z,l,r,g,k _ _ (.inl Xb) e,c}
 |dK s=>obtain⟨z,y,f,r,g,j,i,e,c⟩:=x;exact{z,y,f,r,g,j,i,k _ _ (.inl Xb) e,c}
 |dT s=>obtain⟨z,y,m,r,g,j,i,e,c⟩:=x;exact{z,y,m,Paired.Z8 r λp q z=>{z.1,F _ _ z.2.1,z.2.2},g,j,i,k _ _ (.inl Xb) e,c}
 |set S n=>obtain⟨g,j,i,t,e,c⟩:=x;exact{g,j,i,t,k _ _ (.inl Xb) e,c}
 |ins C G D=>obtain⟨d,z,v,e,A,⟨B,j,i,f,c⟩,r⟩:=x;exact{E _ d,z,v,k _ _ (.inl Xb) e,A,{B,j,i,k _ _ (.inr d) f,c},r}
 |own y=>obtain⟨g,e⟩:=x;exact{g,k _ _ (.inl Xb) e}
 |xd D=>obtain⟨A,⟨B,j,i,e,c⟩,r⟩:=x;exact{A,{B,j,i,k _ _ (.inl Xb) e,c},r}
 |rng C f=>obtain⟨t,u,v,e⟩:=x;exact{t,u,v,k _ _ (.inl Xb) e}
 |frz g u f=>obtain⟨e,q⟩:=x;exact{k _ _ (.inl Xb) e,f q}
 |tbl f=>have e:h.get? a=Ga {cls:=.none,data:=.fields f}:=x;show h'.get? a=Ga {cls:=.none,data:=.fields f};exact k a _ (.inl Xb) e
 |met f y=>have e:h.get? a=Ga (Sn (.ref f) (.ref y)):=x;show h'.get? a=Ga (Sn (.ref f) (.ref y));exact k a _ (.inl Xb) e
 |ext v=>obtain⟨p,⟨o,e⟩,f⟩:=x;exact{f _ _ p λo q=>k _ _ (.inl Xb) q,{o,k _ _ (.inl Xb) e},f}
theorem Rp.lt(x:Rp P w H h)(e:H a=Ga o):a<h.objs.size:=(x a o e).lt
theorem Rp.fresh(x:Rp P w H h)(e:h.objs.size<=a):H a=Gh:=by
 cases q:H a with
 |none=>rfl
 |some u=>exact absurd (Te (x.lt q) e) (Dq _)
theorem Rp.kept(x:Rp P w H h)(k:∀b u,h.get? b=Ga u->h'.get? b=Ga u):Rp P w H h':=λa o e=>(x a o e).iB (λb u _ q=>k b u q) (λ_ q=>q) λ_ _ q=>q
theorem Rp.laid(x:Rp P w H h)(k:∀b u,h.get? b=Ga u->h'.get? b=Ga u)(i:h.objs.size<=a)(d:Ym P w (zj H a o) h' a o):Rp P w (zj H a o) h':=λb u e=>by
 have g:=x.fresh i;by_cases f:b=a
 .subst f;rw[Qb]at e;cases e;exact d
 .rw[Qg f]at e;exact(x b u e).iB (λc v _ q=>k c v q) (λc q=>by rw[Qg (Qd q g)];exact q) λc j q=>by rw[Qg (Qd q g)];exact q
end
def Rd(H:Hp)(a:Gc)(u:HO):Prop:=H a=Ga u\/∃o,H a=Ga (.frz o u)
theorem Rd.ok{h:Heap}{u:HO}(r:Rd H a u)(x:Rp P w H h):Ym P w H h a u:=by
 rcases r with r|⟨o,r⟩
 .exact x a u r
 .obtain⟨_,q⟩:=x a _ r;exact q
def kY:Option HO->Prop
 |some (.lst _)=>True
 |some (.dK _)=>True
 |some (.dT _)=>True
 |some (.set _ _)=>True
 |some (.ins _ _ _)=>True
 |some (.ext _)=>True
 |_=>False
section
variable{P:Gg}{w:Gu}{H:Hp}{h h':Heap}{x e:Gc}{o':HO}
theorem Rp.write(ok:Rp P w H h)(j:kY (H x))(o:e=x\/H e=Ga (.own x))(k:∀b u,b≠e->h.get? b=Ga u->h'.get? b=Ga u)(m:∃u,h'.get? e=Ga u)
  (n:Ym P w (zj H x o') h' x o'):Rp P w (zj H x o') h':=λb u q=>by
 have d:∀c y,H c=Ga (.own y)->c≠x:=λc y r z=>by subst z;rw[r]at j;exact j
 have f:∀c l,H c=Ga (.tup l)->c≠x:=λc l r z=>by subst z;rw[r]at j;exact j
 by_cases g:b=x
 .subst g;rw[Qb]at q;cases q;exact n
 .rw[Qg g]at q;by_cases a:b=e
  .have i:H b=Ga (.own x):=by
    rcases o with z|z
    .exact absurd (a.trans z) g
    .rw[a];exact z
   rw[q]at i;cases i;obtain⟨v,p⟩:=m;exact{v,by rw[a];exact p}
  .refine(ok b u q).iB (λc v i r=>k c v ?_ r) (λc r=>by rw[Qg (d c b r)];exact r) λc l r=>by rw[Qg (f c l r)];exact r
   rcases i with rfl|i
   .exact a
   .rintro rfl;rcases o with z|z
    .exact d c b i z
    .rw[i]at z;cases z;exact g rfl
end
structure Un(fs ex:List Gc)(H H':Hp)(h h':Heap):Prop where
 keep:∀b o,h.get? b=Ga o->H b=Gh->b∉fs->b∉ex->h'.get? b=Ga o
 slot:∀b o,h.get? b=Ga o->H b=Gh->b∈fs->b∉ex->∃sl,h'.get? b=Ga {o with slots:=sl}
 free:∀b o,h.get? b=Ga o->H b=Gh->b∉ex->H' b=Gh
 there:∀b o,h.get? b=Ga o->b∉ex->∃o',h'.get? b=Ga o'
 Qs:∀b xs,H b=Ga (.tup xs)->H' b=Ga (.tup xs)
 O2:∀b o u,H b=Ga (.frz o u)->H' b=Ga (.frz o u)
 Qcd:∀b ps,H b=Ga (.tbl ps)->∃more,H' b=Ga (.tbl (ps++more))
section
variable{fs fs' ex ex':List Gc}{H H1 H2:Hp}{h h1 h2 h':Heap}{a x e:Gc}{o:HO}
theorem Un.any(u:Un fs ex H H1 h h1){a:Ef}(q:h.get? b=Ga a)(n:H b=Gh)(d:b∉ex):∃e,h1.get? b=Ga {a with slots:=e}:=by
 by_cases c:b∈fs
 .exact u.slot b a q n c d
 .exact{a.slots,u.keep b a q n c d}
theorem Un.trans(a:Un fs ex H H1 h h1)(b:Un fs ex H1 H2 h1 h2):Un fs ex H H2 h h2 where
 keep:=λc e q n g d=>b.keep c e (a.keep c e q n g d) (a.free c e q n d) g d
 slot:=λc e q n g d=>by obtain⟨m,f⟩:=a.slot c e q n g d;obtain⟨l,j⟩:=b.slot c _ f (a.free c e q n d) g d;exact⟨l,j⟩
 free:=λc e q n d=>by obtain⟨k,f⟩:=a.there c e q d;exact b.free c k f (a.free c e q n d) d
 there:=λc e q d=>by obtain⟨k,f⟩:=a.there c e q d;exact b.there c k f d
 Qs:=λc i q=>b.Qs c i (a.Qs c i q)
 O2:=λc e i q=>b.O2 c e i (a.O2 c e i q)
 Qcd:=λc o q=>by obtain⟨l,f⟩:=a.Qcd c o q;obtain⟨m,j⟩:=b.Qcd c _ f;exact{l++m,by rw[j,LD]}
theorem Un.kept(k:∀b u,h.get? b=Ga u->h'.get? b=Ga u):Un fs ex H H h h':=
 {λb a q _ _ _=>k b a q,λb a q _ _ _=>{a.slots,k b a q},λ_ _ _ n _=>n,λb a q _=>{a,k b a q},λ_ _ q=>q,λ_ _ _ q=>q,λ_ c q=>{#[],by rw[q];simp}}
theorem Un.refl:Un fs ex H H h h:=Un.kept λ_ _ q=>q
theorem Un.laid(k:∀b u,h.get? b=Ga u->h'.get? b=Ga u)(d:h.objs.size<=a)(c:H a=Gh):Un fs ex H (zj H a o) h h' where
 keep:=λb u q _ _ _=>k b u q
 slot:=λb u q _ _ _=>{u.slots,k b u q}
 free:=λb u q n _=>by rw[Qg (Tf (Te (Heap.lt_size q) d))];exact n
 there:=λb u q _=>{u,k b u q}
 Qs:=λb e q=>by rw[Qg (Qd q c)];exact q
 O2:=λb u e q=>by rw[Qg (Qd q c)];exact q
 Qcd:=λb f q=>{#[],by rw[Qg (Qd q c),q];simp}
theorem Un.write(c:kY (H x))(j:e=x\/H e=Ga (.own x))(k:∀b u,b≠e->h.get? b=Ga u->h'.get? b=Ga u)(d:∃u,h'.get? e=Ga u):Un fs ex H (zj H x o) h h':=by
 have i:∀b,H b=Gh->b≠x:=λb n z=>by subst z;rw[n]at c;exact c
 have g:∀b,H b=Gh->b≠e:=λb n z=>by
  subst z;rcases j with r|r
  .exact i b n r
  .rw[n]at r;cases r
 have f:∀b u,H b=Ga u->¬kY (Ga u)->b≠x:=λb u q l z=>by subst z;rw[q]at c;exact l c
 refine⟨λb u q n _ _=>k b u (g b n) q,λb u q n _ _=>{u.slots,k b u (g b n) q},λb u q n _=>by rw[Qg (i b n)];exact n,λb u q _=>?_,
  λb m q=>by rw[Qg (f b _ q λz=>z)];exact q,λb u m q=>by rw[Qg (f b _ q λz=>z)];exact q,λb p q=>{#[],by rw[Qg (f b _ q λz=>z),q];simp}⟩
 by_cases a:b=e
 .subst a;exact d
 .exact{u,k b u a q}
end
def trk(h:Heap)(H:Hp):List Gc:=(List.range h.objs.size).filter λa=>(H a).isSome
def ih(h:Heap)(H:Hp):Heap:=RW h (trk h H)
theorem JR(h:Heap)(H:Hp):(ih h H).objs.size=h.objs.size:=Nf _ _
theorem OY{h:Heap}(e:h.get? b=Ga o)(n:H b=Gh):(ih h H).get? b=Ga o:=
 Nw _ e λa=>by have q:(H b).isSome=Gf:=(List.mem_filter.mp a).2;rw[n]at q;simp at q
theorem Ce{h:Heap}(e:(ih h H).get? b=Ga o):h.get? b=Ga o/\H b=Gh:=by
 have a:h.get? b=Ga o:=NE (trk h H) e;exists a;cases q:H b with
 |none=>rfl
 |some x=>have c:b∈trk h H:=List.mem_filter.mpr {List.mem_range.mpr (Heap.lt_size a),by simp[q]};have z:(ih h H).get? b=Gh:=Ng (trk h H) c;rw[z]at e;cases e
def Am(g h:Heap)(L:Gc):List (Gc×Ef):=(List.range h.objs.size).filterMap λa=>if a=L\/(g.get? a).isSome=Gf then Gh else(h.get? a).map λo=>(a,o)
def Xx(g h:Heap)(L d:Gc):List (Gc×Ef):=(Am g h L).filter λp=>decide (p.1≠d)
structure Mod(K:Gd)(mg:Tb->Option Value)(base:Heap):Prop where
 kin:K.In base
 glob:base.Ns T2 mg
 blt:∃mb,base.Ns builtinsNs mb/\∀x:Tb,x≠"__name__"->mb x=bootBuiltins x
 nolimit:base.NoLimit
structure Cx where
 prog:Gg
 w:Gu
 K:Gd
 mg:Tb->Option Value
 base:Heap
 A:TQ
 N:List Tb
 s₀:Gk
 H₀:Hp
 env:Fd
 outer:List Fd
 stack:List Fd
 ex:List Gc
 fn:Tb->Bool
 calm:Bool
 pn:List (Gc×Ef)
 xe:Value->Gk->Prop
variable{X:Cx}
def frs(l:List Fd):List Gc:=l.filterMap (·.frame)
abbrev Cx.fs(X:Cx):List Gc:=frs X.outer
def pI(a:SE)(x:Tb):Prop:=a.names.lookup x=Ga .local\/a.names.lookup x=Ga .cell\/a.names.lookup x=Ga .free
def Loc(a:SE)(x:Tb):Prop:=a.names.lookup x=Ga .local\/a.names.lookup x=Ga .cell
def Look(a:Fd)(h:Heap)(m:Tb->Option Value)(x:Tb)(u:Value):Prop:=
 (a.kindOf x=Ga .local/\m x=Ga u)\/((a.kindOf x=Ga .cell\/a.kindOf x=Ga .free)/\∃c,a.cells.lookup x=Ga c/\h.IsCell c (Ga u))
structure Cx.Ok(X:Cx):Prop where
 mod:Mod X.K X.mg X.base
 kind:X.env.scope.kind=.function
 glob:X.env.globals=T2
 blt:X.env.builtins=builtinsNs
 above:X.s₀.heap.objs.size<=X.env.locals
 inj:∀x y c,X.env.cells.lookup x=Ga c->X.env.cells.lookup y=Ga c->x=y
 has:∀x,(X.env.kindOf x=Ga .cell\/X.env.kindOf x=Ga .free)->∃c,X.env.cells.lookup x=Ga c
 cab:∀x c,X.fn x=Gf->X.env.cells.lookup x=Ga c->X.s₀.heap.objs.size<=c
 hd:X.calm=Gf->X.A.handled=Gh
 frames:X.A.frames=Ga X.stack
 stk:X.stack=X.outer\/(X.stack=X.env::X.outer/\X.env.frame=Ga X.env.locals)
 exf:∀b∈X.ex,b≠X.env.locals/\∀x c,X.env.cells.lookup x=Ga c->c≠b
 bs:∀b o,X.base.get? b=Ga o->X.s₀.heap.get? b=Ga o/\X.H₀ b=Gh
 bsz:X.base.objs.size<=X.s₀.heap.objs.size
 Qsl:∀b o,X.base.get? b=Ga o->b∉X.ex
 Qyv:∀b∈X.ex,b∉X.fs
 gZ:X.s₀.heap.FunFrames X.base X.outer
 frf:∀b∈X.fs,X.H₀ b=Gh
structure zv(X:Cx)(zq:List (Gc×Ef))(σ:List (Option V))(H:Hp)(s:Gk):Prop where
 ok:X.Ok
 os:s.os=X.s₀.os
 bare:So s.gens
 base:Un X.fs X.ex X.H₀ H X.s₀.heap s.heap
 loc:∃m,s.heap.Ns X.env.locals m/\∀(i:Nat)(x:Tb)(v:V),X.N[i]?=Ga x->σ[i]?=Ga (Ga v)->pI X.env.scope x->∃u,zu v u/\Look X.env s.heap m x u
 cell:∀x c,X.env.cells.lookup x=Ga c->∃v,s.heap.IsCell c v
 free:H X.env.locals=Gh
 Jx:∀x c,X.env.cells.lookup x=Ga c->H c=Gh
 pin:∀p∈X.pn++zq,s.heap.get? p.1=Ga p.2/\H p.1=Gh/\p.1≠X.env.locals/\p.1∉X.fs/\∀v,p.2.data≠.cell v
 Z3:Rp X.prog X.w H s.heap
 len:σ.length=X.N.length
section
variable{X:Cx}{zq:List (Gc×Ef)}{σ:List (Option V)}{H H':Hp}{s:Gk}{h':Heap}
theorem Cx.Ok.JO(ok:X.Ok)(e:X.base.get? b=Ga o):b∉X.fs:=λa=>by have:=(ok.gZ.mem a).1;rw[e]at this;cases this
theorem zv.bs(I:zv X zq σ H s):∀b o,X.base.get? b=Ga o->s.heap.get? b=Ga o/\H b=Gh:=λb o e=>{I.base.keep b o (I.ok.bs b o e).1 (I.ok.bs b o e).2 (I.ok.JO e) (I.ok.Qsl b o e),I.base.free b o (I.ok.bs b o e).1 (I.ok.bs b o e).2 (I.ok.Qsl b o e)}
theorem zv.bk(I:zv X zq σ H s):∀b o,X.base.get? b=Ga o->s.heap.get? b=Ga o:=λb o e=>(I.bs b o e).1
theorem zv.mod(I:zv X zq σ H s):Mod X.K X.mg X.base:=I.ok.mod
theorem zv.kIn(I:zv X zq σ H s):X.K.In s.heap:=I.ok.mod.kin.keeps I.bk
theorem zv.lt(I:zv X zq σ H s):X.env.locals<s.heap.objs.size:=let⟨_,hn,_⟩:=I.loc;hn.lt
theorem zv.sz(I:zv X zq σ H s):X.s₀.heap.objs.size<=s.heap.objs.size:=Tw I.ok.above (E5 I.lt)
theorem zv.HC(I:zv X zq σ H s)(h:s.heap.objs.size<=a):a∉X.fs:=λb=>by obtain⟨_,o,c,_⟩:=I.ok.gZ.mem b;exact absurd (Te (Heap.lt_size c) (Tw I.sz h)) (Dq _)
theorem zv.cne(I:zv X zq σ H s):∀x c,X.env.cells.lookup x=Ga c->c≠X.env.locals:=λx c e z=>by obtain⟨v,o,f,d⟩:=I.cell x c e;obtain⟨m,⟨i,h,g,b,a,_⟩,_⟩:=I.loc;rw[z,b]at f;cases f;rw[a]at d;cases d
theorem zv.gZ(I:zv X zq σ H s):s.heap.FunFrames X.base X.outer:=by
 have all:∀(l:List Fd),(∀b∈frs l,b∈X.fs)->X.s₀.heap.FunFrames X.base l->s.heap.FunFrames X.base l:=by
  intro l;induction l with
  |nil=>intro _ _;trivial
  |cons g r p=>intro f j;obtain⟨i,⟨L,o,d,k,m,h⟩,n⟩:=j;have a:L∈X.fs:=f L (by unfold frs;rw[List.filterMap_cons,d];exact List.mem_cons_self);obtain⟨q,e⟩:=I.base.slot L o m (I.ok.frf L a) a λz=>I.ok.Qyv L z a;exact{i,{L,_,d,k,e,h},p (λb c=>f b (by unfold frs;rw[List.filterMap_cons,d];exact List.mem_cons_of_mem _ c)) n}
 exact all X.outer (λ_ c=>c) I.ok.gZ
theorem zv.stack(I:zv X zq σ H s):s.heap.FunFrames X.base X.stack:=by
 rcases I.ok.stk with e|⟨e,a⟩
 .rw[e];exact I.gZ
 .rw[e];obtain⟨m,b,_⟩:=I.loc;refine .cons (by rw[I.ok.kind];decide) a b ?_ I.gZ;exact Heap.get?_none_of_le (Tw I.ok.bsz I.ok.above)
theorem zv.lF(I:zv X zq σ H s):∀b∈frs X.stack,b∈X.env.locals::X.fs:=λb a=>by
 rcases I.ok.stk with e|⟨e,c⟩
 .rw[e]at a;exact List.mem_cons_of_mem _ a
 .rw[e]at a;unfold frs at a;rw[List.filterMap_cons,c]at a;exact a
theorem zv.su(I:zv X zq σ H s):∀b∈frs X.stack,H b=Gh:=λb a=>by
 rcases List.mem_cons.mp (I.lF b a)with e|a
 .rw[e];exact I.free
 .obtain⟨_,o,c,_⟩:=I.ok.gZ.mem a;exact I.base.free b o c (I.ok.frf b a) λz=>I.ok.Qyv b z a
theorem zv.step{g':Array GenState}{Q:Nat}{d':Drawn}{ch:List Gc}(I:zv X zq σ H s)
  (g:∀b∈ch,(b∈X.ex\/X.s₀.heap.objs.size<=b)/\b≠X.env.locals/\(∀x c,X.env.cells.lookup x=Ga c->c≠b)/\∀p∈X.pn++zq,p.1≠b)
  (keep:∀b o,b≠X.env.locals->b∉X.fs->b∉ch->s.heap.get? b=Ga o->H b=Gh->h'.get? b=Ga o)
  (slot:∀b o,b≠X.env.locals->b∈X.fs->b∉ch->s.heap.get? b=Ga o->H b=Gh->∃G,h'.get? b=Ga {o with slots:=G})(free:∀b o,b∉ch->s.heap.get? b=Ga o->H b=Gh->H' b=Gh)
  (there:∀b o,b∉ch->s.heap.get? b=Ga o->∃D,h'.get? b=Ga D)
  (Qs:∀b w,H b=Ga (.tup w)->H' b=Ga (.tup w))(O2:∀b o u,H b=Ga (.frz o u)->H' b=Ga (.frz o u))(Qcd:∀b E,H b=Ga (.tbl E)->∃l,H' b=Ga (.tbl (E++l)))
  (P:∀m,s.heap.Ns X.env.locals m->h'.Ns X.env.locals m)(K:Rp X.prog X.w H' h')(M:So g'):
  zv X zq σ H' {s with heap:=h',gens:=g',drawn:=d',toks:=Q}:=by
 have C:∀b o,X.s₀.heap.get? b=Ga o->b≠X.env.locals:=λb o e=>Tf (Te (Heap.lt_size e) I.ok.above);have t:∀b o,X.s₀.heap.get? b=Ga o->b∉X.ex->b∉ch:=λb o e a y=>by
  rcases(g b y).1 with z|z
  .exact a z
  .exact absurd (Te (Heap.lt_size e) z) (Dq _)
 have f:∀x c,X.env.cells.lookup x=Ga c->∀v,s.heap.IsCell c v->h'.IsCell c v:=λx c e v⟨o,A,F⟩=>by
  have h:c∉ch:=λz=>(g c z).2.2.1 x c e rfl;by_cases l:c∈X.fs
  .obtain⟨G,q⟩:=slot c o (I.cne x c e) l h A (I.Jx x c e);exact{_,q,F}
  .exact{o,keep c o (I.cne x c e) l h A (I.Jx x c e),F}
 refine{I.ok,I.os,M,{λb o e n y a=>?_,λb o e n y a=>?_,λb o e n a=>?_,λb o e a=>?_,λb w e=>Qs b w (I.base.Qs b w e),λb o w e=>O2 b o w (I.base.O2 b o w e),λb E e=>?_},?_,λx c e=>?_,?_,λx c e=>?_,λp J=>?_,K,I.len}
 .exact keep b o (C b o e) y (t b o e a) (I.base.keep b o e n y a) (I.base.free b o e n a)
 .obtain⟨G,j⟩:=I.base.slot b o e n y a;obtain⟨l,B⟩:=slot b _ (C b o e) y (t b o e a) j (I.base.free b o e n a);exact⟨l,B⟩
 .obtain⟨D,j⟩:=I.base.there b o e a;exact free b D (t b o e a) j (I.base.free b o e n a)
 .obtain⟨D,j⟩:=I.base.there b o e a;exact there b D (t b o e a) j
 .obtain⟨l,j⟩:=I.base.Qcd b E e;obtain⟨r,B⟩:=Qcd b _ j;exact{l++r,by rw[B,LD]}
 .obtain⟨m,O,N⟩:=I.loc;refine{m,P m O,λi x v j B L=>?_};obtain⟨u,r,l⟩:=N i x v j B L;exists u,r;rcases l with l|⟨k,c,e,z⟩
  .exact .inl l
  .exact .inr {k,c,e,f x c e _ z}
 .obtain⟨v,z⟩:=I.cell x c e;exact{v,f x c e v z}
 .obtain⟨m,⟨o,_,_,A,_⟩,_⟩:=I.loc;exact free _ o (λz=>(g _ z).2.1 Xb) A I.free
 .obtain⟨v,o,A,F⟩:=I.cell x c e;exact free c o (λz=>(g c z).2.2.1 x c e Xb) A (I.Jx x c e)
 .obtain⟨e,n,l,r,d⟩:=I.pin p J;have h:p.1∉ch:=λz=>(g p.1 z).2.2.2 p J rfl;exact{keep p.1 p.2 l r h e n,free p.1 p.2 h e n,l,r,d}
theorem zv.un(I:zv X zq σ H s)(u:Un X.fs [] H H' s.heap h')(h:Rp X.prog X.w H' h'):zv X zq σ H' {s with heap:=h',toks:=t'}:=by obtain⟨m,⟨o,p,l,g,r⟩,_⟩:=id I.loc;obtain⟨v,i⟩:=u.any g I.free (by simp);exact I.step (g':=s.gens) (d':=s.drawn) (ch:=[]) (λ_ z=>nomatch z) (λb o _ f _ e n=>u.keep b o e n f (by simp)) (λb o _ f _ e n=>u.slot b o e n f (by simp)) (λb o _ e n=>u.free b o e n (by simp)) (λb o _ e=>u.there b o e (by simp)) u.Qs u.O2 u.Qcd (λq j=>by obtain⟨t,d,c,a,k⟩:=j;rw[g]at a;cases a;exact{_,d,c,i,k}) h I.bare
theorem zv.call{g':Array GenState}{d':Drawn}{ch:List Gc}(I:zv X zq σ H s)(u:Un (frs X.stack) ch H H' s.heap h')(k:Rp X.prog X.w H' h')(l:So g')
  (d:∀b∈ch,(b∈X.ex\/X.s₀.heap.objs.size<=b)/\b≠X.env.locals/\(∀x c,X.env.cells.lookup x=Ga c->c≠b)/\∀p∈X.pn++zq,p.1≠b):
  zv X zq σ H' {s with heap:=h',gens:=g',drawn:=d',toks:=t'}:=by
 obtain⟨m,⟨o,g,f,j,r⟩,_⟩:=id I.loc;obtain⟨v,i⟩:=u.any j I.free λz=>(d _ z).2.1 rfl;exact I.step (ch:=ch) d (λb o i f a e n=>u.keep b o e n (λz=>(List.mem_cons.mp (I.lF b z)).elim i f) a) (λb o _ _ a e n=>u.any e n a) (λb o a e n=>u.free b o e n a) (λb o a e=>u.there b o e a) u.Qs u.O2 u.Qcd (λr m=>by obtain⟨t,h,g,f,q⟩:=m;rw[j]at f;cases f;exact{_,h,g,i,q}) k l
theorem zv.turned{a:Gc}(I:zv X zq σ H s)(k:∀b o,b≠a->s.heap.get? b=Ga o->h'.get? b=Ga o)(A:H a=Gh)(g:a≠X.env.locals)
  (j:a∈X.ex\/X.s₀.heap.objs.size<=a)(l:∀x c,X.env.cells.lookup x=Ga c->c≠a)(t:∀p∈X.pn++zq,p.1≠a):zv X zq σ H {s with heap:=h',toks:=t'}:=by
 have f:∀b u,H b=Ga u->b≠a:=λb u e z=>by rw[z,A]at e;cases e
 refine I.step (g':=s.gens) (d':=s.drawn) (ch:=[a]) (λb w=>?_) (λb o _ _ d e _=>k b o (λz=>d (by simp[z])) e) (λb o _ _ d e _=>{o.slots,k b o (λz=>d (by simp[z])) e}) (λ_ _ _ _ n=>n)
  (λb o d e=>{o,k b o (λz=>d (by simp[z])) e}) (λ_ _ e=>e) (λ_ _ _ e=>e) (λb h e=>{#[],by rw[e];simp}) (λm y=>?_) (λb u e=>?_) I.bare
 .have e:b=a:=by simpa using w
  subst e;exact⟨j,g,l,t⟩
 .obtain⟨o,i,h,v,r⟩:=y;exact{o,i,h,k _ o (Gn g) v,r}
 .refine(I.Z3 b u e).iB (λc v d q=>k c v ?_ q) (λ_ q=>q) λ_ _ q=>q;rcases d with z|z
  .rw[z];exact f b u e
  .exact f c _ z
theorem zv.tok(I:zv X zq σ H s)(t:Nat):zv X zq σ H {s with toks:=t}:=I.un (h':=s.heap) (t':=t) Un.refl I.Z3
theorem zv.kept{t':Nat}(I:zv X zq σ H s)(k:∀b u,s.heap.get? b=Ga u->h'.get? b=Ga u):zv X zq σ H {s with heap:=h',toks:=t'}:=I.un (Un.kept k) (I.Z3.kept k)
theorem zv.laid{a:Gc}{o:HO}{t':Nat}(I:zv X zq σ H s)(k:∀b u,s.heap.get? b=Ga u->h'.get? b=Ga u)(c:s.heap.objs.size<=a)(d:Ym X.prog X.w (zj H a o) h' a o):
  zv X zq σ (zj H a o) {s with heap:=h',toks:=t'}:=I.un (Un.laid k c (I.Z3.fresh c)) (I.Z3.laid k c d)
theorem zv.write{x e:Gc}{o:HO}{g:Nat}(I:zv X zq σ H s)(f:kY (H x))(d:e=x\/H e=Ga (.own x))(k:∀b u,b≠e->s.heap.get? b=Ga u->h'.get? b=Ga u)(a:∃u,h'.get? e=Ga u)
  (c:Ym X.prog X.w (zj H x o) h' x o):zv X zq σ (zj H x o) {s with heap:=h',toks:=g}:=I.un (Un.write f d k a) (I.Z3.write f d k a c)
theorem zv.xo{a:List (Gc×Ef)}(I:zv X zq σ H s)(h:∀p∈a,s.heap.get? p.1=Ga p.2/\H p.1=Gh/\p.1≠X.env.locals/\p.1∉X.fs/\∀v,p.2.data≠.cell v):zv X a σ H s:=
 {I.ok,I.os,I.bare,I.base,I.loc,I.cell,I.free,I.Jx,λp b=>(List.mem_append.mp b).elim (λz=>I.pin p (List.mem_append_left _ z)) (h p),I.Z3,I.len}
theorem yP(e:N.Nodup){j:Nat}(a:N[i]?=Ga x)(b:N[j]?=Ga x):i=j:=by obtain⟨f,c⟩:=List.getElem?_eq_some_iff.mp a;obtain⟨g,d⟩:=List.getElem?_eq_some_iff.mp b;exact(List.getElem_inj e).mp (c.trans d.symm)
theorem sv{ab:Unit->Gk->Prop}(b:zv X zq σ H s)(hN:X.N.Nodup)(G:X.N[i]?=Ga x)(m:Loc X.env.scope x)(ae:zu v u)
  (ac:∀t,zv X zq (σ.set i (Ga v)) H t->(∃a,Heap.SameBut a s.heap t.heap/\(a=X.env.locals\/X.env.cells.lookup x=Ga a))->ab () t)(hf:X.fn x=Gf\/X.env.scope.names.lookup x=Ga .local:=by first|exact .inl rfl|exact .inr rfl|assumption):wpAny M A (storeName X.env x u) ab E s:=by
 obtain⟨ai,Q,hl⟩:=id b.loc;have ah:(X.env.scope.kind==.class||(X.env.scope.kind==.module&&X.env.locals !=X.env.globals))=Gs:=by rw[b.ok.kind];rfl
 have ad:i<σ.length:=by rw[b.len];exact(List.getElem?_eq_some_iff.mp G).1
 have O:=b.cne;have af:∀{a:Gc}{D:Heap},(∃o,s.heap.get? a=Ga o/\H a=Gh)->Heap.SameBut a s.heap D->Rp X.prog X.w H D:=λ{a D}ha f g ob e=>by
  obtain⟨_,_,t⟩:=ha;refine(b.Z3 g ob e).iB (λc L l q=>(f.2 c ?_).trans q) (λ_ q=>q) λ_ _ q=>q;rintro rfl;rcases l with rfl|l
  .rw[t]at e;cases e
  .rw[t]at l;cases l
 rcases m with w|w
 .refine wpAny_storeName_local w Q (λD t f=>?_) ah;obtain⟨I,_,_,F,_⟩:=id Q;refine ac _ {b.ok,b.os,b.bare,{λg o e n B m=>?_,λg o e n B m=>?_,b.base.free,λg o e m=>?_,b.base.Qs,b.base.O2,b.base.Qcd},{_,t,λj y Y h r P=>?_},λy c e=>?_,b.free,b.Jx,λp R=>?_,af {I,F,b.free} f,by simpa using b.len} {_,f,.inl Xb}
  .exact(f.2 g (Tf (Te (Heap.lt_size e) b.ok.above))).trans (b.base.keep g o e n B m)
  .obtain⟨V,h⟩:=b.base.slot g o e n B m;exact{V,(f.2 g (Tf (Te (Heap.lt_size e) b.ok.above))).trans h}
  .obtain⟨T,h⟩:=b.base.there g o e m;exact{T,(f.2 g (Tf (Te (Heap.lt_size e) b.ok.above))).trans h}
  .by_cases C:j=i
   .subst C;rw[G]at h;cases h;rw[List.getElem?_set_self ad]at r;cases r;exact{u,ae,.inl {w,by simp}}
   .rw[List.getElem?_set_ne (Gn C)]at r;obtain⟨W,U,q⟩:=hl j y Y h r P;exists W,U;rcases q with⟨k,e⟩|⟨k,c,e,z⟩
    .refine .inl {k,?_};have:y≠x:=λe=>C (yP hN h (e▸G));simp[this,e]
    .exact .inr {k,c,e,z.sameBut f (O y c e)}
  .obtain⟨L,z⟩:=b.cell y c e;exact{L,z.sameBut f (O y c e)}
  .obtain⟨e,n,K,S,d⟩:=b.pin p R;exact{(f.2 p.1 K).trans e,n,K,S,d}
 .have N:X.fn x=Gf:=by
   rcases hf with z|z
   .exact z
   .rw[z]at w;cases w
  obtain⟨c,l⟩:=b.ok.has x (.inl w);obtain⟨L,z⟩:=b.cell x c l;refine wpAny_storeName_cell b.ok.kind w l z (λD Z f=>?_);obtain⟨oc,aa,ag⟩:=id z;refine ac {s with heap:=D} {b.ok,b.os,b.bare,{λg o e n B m=>?_,λg o e n B m=>?_,b.base.free,λg o e m=>?_,b.base.Qs,b.base.O2,b.base.Qcd},{ai,Q.sameBut f (Gn (O x c l)),λj y Y h r P=>?_},λy F e=>?_,b.free,b.Jx,λp R=>?_,af {oc,aa,b.Jx x c l} f,by simpa using b.len} {c,f,.inr l}
  .exact(f.2 g (Tf (Te (Heap.lt_size e) (b.ok.cab x c N l)))).trans (b.base.keep g o e n B m)
  .obtain⟨V,h⟩:=b.base.slot g o e n B m;exact{V,(f.2 g (Tf (Te (Heap.lt_size e) (b.ok.cab x c N l)))).trans h}
  .obtain⟨T,h⟩:=b.base.there g o e m;exact{T,(f.2 g (Tf (Te (Heap.lt_size e) (b.ok.cab x c N l)))).trans h}
  .by_cases C:j=i
   .subst C;rw[G]at h;cases h;rw[List.getElem?_set_self ad]at r;cases r;exact{u,ae,.inr {.inl w,c,l,Z}}
   .rw[List.getElem?_set_ne (Gn C)]at r;obtain⟨W,U,q⟩:=hl j y Y h r P;exists W,U;rcases q with q|⟨k,F,e,t⟩
    .exact .inl q
    .refine .inr {k,F,e,t.sameBut f ?_};rintro rfl;exact C (yP hN h (b.ok.inj _ _ _ e l▸G))
  .by_cases t:F=c
   .subst t;exact{_,Z}
   .obtain⟨I,J⟩:=b.cell y F e;exact{I,J.sameBut f t}
  .obtain⟨e,n,K,S,d⟩:=b.pin p R;refine{(f.2 p.1 ?_).trans e,n,K,S,d};intro q;rw[q,aa]at e;have t:oc=p.2:=Ti e;exact d L (by rw[<-t];exact ag)
theorem we{Q:Unit->Gk->Prop}(I:zv X zq σ H s)(c:X.N.Nodup)(e:X.N[i]?=Ga x)(f:Loc X.env.scope x)(r:zu v u)
  (h:∀a,zv X zq (σ.set i (Ga v)) H a->Q () a)(d:X.fn x=Gf\/X.env.scope.names.lookup x=Ga .local:=by first|exact .inl rfl|exact .inr rfl|assumption):wpAny M A (storeName X.env x u) Q E s:=
 sv I c e f r (λa b _=>h a b) d
theorem zv.Pq{a:Gk}{ch:List Gc}(I:zv X zq σ H s)(h:a.os=s.os)(u:Un (frs X.stack) ch H H' s.heap a.heap)(f:Rp X.prog X.w H' a.heap)(g:So a.gens)
  (d:∀b∈ch,(b∈X.ex\/X.s₀.heap.objs.size<=b)/\b≠X.env.locals/\(∀x c,X.env.cells.lookup x=Ga c->c≠b)/\∀p∈X.pn++zq,p.1≠b):zv X zq σ H' a:=by
 obtain⟨j,g',d',t',i⟩:=a;have e:i=s.os:=h;subst e;exact I.call (g':=g') (t':=t') (d':=d') u f g d
end
abbrev XK:=Value->Option Gc->Hp->Prop
abbrev St:=List (Option V)
variable{σ:St}
abbrev VK:=V->Hp->Prop
abbrev TE:=St->Hp->VK->Prop
variable{t te:TE}
abbrev TT:=St->Hp->(Bool->Hp->Prop)->Prop
abbrev TA:=St->Hp->(List V->Hp->Prop)->Prop
structure Ends where
 nx:St->Hp->Prop
 rt:VK
 bk:St->Hp->Prop:=λ_ _=>False
 ct:St->Hp->Prop:=λ_ _=>False
variable{D:Ends}
abbrev TS:=Ends->St->Hp->Prop
variable{tb:TS}
inductive EP(X:Cx)(zq:List (Gc×Ef))(σ:St)(Q:VK)(u:Value)(s':Gk):Prop
 |mk (v:_) (H':_) (h0:zv X zq σ H' s') (h1:zu v u) (h2:Q v H'):EP X zq σ Q u s'
def TP(X:Cx)(zq:List (Gc×Ef))(σ:St)(Q:Bool->Hp->Prop)(b:Bool)(s':Gk):Prop:=∃H',zv X zq σ H' s'/\Q b H'
inductive AP(X:Cx)(zq:List (Gc×Ef))(σ:St)(Q:List V->Hp->Prop)(us:List Value)(s':Gk):Prop
 |mk (vs:_) (H':_) (h0:zv X zq σ H' s') (h1:Z2 vs us) (h2:Q vs H'):AP X zq σ Q us s'
def SP(X:Cx)(zq:List (Gc×Ef))(D:Ends)(f:Flow)(s':Gk):Prop:=
 match f with
 |.next=>∃a H',zv X zq a H' s'/\D.nx a H'
 |.brk=>∃a H',zv X zq a H' s'/\D.bk a H'
 |.cont=>∃a H',zv X zq a H' s'/\D.ct a H'
 |.ret u=>∃v a H',zv X zq a H' s'/\zu v u/\D.rt v H'
def PE(X:Cx)(e:TZ)(t:TE):Prop:=
 ∀(zq:List (Gc×Ef))(s:Gk)(σ:St)(H:Hp)(Q:VK),zv X zq σ H s->t σ H Q->wpAny (Tc X.prog X.w) X.A (eval e X.env) (EP X zq σ Q) X.xe s
def PT(X:Cx)(e:TZ)(t:TT):Prop:=
 ∀(zq:List (Gc×Ef))(s:Gk)(σ:St)(H:Hp)(Q:Bool->Hp->Prop),zv X zq σ H s->t σ H Q->wpAny (Tc X.prog X.w) X.A (isTrue e X.env (eval e X.env)) (TP X zq σ Q) X.xe s
def PW(X:Cx)(e:TZ)(t:TT):Prop:=
 ∀(a:Bh Value)(zq:List (Gc×Ef))(s:Gk)(σ:St)(H:Hp)(Q:Bool->Hp->Prop),zv X zq σ H s->t σ H Q->wpAny (Tc X.prog X.w) X.A (isTrue e X.env a) (TP X zq σ Q) X.xe s
theorem PW.pt{t:TT}(h:PW X e t):PT X e t:=h _
def PA(X:Cx)(es:List TZ)(t:TA):Prop:=
 ∀(pos:SV)(zq:List (Gc×Ef))(s:Gk)(σ:St)(H:Hp)(Q:List V->Hp->Prop),zv X zq σ H s->t σ H Q->wpAny (Tc X.prog X.w) X.A (spliced (DS pos (Tj es X.env))) (AP X zq σ Q) X.xe s
def PS(X:Cx)(st:TY)(t:TS):Prop:=
 ∀(zq:List (Gc×Ef))(s:Gk)(σ:St)(H:Hp)(D:Ends),zv X zq σ H s->t D σ H->wpAny (Tc X.prog X.w) X.A (exec st X.env) (SP X zq D) X.xe s
def Ia(X:Cx)(st:List TY)(t:TS):Prop:=
 ∀(zq:List (Gc×Ef))(s:Gk)(σ:St)(H:Hp)(D:Ends),zv X zq σ H s->t D σ H->wpAny (Tc X.prog X.w) X.A (execs st X.env) (SP X zq D) X.xe s
theorem Yx{c:Type}{t:Bh c}{Q b:c->Gk->Prop}(h:wpAny M A t Q E s)(d:∀a s,Q a s->b a s):wpAny M A t b E s:=DE h d λ_ _ x=>x
section
variable{X:Cx}
theorem bin{a b:TZ}{g i:TE}(m:PE X a g)(n:PE X b i){R:V->V->Hp->Prop}(I:zv X zq σ H s)(h:g σ H λx H1=>i σ H1 λy H2=>R x y H2)
  {j:Type}{Q:j->Gk->Prop}{f:Value->Value->Bh j}
  (o:∀v u e x y H2,zv X zq σ H2 e->zu x v->zu y u->R x y H2->wpAny (Tc X.prog X.w) X.A (f v u) Q X.xe e):
  wpAny (Tc X.prog X.w) X.A (eval a X.env) (λv c=>wpAny (Tc X.prog X.w) X.A (eval b X.env) (λu d=>wpAny (Tc X.prog X.w) X.A (f v u) Q X.xe d) X.xe c) X.xe s:=by
 refine Yx (m zq s σ H _ I h) λv w⟨x,H1,k,r,p⟩=>?_;refine Yx (n zq w σ H1 _ k p) λu e⟨y,H2,l,t,q⟩=>?_;exact o v u e x y H2 l r t q
inductive wL(i:Nat)(σ:St)(H:Hp)(Q:VK):Prop
 |mk (v:_) (h0:σ[i]?=Ga (Ga v)) (h1:Q v H):wL i σ H Q
def Vz(i:Nat):TE:=λσ H Q=>wL i σ H Q
def tC(v:V):TE:=λ_ H Q=>Q v H
theorem JW(n:X.N[i]?=Ga x)(t:pI X.env.scope x)(j:(x==("__debug__":Tb))=Gs:=by decide)(g:(x==("__classdict__":Tb))=Gs:=by decide):PE X (.Name x pos) (Vz i):=by
 intro f s w H Q I h;obtain⟨v,e,h⟩:=h;obtain⟨m,q,o⟩:=I.loc;obtain⟨u,r,l⟩:=o i x v n e t;have b:EP X f w Q u s:=⟨v,H,I,r,h⟩;rcases l with⟨d,p⟩|⟨d,c,k,a⟩
 .exact FA (wpAny_loadName_local I.ok.kind d q p b) j
 .rcases d with d|d
  .exact FA (wpAny_loadName_cell I.ok.kind d k a b) j
  .exact FA (wpAny_loadName_free I.ok.kind d k a b g) j
theorem Qi{i j pos}:PE X (.Constant (.int i) j pos) (tC (.int i)):=λ_ _ _ H _ I h=>wpAny_Constant_int {.int i,H,I.tok _,{_,Xb},h}
theorem Yf{b j pos}:PE X (.Constant (.bool b) j pos) (tC (.bl b)):=λ_ _ _ H _ I h=>Constant_bool {.bl b,H,I,Xb,h}
theorem Uo{j pos}:PE X (.Constant .none j pos) (tC .non):=λ_ _ _ H _ I h=>Md {.non,H,I,Xb,h}
theorem Zk{x j pos}:PE X (.Constant (.str x) j pos) (tC (.str x)):=λ_ _ _ H _ I h=>Calls.Constant_str {.str x,H,I.tok _,{_,Xb},h}
def Gl(X:Cx)(x:Tb):Prop:=X.env.kindOf x=Ga .globalImplicit
theorem lR(I:zv X zq σ H s)(b:Gl X x)(c:X.mg x=Ga u)(h:Q u s)
  (a:(x==("__debug__":Tb))=Gs:=by decide):wpAny (Tc X.prog X.w) X.A (eval (.Name x pos) X.env) Q E s:=
 E9 I.ok.kind b (Calls.loadGlobal_global (by rw[I.ok.glob];exact I.mod.glob.keeps I.bk) c h) a
theorem Ur(I:zv X zq σ H s)(d:Gl X x)(e:X.mg x=Gh)(g:bootBuiltins x=Ga u)(h:Q u s)
  (f:x≠"__name__":=by decide)(c:(x==("__debug__":Tb))=Gs:=by decide):wpAny (Tc X.prog X.w) X.A (eval (.Name x pos) X.env) Q E s:=by
 obtain⟨i,a,b⟩:=I.mod.blt;exact E9 I.ok.kind d (Calls.loadGlobal_builtin (by rw[I.ok.glob];exact I.mod.glob.keeps I.bk) e (by rw[I.ok.blt];exact a.keeps I.bk) ((b x f).trans g) h) c
theorem O5(b:Gl X x)(c:X.mg x=Ga u)(r:zu v u)(a:(x==("__debug__":Tb))=Gs:=by decide):PE X (.Name x pos) (tC v):=
 λ_ _ _ H _ I h=>lR I b c ⟨v,H,I,r,h⟩ a
theorem Xs(b:Gl X x)(c:X.mg x=Gh)(e:bootBuiltins x=Ga u)(r:zu v u)(d:x≠"__name__":=by decide)(a:(x==("__debug__":Tb))=Gs:=by decide):PE X (.Name x pos) (tC v):=
 λ_ _ _ H _ I h=>Ur I b c e ⟨v,H,I,r,h⟩ d a
variable{a b:TZ}{ta tb:TE}{pos:SV}
def PC(X:Cx)(e:CmpOp)(a b:TZ)(t:TE):Prop:=
 ∀(zq:List (Gc×Ef))(s:Gk)(σ:St)(H:Hp)(Q:VK),zv X zq σ H s->t σ H Q->
  wpAny (Tc X.prog X.w) X.A (eval a X.env) (λv c=>wpAny (Tc X.prog X.w) X.A (eval b X.env) (λu d=>wpAny (Tc X.prog X.w) X.A (T6 e v u) (EP X zq σ Q) X.xe d) X.xe c) X.xe s
theorem JE(b:TZ)(h:op≠.In)(d:op≠.NotIn):behindInMarks op b=Gs:=by
 have a:(op==Ba)=Gs:=by cases op<;>first|rfl|exact absurd rfl h
 have c:(op==Nh)=Gs:=by cases op<;>first|rfl|exact absurd rfl d
 cases b<;>simp[behindInMarks,a,c]
def A3(ta:TE):TE:=λσ H Q=>ta σ H λx H1=>Q (.bl (!decide (x=.non))) H1
theorem zu.B9{x:V}{v:Value}(r:zu x v):(v==Value.none)=decide (x=.non):=by
 cases x with
 |non=>cases r;rfl
 |bl _=>cases r;rfl
 |int _=>obtain⟨t,rfl⟩:=r;rfl
 |str _=>obtain⟨t,rfl⟩:=r;rfl
 |byt _=>obtain⟨t,rfl⟩:=r;rfl
 |flt _=>obtain⟨t,rfl⟩:=r;rfl
 |ref _=>cases r;rfl
 |ty _=>cases r;rfl
theorem II{j pos'}(e:PE X a ta):PC X .IsNot a (.Constant .none j pos') (A3 ta):=by intro b s i H Q I h;refine Yx (e b s i H _ I h) λv k⟨x,c,d,g,f⟩=>?_;exact Md (FC {.bl _,c,d,by rw[g.B9];rfl,f})
inductive iTB(Q:Bool->Hp->Prop)(x:V)(H1:Hp):Prop
 |mk (c:_) (h0:x=.bl c) (h1:Q c H1):iTB Q x H1
def tB(t:TE):TT:=λσ H Q=>t σ H λx H1=>iTB Q x H1
theorem jO(h:PC X op a b t)(f:behindInMarks op b=Gs:=by first|exact JE _ (by decide) (by decide)|rfl):PT X (.Compare a [op] [b] pos) (tB t):=by intro e s m H Q I hw;refine S0 (Yx (h e s m H _ I hw) λv n f=>Yx f λu o j=>Yx j λc p⟨x,g,i,l,k⟩=>?_) f;obtain⟨d,rfl,q⟩:=k;cases l;exact Du ⟨g,i,q⟩
theorem Yb(h:PE X e t)(f:∀a,isTrue e X.env a=(do let v<-a;standAt e.pos;holding [v] (truthy v)):=by intro _;rfl):PT X e (tB t):=by intro a s j H Q I hw;refine MR (Yx (h a s j H _ I hw) λv k⟨x,b,c,i,g⟩=>?_) (f _);obtain⟨d,rfl,q⟩:=g;cases i;exact Du ⟨b,c,q⟩
variable{tA tB':TT}{Xx:List TZ}
def C9(t u:TT):TT:=λσ H Q=>t σ H λc H1=>if c=Gf then u σ H1 Q else Q Gs H1
def tOr(t u:TT):TT:=λσ H Q=>t σ H λc H1=>if c=Gf then Q Gf H1 else u σ H1 Q
def P3(t:TT):TT:=λσ H Q=>t σ H λc H1=>Q (!c) H1
theorem Jl(d:PT X a tA):PW X (.BoolOp .And [a] pos) tA:=by
 intro i b s f H Q I h;refine NF (Yx (d b s f H Q I h) λc g e=>?_);cases c with
 |true=>exact isTrue_and_nil e
 |false=>exact e
theorem Xp(d:PT X a tA):PW X (.BoolOp .Or [a] pos) tA:=by
 intro i b s f H Q I h;refine isTrue_or (Yx (d b s f H Q I h) λc g e=>?_);cases c with
 |false=>exact isTrue_or_nil e
 |true=>exact e
theorem Ir(j:PT X a tA)(k:PW X (.BoolOp .And (b::Xx) pos) tB'):PW X (.BoolOp .And (a::b::Xx) pos) (C9 tA tB'):=by
 intro m d s i H Q I h;refine NF (Yx (j d s i H _ I h) λc l⟨e,f,g⟩=>?_);cases c with
 |true=>exact k m d l i e Q f g
 |false=>exact⟨e,f,g⟩
theorem Y1(j:PT X a tA)(k:PW X (.BoolOp .Or (b::Xx) pos) tB'):PW X (.BoolOp .Or (a::b::Xx) pos) (tOr tA tB'):=by
 intro m d s i H Q I h;refine isTrue_or (Yx (j d s i H _ I h) λc l⟨e,f,g⟩=>?_);cases c with
 |true=>exact⟨e,f,g⟩
 |false=>exact k m d l i e Q f g
theorem Yn(e:PT X a tA):PT X (.UnaryOp .Not a pos) (P3 tA):=by intro b s f H Q I h;exact isTrue_not (e b s f H (λc d=>Q (!c) d) I h)
inductive rB(tb:TE)(σ:St)(Q:VK)(x:V)(H1:Hp):Prop
 |mk (c:_) (h0:x=.bl c) (h1:if c=Gf then tb σ H1 Q else Q (.bl Gs) H1):rB tb σ Q x H1
def PX(ta tb:TE):TE:=λσ H Q=>ta σ H λx H1=>rB tb σ Q x H1
inductive rq(Q:VK)(x:V)(H1:Hp):Prop
 |mk (c:_) (h0:x=.bl c) (h1:Q (.bl (!c)) H1):rq Q x H1
def CD(ta:TE):TE:=λσ H Q=>ta σ H λx H1=>rq Q x H1
theorem lW{c}(h:PE X a t):PE X (.BoolOp c [a] pos) t:=λb s d H Q I hw=>BoolOp_one (h b s d H Q I hw)
theorem pV(j:PE X a ta)(k:PE X (.BoolOp .And (b::Xx) pos) tb):PE X (.BoolOp .And (a::b::Xx) pos) (PX ta tb):=by
 intro d s i H Q I h;refine BoolOp_and (Yx (j d s i H _ I h) λv m⟨x,f,g,l,e⟩=>?_);obtain⟨c,rfl,e⟩:=e;cases l;refine Du ?_;cases c with
 |true=>exact k d m i f Q g e
 |false=>exact{.bl Gs,f,g,Xb,e}
theorem BO(g:PE X a ta):PE X (.UnaryOp .Not a pos) (CD ta):=by intro b s j H Q I h;refine UnaryOp_ (Yx (g b s j H _ I h) λv k⟨x,e,f,i,d⟩=>?_);obtain⟨c,rfl,d⟩:=d;cases i;exact not_of (Du {.bl (!c),e,f,Xb,d})
def tIf(t:TT)(ta tb:TE):TE:=λσ H Q=>t σ H λc H1=>if c=Gf then ta σ H1 Q else tb σ H1 Q
theorem Ht(n:PT X c tA)(l:PE X a ta)(m:PE X b tb):PE X (.IfExp c a b pos) (tIf tA ta tb):=by
 intro e s f H Q I h;refine wpAny_IfExp (Yx (n e s f H _ I h) λd k⟨g,i,j⟩=>?_);cases d with
 |true=>exact l e k f g Q i j
 |false=>exact m e k f g Q i j
end
def Za(K:Gd)(H:Hp)(a:Gc)(xs:List V):Prop:=
 Rd H a (.lst xs)\/
  ∃(o:Ef)(b:Array Value)(n:Nat),K.lookup a=Ga o/\o.cls=.type "list"/\o.dict=Gh/\o.data=.seq b n/\b.size<=Gj/\Z2 xs b.toList
def Q9(K:Gd)(H:Hp)(a:Gc)(xs:List V):Prop:=
 Rd H a (.tup xs)\/
  ∃(o:Ef)(b:Array Value)(n:Nat),K.lookup a=Ga o/\o.cls=.type "tuple"/\o.data=.seq b n/\b.size<=Gj/\Z2 xs b.toList
def HZ:Value->Option V
 |.none=>Ga .non
 |.bool b=>Ga (.bl b)
 |.int i _=>Ga (.int i)
 |.str x _=>Ga (.str x)
 |.bytes b _=>Ga (.byt b)
 |.float b _=>Ga (.flt b)
 |.ref a=>Ga (.ref a)
 |.type n=>Ga (.ty n)
 |_=>Gh
theorem zu.abs{x:V}(r:zu x u):HZ u=Ga x:=by
 cases x with
 |non=>cases r;rfl
 |bl _=>cases r;rfl
 |int _=>obtain⟨t,rfl⟩:=r;rfl
 |str _=>obtain⟨t,rfl⟩:=r;rfl
 |byt _=>obtain⟨t,rfl⟩:=r;rfl
 |flt _=>obtain⟨t,rfl⟩:=r;rfl
 |ref _=>cases r;rfl
 |ty _=>cases r;rfl
theorem zu.inj{x y:V}{u:Value}(r:zu x u)(q:zu y u):x=y:=Ti (r.abs.symm.trans q.abs)
theorem Z2.inj:∀{b c:List V}{a:List Value},Z2 b a->Z2 c a->b=c
 |_,_,_,.nil,.nil=>rfl
 |_,_,_,.cons r t,.cons d e=>by rw[r.inj d,Z2.inj t e]
section
variable{X:Cx}{zq:List (Gc×Ef)}{σ:St}{H:Hp}{s:Gk}{a:Gc}{xs ys:List V}
theorem Za.of(h:H a=Ga (.lst xs)):Za K H a xs:=.inl (.inl h)
theorem Q9.of(h:H a=Ga (.tup xs)):Q9 K H a xs:=.inl (.inl h)
theorem zv.list(I:zv X zq σ H s)(h:Za X.K H a xs):∃b:List Value,Z2 xs b/\PlainL s.heap a b.toArray/\xs.length<=Gj:=by
 rcases h with h|⟨o,b,n,f,c,d,g,i,r⟩
 .obtain⟨z,b,n,r,e⟩:=h.ok I.Z3;exact{b,r,{_,n,e,Xb,Xb,Xb},z}
 .exists b.toList,r,{o,n,I.kIn a o f,c,d,by simpa using g};have e:=r.length;simp only[TD]at e;ext
theorem zv.tuple(I:zv X zq σ H s)(h:Q9 X.K H a xs):∃b:List Value,Z2 xs b/\IsTup s.heap a b.toArray/\xs.length<=Gj:=by
 rcases h with h|⟨o,b,n,d,c,f,g,r⟩
 .obtain⟨z,b,r,p⟩:=h.ok I.Z3;exact⟨b,r,p,z⟩
 .exists b.toList,r,{o,I.kIn a o d,c,n,by simpa using f};have e:=r.length;simp only[TD]at e;ext
theorem zv.qk(I:zv X zq σ H s)(h:Za X.K H a xs)(j:Za X.K H a ys):xs=ys:=by
 obtain⟨c,r,⟨o,n,e,_,_,d⟩,_⟩:=I.list h;obtain⟨b,k,⟨m,l,g,_,_,f⟩,_⟩:=I.list j;rw[e]at g;cases g;rw[d]at f;injection f with i _;have:c=b:=by simpa using congrArg MT i
 subst this;exact r.inj k
theorem zv.JP(I:zv X zq σ H s)(h:Q9 X.K H a xs)(j:Q9 X.K H a ys):xs=ys:=by
 obtain⟨c,r,⟨o,e,_,n,d⟩,_⟩:=I.tuple h;obtain⟨b,k,⟨m,g,_,l,f⟩,_⟩:=I.tuple j;rw[e]at g;cases g;rw[d]at f;injection f with i _;have:c=b:=by simpa using congrArg MT i
 subst this;exact r.inj k
end
abbrev Cx.hO(X:Cx)(E:Value->Gk->Prop):Cx:={X with xe:=E}
abbrev Cx.nox(X:Cx):Cx:=X.hO λ_ _=>False
theorem Cx.Ok.hO{X:Cx}(ok:X.Ok)(E:Value->Gk->Prop):(X.hO E).Ok:=
 {ok.mod,ok.kind,ok.glob,ok.blt,ok.above,ok.inj,ok.has,ok.cab,ok.hd,ok.frames,ok.stk,ok.exf,ok.bs,ok.bsz,ok.Qsl,ok.Qyv,ok.gZ,ok.frf}
theorem Cx.Ok.Io(ok:(X.hO E).Ok):X.Ok:=
 {ok.mod,ok.kind,ok.glob,ok.blt,ok.above,ok.inj,ok.has,ok.cab,ok.hd,ok.frames,ok.stk,ok.exf,ok.bs,ok.bsz,ok.Qsl,ok.Qyv,ok.gZ,ok.frf}
section
variable{X:Cx}{zq:List (Gc×Ef)}{σ:St}{H:Hp}{s:Gk}{E:Value->Gk->Prop}
theorem zv.hO(I:zv X zq σ H s)(E:Value->Gk->Prop):zv (X.hO E) zq σ H s:={I.ok.hO E,I.os,I.bare,I.base,I.loc,I.cell,I.free,I.Jx,I.pin,I.Z3,I.len}
theorem zv.Io(I:zv (X.hO E) zq σ H s):zv X zq σ H s:={I.ok.Io,I.os,I.bare,I.base,I.loc,I.cell,I.free,I.Jx,I.pin,I.Z3,I.len}
theorem SP.Io{D:Ends}{f:Flow}{c:Gk}(h:SP (X.hO E) zq D f c):SP X zq D f c:=by
 cases f with
 |next=>obtain⟨a,b,I,q⟩:=h;exact⟨a,b,I.Io,q⟩
 |brk=>obtain⟨a,b,I,q⟩:=h;exact{a,b,I.Io,q}
 |cont=>obtain⟨a,b,I,q⟩:=h;exact{a,b,I.Io,q}
 |ret u=>obtain⟨v,a,b,I,r,q⟩:=h;exact{v,a,b,I.Io,r,q}
theorem Ia.nox{b:List TY}{t:TS}(h:Ia X.nox b t):Ia X b t:=λa s c H D I hw=>DE (h a s c H D (I.hO _) hw) (λ_ _ q=>q.Io) λ_ _ z=>False.elim z
end
section
variable{X:Cx}{st:TY}{Xx:List TY}{t u:TS}{e:TZ}{te:TE}{pos:SV}
def BW:TS:=λD σ H=>D.nx σ H
def JF(t u:TS):TS:=λD σ H=>t {D with nx:=u D} σ H
theorem Qv:Ia X [] BW:=λ_ _ a H _ I h=>EY ⟨a,H,I,h⟩
theorem Qc(e:PS X st t)(g:Ia X Xx u):Ia X (st::Xx) (JF t u):=by
 intro a s j H D I h;refine Fe (Yx (e a s j H {D with nx:=u D} I h) λf i q=>?_);cases f with
 |next=>obtain⟨b,c,d,q⟩:=q;exact g a i b c D d q
 |ret v=>exact q
 |brk=>exact q
 |cont=>exact q
theorem Qh(b:PS X st t):Ia X [st] t:=by
 intro a s c H D I h;refine Fe (Yx (b a s c H D I h) λf d q=>?_);cases f with
 |next=>exact EY q
 |ret v=>exact q
 |brk=>exact q
 |cont=>exact q
def IZ:TS:=λD σ H=>D.ct σ H
theorem Hm:PS X (.Continue pos) IZ:=λ_ _ a H _ I h=>wpAny_Continue ⟨a,H,I,h⟩
theorem zv.quiet(I:zv X zq σ H s):interactive X.env=Gs:=by simp[interactive,I.ok.kind]
def CA(te:TE):TS:=λD σ H=>te σ H λ_ H1=>D.nx σ H1
theorem Zj(f:PE X e te)(g:swapsWith e Gh pos.line X.env=pure Gs:=by rfl):PS X (.Expr e pos) (CA te):=by intro a s b H D I h;exact wpAny_Expr_any (Yx (f a s b H _ I h) λv k⟨x,c,d,j,i⟩=>⟨b,c,d,i⟩) I.quiet g
def B6(te:TE):TS:=λD σ H=>te σ H D.rt
theorem Qt(f:PE X e te):PS X (.Return (Ga e) pos) (B6 te):=by intro a s b H D I h;exact wpAny_Return_some (Yx (f a s b H _ I h) λv j⟨x,c,d,i,g⟩=>⟨x,b,c,d,i,g⟩)
def z7:TS:=λD _ H=>D.rt .non H
theorem Hs:PS X (.Return Gh pos) z7:=λ_ _ a H _ I h=>wpAny_Return_none {.non,a,H,I,Xb,h}
def Kd(c:TT)(t u:TS):TS:=λD σ H=>c σ H λb H1=>if b=Gf then t D σ H1 else u D σ H1
theorem Q8{a b:List TY}{l:TT}(o:PT X c l)(m:Ia X a t)(n:Ia X b u):PS X (.If c a b pos) (Kd l t u):=by
 intro e s f H D I h;refine wpAny_If (Yx (o e s f H _ I h) λd k⟨g,i,j⟩=>?_);cases d with
 |true=>exact m e k f g D i j
 |false=>exact n e k f g D i j
end
abbrev TG:=V->St->Hp->(St->Hp->Prop)->Prop
variable{g:TG}
abbrev ic:=List V->St->Hp->(St->Hp->Prop)->Prop
def PG(X:Cx)(a:TZ)(t:TG):Prop:=
 ∀(zq:List (Gc×Ef))(s:Gk)(σ:St)(H:Hp)(v:V)(u:Value)(Q:St->Hp->Prop),zv X zq σ H s->zu v u->t v σ H Q->
  wpAny (Tc X.prog X.w) X.A (assign a X.env u) (λ_ s'=>∃b H',zv X zq b H' s'/\Q b H') X.xe s
def lI(X:Cx)(ts:List TZ)(t:ic):Prop:=
 ∀(zq:List (Gc×Ef))(s:Gk)(σ:St)(H:Hp)(c:List V)(b:List Value)(Q:St->Hp->Prop),zv X zq σ H s->Z2 c b->t c σ H Q->
  wpAny (Tc X.prog X.w) X.A (assignInOrder ((assignEach ts X.env).map (·.2)) b) (λ_ s'=>∃a H',zv X zq a H' s'/\Q a H') X.xe s
abbrev l8:=V->V->V->Hp->(Hp->Prop)->Prop
def xb(X:Cx)(t:l8):Prop:=
 ∀(zq:List (Gc×Ef))(s:Gk)(σ:St)(H:Hp)(o i v:V)(ov a u:Value)(Q:Hp->Prop),zv X zq σ H s->zu o ov->zu i a->zu v u->t o i v H Q->
  wpAny (Tc X.prog X.w) X.A (setItem ov a u) (λ_ s'=>∃H',zv X zq σ H' s'/\Q H') X.xe s
section
variable{X:Cx}{pos:SV}
def V2(i:Nat):TG:=λv σ H Q=>Q (σ.set i (Ga v)) H
theorem Xc(c:X.N.Nodup)(e:X.N[i]?=Ga x)(f:Loc X.env.scope x)(d:X.fn x=Gf\/X.env.scope.names.lookup x=Ga .local:=by first|exact .inl rfl|exact .inr rfl|assumption):PG X (.Name x pos) (V2 i):=by intro a s j H v u Q I r h;exact LO (we I c e f r (λg b=>{_,H,b,h}) d)
theorem Zz(i:Nat)(a:X.N.Nodup)(c:X.N[i]?=Ga x:=by rfl)(d:Loc X.env.scope x:=by exact T3 Xb)(b:X.fn x=Gf\/X.env.scope.names.lookup x=Ga .local:=by first|exact .inl rfl|exact .inr rfl|assumption):PG X (.Name x pos) (V2 i):=Xc a c d b
def nh:ic:=λa σ H Q=>a=[]/\Q σ H
inductive qT(t:TG)(u:ic)(vs:List V)(σ:St)(H:Hp)(Q:St->Hp->Prop):Prop
 |mk (v:_) (r:_) (h0:vs=v::r) (h1:t v σ H λσ' H'=>u r σ' H' Q):qT t u vs σ H Q
def kh(t:TG)(u:ic):ic:=λa σ H Q=>qT t u a σ H Q
theorem Wm:lI X [] nh:=by intro a s b H d c Q I r h;obtain⟨e,h⟩:=h;subst e;cases r;exact assignInOrder_nil ⟨b,H,I,h⟩
theorem Zn{b:List TZ}{t:TG}{u:ic}(i:PG X e t)(j:lI X b u)
  (k:(assignEach (e::b) X.env).map (·.2)=assign e X.env::(assignEach b X.env).map (·.2):=by rfl):lI X (e::b) (kh t u):=by
 intro a s o H d c Q I r h;obtain⟨v,p,g,h⟩:=h;subst g;cases r with
 |cons r m=>rw[k];refine assignInOrder_cons (Yx (i a s o H _ _ _ I r h) λ_ n⟨c,d,f,l⟩=>?_);exact j a n c d _ _ Q f m l
inductive vR(K:Gd)(n:Nat)(t:ic)(v:V)(σ:St)(H:Hp)(Q:St->Hp->Prop):Prop
 |mk (a:_) (xs:_) (h0:v=.ref a) (h1:Q9 K H a xs) (h2:xs.length=n) (h3:t xs σ H Q):vR K n t v σ H Q
def qo(K:Gd)(n:Nat)(t:ic):TG:=λv σ H Q=>vR K n t v σ H Q
theorem Vx{d:List TZ}{t:ic}(p:X.calm=Gf)(h:lI X d t)
  (w:(assignEach d X.env).length=n:=by rfl)(f:(assignEach d X.env).findIdx? (·.1)=Gh:=by rfl):PG X (.Tuple d k pos) (qo X.K n t):=by
 intro c s i H v u Q I r hw;obtain⟨a,B,l,x,q,hw⟩:=hw;subst l;cases r;obtain⟨A,g,y,C⟩:=I.tuple x;refine assign_Tuple_tuple (I.ok.hd p) y (by simp[w,<-q,g.length]) f λm z=>?_;have j:zv X c i H {s with heap:=m}:=I.kept (t':=s.toks) λb o e=>z b o (Tf (Heap.lt_size e)) e;exact h c _ i H B _ Q j (by simpa using g) hw
def CT(to b:TE)(t:l8):TG:=λv σ H Q=>to σ H λo H1=>b σ H1 λi H2=>t o i v H2 λa=>Q σ a
theorem jJ{o i:TZ}{e d:TE}{t:l8}(q:PE X o e)(p:PE X i d)(w:xb X t)
  (n:∀v,assign (.Subscript o i pos) X.env v=(do
   let ov<-holding [v] (eval o X.env)
   let b<-holding [v,ov] (eval i X.env)
   standAt pos
   holding [v,ov,b] (setItem ov b v)
   release [v,ov,b] []):=by intro _;rfl):PG X (.Subscript o i pos) (CT e d t):=by
 intro a s c H v u Q I r h;rw[n];refine Gb (T1 (Yx (q a s c H _ I h) λov E⟨x,f,k,C,z⟩=>?_));refine Gb (T1 (Yx (p a E c f _ k z) λb F⟨y,g,l,D,A⟩=>?_));refine Gb (Ly (Gb (T1 (Yx (w a F c g x y v ov b u _ l C D r A) λ_ G⟨j,m,B⟩=>?_))));exact wpAny_release ⟨c,j,m,B⟩
def lD(te:TE)(g:TG):TS:=λD σ H=>te σ H λx H1=>g x σ H1 D.nx
theorem Rt(i:PE X e te)(j:PG X tg g)(k:swapsWithSole [tg] e pos.line X.env=pure Gs:=by rfl)(hw:swappedStores [tg] e X.env=pure Gh:=by rfl)
  (f:(assignEach [tg] X.env).map (·.2)=[assign tg X.env]:=by rfl):PS X (.Assign [tg] e pos) (lD te g):=by
 intro a s b H D I h;refine wpAny_Assign_stores (Yx (i a s b H _ I h) λv n⟨x,c,d,m,l⟩=>?_) k hw;rw[f];exact Yx (j a n b c x v _ d m l) λ_ o q=>q
theorem V1{a:SV}(g:X.N.Nodup)(l:X.N[i]?=Ga x)(n:Loc X.env.scope x)(j:PE X e te)(m:swapsWith e (Ga (.Name x a)) pos.line X.env=pure Gs:=by rfl)(k:X.fn x=Gf\/X.env.scope.names.lookup x=Ga .local:=by first|exact .inl rfl|exact .inr rfl|assumption):
  PS X (.Assign [.Name x a] e pos) (lD te (V2 i)):=by
 intro b s q H D I h;refine wpAny_Assign_Name (Yx (j b s q H _ I h) λv r⟨y,c,d,p,o⟩=>?_) m;exact we d g l n p (λt f=>{_,c,f,o}) k
theorem Qz(i:Nat){a:SV}(b:X.N.Nodup)(c:PE X e te)(f:X.N[i]?=Ga x:=by rfl)(h:Loc X.env.scope x:=by exact T3 Xb)(g:swapsWith e (Ga (.Name x a)) pos.line X.env=pure Gs:=by rfl)(d:X.fn x=Gf\/X.env.scope.names.lookup x=Ga .local:=by first|exact .inl rfl|exact .inr rfl|assumption):PS X (.Assign [.Name x a] e pos) (lD te (V2 i)):=V1 b f h c g d
end
section
variable{X:Cx}{pos:SV}
def uK(c:TT)(tb:TS):TS:=λD σ H=>∃W:Nat->St->Hp->Prop,(∃m,W m σ H)/\∀m σ H,W m σ H->
 c σ H λb H1=>if b=Gf then∃N:St->Hp->Prop,(∀a H',N a H'->∃d,d<m/\W d a H')/\tb {D with nx:=N,ct:=N,bk:=D.nx} σ H1 else D.nx σ H1
theorem Vd{y:TT}(x:PassesOwn (Tc X.prog X.w) X.A X.env X.xe)(B:PT X c y)(A:Ia X body tb):PS X (.While c body [] pos) (uK y tb):=by
 intro a s L H D I h;obtain⟨W,⟨C,J⟩,turn⟩:=h;refine wpAny_While (codeAny_whileLoop (λn E=>∃i q,zv X a i q E/\W n i q) ?_ C ⟨L,H,I,J⟩);rintro n F ⟨e,r,z,K⟩;refine DY x (Yx (B a F e r _ z (turn n e r K)) λb G⟨t,u,j⟩=>?_);cases b with
 |true=>
  obtain⟨N,w,j⟩:=j;rw[Gp rfl];refine DY x (Yx (A a G e t _ u j) λf M k=>?_);cases f with
  |next=>obtain⟨d,g,l,n3⟩:=k;obtain⟨o,m,p⟩:=w d g n3;exact⟨o,m,d,g,l,p⟩
  |cont=>obtain⟨d,g,l,n3⟩:=k;obtain⟨o,m,p⟩:=w d g n3;exact⟨o,m,d,g,l,p⟩
  |brk=>exact k
  |ret v=>exact k
 |false=>rw[Gi GJ];exact EY ⟨e,t,u,j⟩
end
structure It where
 go:Nat->Hp->Prop
 yld:Nat->Hp->V->Hp->Prop
 stop:Nat->Hp->Prop
def gT(X:Cx)(zq:List (Gc×Ef))(H:Hp)(b:Gc):Prop:=
 H b=Gh/\b≠X.env.locals/\b∉X.fs/\(b∈X.ex\/X.s₀.heap.objs.size<=b)/\(∀x c,X.env.cells.lookup x=Ga c->c≠b)/\∀p∈X.pn++zq,p.1≠b
theorem zv.iK{d:Hp}(I:zv X zq σ H s)(a:s.heap.objs.size<=b)(f:d b=Gh):gT X zq d b:=by
 refine{f,Tx (Te I.lt a),I.HC a,.inr (Tw I.sz a),λx c e z=>?_,λp g z=>?_}
 .obtain⟨v,q⟩:=I.cell x c e;exact absurd (Te q.lt (by rw[z];exact a)) (Dq _)
 .exact absurd (Te (Heap.lt_size (I.pin p g).1) (by rw[z];exact a)) (Dq _)
structure ig(P:Gg)(w:Gu)(K:Gd)(tg:TZ)(J:It)(fp:List Gc)(it:Gc)(tn:Nat->Heap->Prop):Prop where
 mem:it∈fp
 obj:∀i h,tn i h->∀b∈fp,∃o,h.get? b=Ga o/\∀v,o.data≠.cell v
 keep:∀i h h',tn i h->(∀b∈fp,∀o,h.get? b=Ga o->h'.get? b=Ga o)->tn i h'
 item:∀(X:Cx),X.prog=P->X.w=w->X.K=K->X.calm=Gf->∀(i:Nat)(zq:List (Gc×Ef))(s:Gk)(σ:St)(H:Hp)(E:Value->Gk->Prop),zv X zq σ H s->(∀b∈fp,gT X zq H b)->tn i s.heap->J.go i H->
  wpAny (Tc P w) X.A (pyNext (.ref it)) (λr s1=>∃u,r=Ga u/\
   wpAny (Tc P w) X.A (letOwnedTupleGo tg (.ref it) u) (λ_ s2=>∃x H',zv X zq σ H' s2/\zu x u/\J.yld i H x H'/\tn (i+1) s2.heap/\∀b∈fp,H' b=Gh) E s1) E s
 done:∀(X:Cx),X.prog=P->X.w=w->X.K=K->X.calm=Gf->∀(i:Nat)(zq:List (Gc×Ef))(s:Gk)(σ:St)(H:Hp)(E:Value->Gk->Prop),zv X zq σ H s->(∀b∈fp,gT X zq H b)->tn i s.heap->J.stop i H->
  wpAny (Tc P w) X.A (pyNext (.ref it)) (λr s1=>r=Gh/\zv X zq σ H s1) E s
 self:∀(A:TQ)(i:Nat)(s:Gk)(Q:Value->Gk->Prop)(E:Value->Gk->Prop),tn i s.heap->Q (.ref it) s->wpAny (Tc P w) A (pyIter (.ref it)) Q E s
abbrev TI:=St->Hp->(It->Hp->Prop)->Prop
def yB(X:Cx)(zq:List (Gc×Ef))(σ:St)(tg:TZ)(R:It->Hp->Prop)(a:Value)(d:Gk):Prop:=
 ∃(c:Gc)(fp:List Gc)(e:Nat->Heap->Prop)(J:It)(H':Hp),a=.ref c/\zv X zq σ H' d/\ig X.prog X.w X.K tg J fp c e/\e 0 d.heap/\(∀b∈fp,gT X zq H' b)/\R J H'
def PI(X:Cx)(tg iter:TZ)(wi:TI):Prop:=
 ∀(zq:List (Gc×Ef))(s:Gk)(σ:St)(H:Hp)(R:It->Hp->Prop),zv X zq σ H s->wi σ H R->
  wpAny (Tc X.prog X.w) X.A (eval iter X.env) (λv a=>wpAny (Tc X.prog X.w) X.A (pyIter v) (yB X zq σ tg R) X.xe a) X.xe s
theorem jc      {b : Gc}   {n : String} {c : Array Value} {Q : Unit -> Gk -> Prop} (g : s.heap.get? b = Ga o) (d : o.cls = .type n) (e : o.data = .fields c)
    (f : ["enumerate", "zip", "dict_itemiterator", "dict_reverseitemiterator", "odict_iterator", "itertools.zip_longest", "itertools.pairwise"].contains n = Gs) (a : Q () s) : wpAny M A (letOwnedTupleGo tg (.ref b) u) Q E s := by
  unfold letOwnedTupleGo
  cases tg <;> first
    | exact Ge a
    | (cases u <;> first
        | exact Ge a
        | (refine Gb (wpAny_load g ?_)
           rw [d, e]
           show wpAny M A (if (["enumerate", "zip", "dict_itemiterator", "dict_reverseitemiterator", "odict_iterator", "itertools.zip_longest", "itertools.pairwise"].contains n && c[0]? == Ga (rawInt _)) = Gf then _ else _) Q E s
           rw [Gi (by intro h; rw [f, Bool.false_and] at h; cases h)]
           exact Ge a))
def hF(K:Gd)(a:Gc):It:=
 {λi H=>∃xs x,Za K H a xs/\xs[i]?=Ga x,λi H x H'=>H'=H/\∀xs,Za K H a xs->xs[i]?=Ga x,λi H=>∃xs,Za K H a xs/\xs.length<=i}
def iz(K:Gd)(a:Gc):It:=
 {λi H=>∃xs x,Q9 K H a xs/\xs[i]?=Ga x,λi H x H'=>H'=H/\∀xs,Q9 K H a xs->xs[i]?=Ga x,λi H=>∃xs,Q9 K H a xs/\xs.length<=i}
def jf(lo:Int)(n:Nat):It:={λi _=>i<n,λi H x H'=>H'=H/\x=.int (lo+i),λi _=>n<=i}
theorem AA(a l:Gc):ig P w K tg (hF K a) [l] l (λi h=>h.IsListIter l a i) where
 mem:=by simp
 obj:=λi h f b j=>by
  have e:b=l:=by simpa using j
  subst e;obtain⟨o,e,c,d⟩:=f;exact{o,e,λv z=>by rw[d]at z;cases z}
 keep:=λi h n f k=>f.at λo e=>k l (by simp) o e
 item:=by intro X F hw D N i g s O H E I q f G;subst F hw D;obtain⟨W,x,r,J⟩:=G;obtain⟨L,M,p,T⟩:=I.list r;obtain⟨u,R,U⟩:=M.get J;obtain⟨t,y,Q,A,B,C⟩:=q l (by simp);refine wpAny_pyNext_list_item f p.isList (x:=u) (by simpa using R) λn m V=>?_;have v:zv X g O H {s with heap:=n}:=I.turned (t':=s.toks) (λb o j e=>(V.2 b j).trans e) t y A B C;obtain⟨o,e,c,d⟩:=id m;exact{u,Xb,jc (s:={s with heap:=n}) e c d (by decide) {x,H,v,U,{Xb,λY S=>by rw[I.qk S r];exact J},m,λb j=>(q b j).1}}
 done:=by intro X F hw D N i g s O H E I q f G;subst F hw D;obtain⟨W,r,J⟩:=G;obtain⟨L,M,p,T⟩:=I.list r;obtain⟨t,y,Q,A,B,C⟩:=q l (by simp);have v:=M.length;exact wpAny_pyNext_list_end (I.ok.hd N) f p.isList (by simp;lia) λn m=>{Xb,I.turned (t':=s.toks) (λb o j e=>m b o j e) t y A B C}
 self:=λ_ _ _ _ _ f h=>wpAny_pyIter_listiter f h
theorem PR(a l:Gc):ig P w K tg (iz K a) [l] l (λi h=>h.IsTupleIter l a i) where
 mem:=by simp
 obj:=λi h f b j=>by
  have e:b=l:=by simpa using j
  subst e;obtain⟨o,e,c,d⟩:=f;exact{o,e,λv z=>by rw[d]at z;cases z}
 keep:=λi h q f k=>f.at λo e=>k l (by simp) o e
 item:=by intro X G hw F N i g s O H E I r f J;subst G hw F;obtain⟨W,x,t,L⟩:=J;obtain⟨m,M,p,T⟩:=I.tuple t;obtain⟨u,R,U⟩:=M.get L;obtain⟨y,A,Q,B,C,D⟩:=r l (by simp);refine wpAny_pyNext_tuple_item f (show s.heap.IsTuple a m.toArray from p) (x:=u) (by simpa using R) λq n V=>?_;have v:zv X g O H {s with heap:=q}:=I.turned (t':=s.toks) (λb o j e=>(V.2 b j).trans e) y A B C D;obtain⟨o,e,c,d⟩:=id n;exact{u,Xb,jc (s:={s with heap:=q}) e c d (by decide) {x,H,v,U,{Xb,λY S=>by rw[I.JP S t];exact L},n,λb j=>(r b j).1}}
 done:=by intro X G hw F N i g s O H E I r f J;subst G hw F;obtain⟨W,t,L⟩:=J;obtain⟨m,M,p,T⟩:=I.tuple t;obtain⟨y,A,Q,B,C,D⟩:=r l (by simp);have v:=M.length;exact wpAny_pyNext_tuple_end (I.ok.hd N) f (show s.heap.IsTuple a m.toArray from p) (by simp;ext) λq n=>{Xb,I.turned (t':=s.toks) (λb o j e=>n b o j e) y A B C D}
 self:=λ_ _ _ _ _ f h=>wpAny_pyIter_tupleiter f h
theorem zL(c:Gc)(m:Int)(n:Nat):ig P w K tg (jf m n) [c] c (λi h=>Lf h c (m+(i:Nat)*1) ((n:Int) - (i:Nat)) 1) where
 mem:=by simp
 obj:=λi h a b f=>by
  have e:b=c:=by simpa using f
  subst e;exact{_,a,λv z=>by have g:Ni _=RE v:=z;cases g}
 keep:=λi h j a k=>k c (by simp) _ a
 item:=by intro X A hw y B i d s F H E I l a C;subst A hw y;obtain⟨p,q,J,r,u,x⟩:=l c (by simp);have W:=Nj (prog:=X.prog) (w:=X.w) (I.ok.hd B) c m 1 n;refine W.item i s _ _ C a λv j D L g M=>?_;obtain⟨t,rfl⟩:=L;have G:zv X d F H {s with heap:=j,toks:=D}:=I.turned (λb o f e=>M b o (by simpa using f) e) p q r u x;refine{_,Xb,jc (s:={s with heap:=j,toks:=D}) (n:="range_iterator") g rfl rfl (by decide) {.int (m+i),H,G,{t,?_},⟨Xb,Xb⟩,g,λb f=>(l b f).1}};rw[Int.mul_one]
 done:=by intro X A hw y B i d s F H E I l a C;subst A hw y;obtain⟨p,q,J,r,u,x⟩:=l c (by simp);exact SK (I.ok.hd B) a (by have:n<=i:=C;lia) λj g=>{Xb,I.turned (t':=s.toks) (λb o f e=>g b o f e) p q r u x}
 self:=λ_ _ _ _ _ a h=>SM a h
section
variable{X:Cx}{tg:TZ}
inductive uc(K:Gd)(R:It->Hp->Prop)(x:V)(H1:Hp):Prop
 |mk (a:_) (h0:x=.ref a) (h1:(∃xs,Za K H1 a xs)) (h2:R (hF K a) H1):uc K R x H1
def Bo(K:Gd)(tl:TE):TI:=λσ H R=>tl σ H λx H1=>uc K R x H1
inductive xl(K:Gd)(R:It->Hp->Prop)(x:V)(H1:Hp):Prop
 |mk (a:_) (h0:x=.ref a) (h1:(∃xs,Q9 K H1 a xs)) (h2:R (iz K a) H1):xl K R x H1
def Ar(K:Gd)(tl:TE):TI:=λσ H R=>tl σ H λx H1=>xl K R x H1
theorem Yg{l:TZ}{g:TE}(k:PE X l g):PI X tg l (Bo X.K g):=by
 intro c s u H R I h;refine Yx (k c s u H _ I h) λv f⟨x,i,d,t,r⟩=>?_;obtain⟨a,e,⟨z,m⟩,q⟩:=r;subst e;cases t;obtain⟨n,y,p,w⟩:=d.list m;refine wpAny_pyIter_list p.isList ?_;refine{f.heap.objs.size,[f.heap.objs.size],_,_,i,Xb,d.kept (t':=f.toks) λb o e=>Heap.get?_push_of_some _ e,AA a _,{_,Heap.get?_push_size _ Xb,Xb,Xb},λb j=>?_,q};have e:b=f.heap.objs.size:=by simpa using j
 subst e;exact d.iK (Gm _) (d.Z3.fresh (Gm _))
theorem Uj{l:TZ}{i:TE}(m:PE X l i):PI X tg l (Ar X.K i):=by
 intro c s u H R I h;refine Yx (m c s u H _ I h) λv d⟨x,j,f,t,r⟩=>?_;obtain⟨a,e,⟨z,n⟩,q⟩:=r;subst e;cases t;obtain⟨g,y,p,w⟩:=f.tuple n;refine Sa (show d.heap.IsTuple a g.toArray from p) ?_;refine{d.heap.objs.size,[d.heap.objs.size],_,_,j,Xb,f.kept (t':=d.toks) λb o e=>Heap.get?_push_of_some _ e,PR a _,{_,Heap.get?_push_size _ Xb,Xb,Xb},λb k=>?_,q};have e:b=d.heap.objs.size:=by simpa using k
 subst e;exact f.iK (Gm _) (f.Z3.fresh (Gm _))
theorem C3{R:It->Hp->Prop}{a c:Int}{t u v:Bg}{f:Nat}(I:zv X zq σ H s)(i: -(2^62)<=a)(j:a<2^62)(k: -(2^62)<=c)(l:c<2^62)
  (q:R (jf a (c - a).toNat) H):wpAny (Tc X.prog X.w) X.A (pyIter (.ref s.heap.objs.size)) (yB X zq σ tg R) E {s with heap:=s.heap.push {cls:=.type "range",data:=.fields #[.int a t,.int c u,.int 1 v]},toks:=f}:=by
 refine LF (Nk ..) (small_one i j k l) ?_;have d:zv X zq σ H {s with heap:=s.heap.push {cls:=.type "range",data:=.fields #[.int a t,.int c u,.int 1 v]},toks:=f}:=I.kept λb o e=>Heap.get?_push_of_some _ e;refine⟨(s.heap.push {cls:=.type "range",data:=.fields #[.int a t,.int c u,.int 1 v]}).objs.size,[(s.heap.push {cls:=.type "range",data:=.fields #[.int a t,.int c u,.int 1 v]}).objs.size],_,_,H,Xb,
  d.kept (t':=f) λb o e=>Heap.get?_push_of_some _ e,zL _ a (c - a).toNat,?_,λb m=>?_,q⟩
 .have g:a+((0:Nat):Int)*1=a:=by simp
  have h:(((c - a).toNat:Nat):Int) - ((0:Nat):Int)=Builtin.Range.rangeSize a c 1:=by rw[rangeSize_one];split<;>lia
  show Lf _ _ (a+((0:Nat):Int)*1) ((((c - a).toNat:Nat):Int) - ((0:Nat):Int)) 1;rw[g,h];exact Heap.get?_push_size _ rfl
 .have e:b=(s.heap.push {cls:=.type "range",data:=.fields #[.int a t,.int c u,.int 1 v]}).objs.size:=by simpa using m
  subst e;exact d.iK (Gm _) (d.Z3.fresh (Gm _))
inductive wM(R:It->Hp->Prop)(vs:List V)(H1:Hp):Prop
 |mk (j:Int) (h0:vs=[.int j]) (h1: -(2^62)<=j) (h2:j<2^62) (h3:R (jf 0 j.toNat) H1):wM R vs H1
def PF(ta:TA):TI:=λσ H R=>ta σ H λa H1=>wM R a H1
theorem V7{a:TZ}{d:TA}{p:SV}(i:Gl X "range")(k:X.mg "range"=Gh)(g:PA X [a] d)(l:Tj [a] X.env=[(Gs,eval a X.env)]:=by rfl):PI X tg (.Call (.Name "range" p) [a] [] pos) (PF d):=by
 intro b s u H R I h;refine Bb (Ur I i k NG (Dp (Yx (g pos b s u H _ I h) λx w⟨y,v,f,n,c⟩=>?_) l Xb));obtain⟨j,e,c,m,q⟩:=c;subst e;cases n with
 |cons r o=>cases o;obtain⟨t,rfl⟩:=r;exact call_range_1 (C3 f (by ext) (by ext) c m (by simpa using q))
def Hu(wi:TI)(g:TG)(tb:TS):TS:=λD σ H=>wi σ H λJ H1=>∃W:Nat->Nat->St->Hp->Prop,(∃m,W 0 m σ H1)/\∀i m σ H,W i m σ H->
 (J.stop i H/\D.nx σ H)\/(J.go i H/\∃N:St->Hp->Prop,(∀a H',N a H'->∃c,c<m/\W (i+1) c a H')/\∀x H',J.yld i H x H'->g x σ H' λb H2=>tb {D with nx:=N,ct:=N,bk:=D.nx} b H2)
def kU(fp:List Gc)(h:Heap):List (Gc×Ef):=fp.filterMap λb=>(h.get? b).map λo=>(b,o)
theorem Jm{h:Heap}(a:b∈fp)(e:h.get? b=Ga o):(b,o)∈kU fp h:=List.mem_filterMap.mpr {b,a,by rw[e];rfl}
theorem Bu{h:Heap}{p:Gc×Ef}(d:p∈kU fp h):p.1∈fp/\h.get? p.1=Ga p.2:=by
 obtain⟨b,c,e⟩:=List.mem_filterMap.mp d;cases q:h.get? b with
 |none=>rw[q]at e;cases e
 |some o=>rw[q]at e;have a:(b,o)=p:=Ti e;subst a;exact⟨c,q⟩
theorem zv.pinned(I:zv X zq σ H s)(i:∀b∈fp,gT X zq H b)(j:∀b∈fp,∃o,s.heap.get? b=Ga o/\∀v,o.data≠.cell v):zv X (zq++kU fp s.heap) σ H s:=
 I.xo λp k=>(List.mem_append.mp k).elim (λz=>I.pin p (List.mem_append_right _ z)) λz=>by obtain⟨c,e⟩:=Bu z;obtain⟨f,g,h,_⟩:=i p.1 c;obtain⟨o,a,d⟩:=j p.1 c;rw[e]at a;cases a;exact⟨e,f,g,h,d⟩
theorem zv.Os{b:List (Gc×Ef)}(I:zv X (zq++b) σ H s):zv X zq σ H s:=I.xo λp a=>I.pin p (List.mem_append_right _ (List.mem_append_left _ a))
theorem Z6{iter:TZ}{N:TI}(p:PassesOwn (Tc X.prog X.w) X.A X.env X.xe)(G:X.calm=Gf)(hi:PI X tg iter N)(hg:PG X tg g)(e:Ia X body tb)
  (hs:∀x,foldedSetIterable iter X.env x=pure x:=by intro _;rfl):PS X (.For tg iter body [] pos) (Hu N g tb):=by
 intro k s O P ai S ad;refine wpAny_For (Yx (hi k s O P _ S ad) λag s1 h1=>Yx h1 λak s2 h2=>?_) hs;obtain⟨it,o,M,aj,Q,m,T,l,af,E,W,⟨m0,w0⟩,turn⟩:=h2;subst m;have B:∀{h:Hp},(∀a∈o,h a=Gh)->∀a∈o,gT X k h a:=λhn a e=>{hn a e,(E a e).2};refine codeAny_forLoop_any (λn I=>∃i r h,zv X k r h I/\M i I.heap/\(∀a∈o,h a=Gh)/\W i n r h) ?_ m0 {0,O,Q,T,af,λa e=>(E a e).1,w0};rintro n J ⟨i,t,v,D,L,F,w3⟩;rcases turn i n t v w3 with⟨stop,qn⟩|⟨go,aa,hN,step⟩
 .refine DY p (Yx (l.done X rfl rfl rfl G i k J t v X.xe D (B F) L stop) λae s4⟨w,U⟩=>?_);subst w;exact EY ⟨t,v,U,qn⟩
 .refine DY p (Yx (l.item X rfl rfl rfl G i k J t v X.xe D (B F) L go) λae s4⟨u,w,h4⟩=>?_);subst w;refine DY p (Yx h4 λ_ K⟨x,C,V,r5,y5,A,ac⟩=>?_);have Y:=V.pinned (B ac) (l.obj _ _ A);refine DY p (Yx (hg _ K t C x u _ Y r5 (step x C y5)) λ_ s6⟨ah,R,Z,q6⟩=>?_);refine DY p (Yx (e _ s6 ah R _ Z q6) λab z j=>?_);have again:∀{f:St}{b:Hp},zv X (k++kU o K.heap) f b z->aa f b->∃H,H<n/\∃i r h,zv X k r h z/\M i z.heap/\(∀a∈o,h a=Gh)/\W i H r h:=λ{f b}c q=>by obtain⟨m',hm,w7⟩:=hN f b q;refine{m',hm,i+1,f,b,c.Os,l.keep _ _ _ A λa e y m=>(c.pin (a,y) (List.mem_append_right _ (List.mem_append_right _ (Jm e m)))).1,λa e=>?_,w7};obtain⟨y,m,d⟩:=l.obj _ _ A a e;exact(c.pin (a,y) (List.mem_append_right _ (List.mem_append_right _ (Jm e m)))).2.1
  cases ab with
  |next=>obtain⟨f,b,c,q⟩:=j;exact again c q
  |cont=>obtain⟨f,b,c,q⟩:=j;exact again c q
  |brk=>obtain⟨f,b,c,j⟩:=j;exact{f,b,c.Os,j}
  |ret ag=>obtain⟨x7,f,b,c,r7,j⟩:=j;exact{x7,f,b,c.Os,r7,j}
end
theorem Y9(b:Nat->St->Hp->Prop)(k:b 0 σ H)(o:∀i σ H,i<=xs.length->b i σ H->Za K H a xs)
  (r:∀i x σ H,xs[i]?=Ga x->b i σ H->g x σ H λf H2=>tb {D with nx:=b (i+1),ct:=b (i+1),bk:=D.nx} f H2)(l:∀σ H,b xs.length σ H->D.nx σ H):
  ∃W:Nat->Nat->St->Hp->Prop,(∃m,W 0 m σ H)/\∀i m σ H,W i m σ H->
   ((hF K a).stop i H/\D.nx σ H)\/((hF K a).go i H/\∃N:St->Hp->Prop,(∀d c,N d c->∃j,j<m/\W (i+1) j d c)/\∀x c,(hF K a).yld i H x c->g x σ c λf H2=>tb {D with nx:=N,ct:=N,bk:=D.nx} f H2):=by
 exists λi m σ H=>m=xs.length - i/\i<=xs.length/\b i σ H,{xs.length,by simp,Gz _,k};rintro i m σ H ⟨rfl,n,p⟩;have q:=o i σ H n p;by_cases h:i<xs.length
 .refine .inr {{xs,xs[i],q,by simp[h]},b (i+1),λd c j=>{xs.length - (i+1),by ext,Xb,h,j},λx c y=>?_};obtain⟨e,y⟩:=y;subst e;exact r i x σ _ (y xs q) p
 .have e:i=xs.length:=by ext
  subst e;exact .inl {{xs,q,Gm _},l σ H p}
theorem nZ(b:Nat->St->Hp->Prop)(k:b 0 σ H)(o:∀i σ H,i<=xs.length->b i σ H->Q9 K H a xs)
  (r:∀i x σ H,xs[i]?=Ga x->b i σ H->g x σ H λf H2=>tb {D with nx:=b (i+1),ct:=b (i+1),bk:=D.nx} f H2)(l:∀σ H,b xs.length σ H->D.nx σ H):
  ∃W:Nat->Nat->St->Hp->Prop,(∃m,W 0 m σ H)/\∀i m σ H,W i m σ H->
   ((iz K a).stop i H/\D.nx σ H)\/((iz K a).go i H/\∃N:St->Hp->Prop,(∀d c,N d c->∃j,j<m/\W (i+1) j d c)/\∀x c,(iz K a).yld i H x c->g x σ c λf H2=>tb {D with nx:=N,ct:=N,bk:=D.nx} f H2):=by
 exists λi m σ H=>m=xs.length - i/\i<=xs.length/\b i σ H,{xs.length,by simp,Gz _,k};rintro i m σ H ⟨rfl,n,p⟩;have q:=o i σ H n p;by_cases h:i<xs.length
 .refine .inr {{xs,xs[i],q,by simp[h]},b (i+1),λd c j=>{xs.length - (i+1),by ext,Xb,h,j},λx c y=>?_};obtain⟨e,y⟩:=y;subst e;exact r i x σ _ (y xs q) p
 .have e:i=xs.length:=by ext
  subst e;exact .inl {{xs,q,Gm _},l σ H p}
theorem V6{lo:Int}(b:Nat->St->Hp->Prop)(j:b 0 σ H)
  (l:∀i σ H,i<n->b i σ H->g (.int (lo+i)) σ H λf H2=>tb {D with nx:=b (i+1),ct:=b (i+1),bk:=D.nx} f H2)(k:∀σ H,b n σ H->D.nx σ H):
  ∃W:Nat->Nat->St->Hp->Prop,(∃m,W 0 m σ H)/\∀i m σ H,W i m σ H->
   ((jf lo n).stop i H/\D.nx σ H)\/((jf lo n).go i H/\∃N:St->Hp->Prop,(∀d a,N d a->∃h,h<m/\W (i+1) h d a)/\∀x a,(jf lo n).yld i H x a->g x σ a λf H2=>tb {D with nx:=N,ct:=N,bk:=D.nx} f H2):=by
 exists λi m σ H=>m=n - i/\i<=n/\b i σ H,{n,by simp,Gz _,j};rintro i m σ H ⟨rfl,o,p⟩;by_cases c:i<n
 .refine .inr {c,b (i+1),λd a h=>{n - (i+1),by ext,Xb,c,h},λx a y=>?_};obtain⟨e,y⟩:=y;subst e y;exact l i σ _ c p
 .have e:i=n:=by ext
  subst e;exact .inl {Gm _,k σ H p}
abbrev R2:=V->V->Hp->VK->Prop
variable{r:R2}
def Oc(X:Cx)(f:Value->Value->Bh Value)(r:R2):Prop:=
 ∀(zq:List (Gc×Ef))(s:Gk)(σ:St)(H:Hp)(x y:V)(v u:Value)(Q:VK),zv X zq σ H s->zu x v->zu y u->r x y H Q->
  wpAny (Tc X.prog X.w) X.A (f v u) (EP X zq σ Q) X.xe s
def nR(X:Cx)(f:Value->Bh Value)(r:V->Hp->VK->Prop):Prop:=
 ∀(zq:List (Gc×Ef))(s:Gk)(σ:St)(H:Hp)(x:V)(v:Value)(Q:VK),zv X zq σ H s->zu x v->r x H Q->
  wpAny (Tc X.prog X.w) X.A (f v) (EP X zq σ Q) X.xe s
def Um(X:Cx)(f:Value)(r:List V->Hp->VK->Prop):Prop:=
 ∀(zq:List (Gc×Ef))(s:Gk)(σ:St)(H:Hp)(xs:List V)(a:List Value)(Q:VK),zv X zq σ H s->Z2 xs a->r xs H Q->
  wpAny (Tc X.prog X.w) X.A (call f a) (EP X zq σ Q) X.xe s
def Hq(X:Cx)(r:V->Hp->(Bool->Hp->Prop)->Prop):Prop:=
 ∀(zq:List (Gc×Ef))(s:Gk)(σ:St)(H:Hp)(x:V)(v:Value)(Q:Bool->Hp->Prop),zv X zq σ H s->zu x v->r x H Q->
  wpAny (Tc X.prog X.w) X.A (truthy v) (TP X zq σ Q) X.xe s
def tOp(r:R2)(ta tb:TE):TE:=λσ H Q=>ta σ H λx H1=>tb σ H1 λy H2=>r x y H2 Q
def tUn(r:V->Hp->VK->Prop)(ta:TE):TE:=λσ H Q=>ta σ H λx H1=>r x H1 Q
inductive iRI(C:Int->Int->Prop)(g:Int->Int->V)(x:V)(y:V)(H:Hp)(Q:VK):Prop
 |mk (i:_) (j:_) (h0:x=.int i) (h1:y=.int j) (h2:C i j) (h3:Q (g i j) H):iRI C g x y H Q
def rI(C:Int->Int->Prop)(g:Int->Int->V):R2:=λx y H Q=>iRI C g x y H Q
inductive vk(g:Int->Int->V)(x:V)(y:V)(H:Hp)(Q:VK):Prop
 |mk (i:_) (j:_) (h0:x=.int i) (h1:y=.int j) (h2:Q (g i j) H):vk g x y H Q
def rI0(g:Int->Int->V):R2:=λx y H Q=>vk g x y H Q
inductive iRU(g:Int->V)(x:V)(H:Hp)(Q:VK):Prop
 |mk (i:_) (h0:x=.int i) (h1:Q (g i) H):iRU g x H Q
def rU(g:Int->V):V->Hp->VK->Prop:=λx H Q=>iRU g x H Q
section
variable{X:Cx}{a b c:TZ}{ta tb tc:TE}{pos:SV}
theorem pR(j:PE X a ta)(k:PE X b tb){R:V->V->Hp->Prop}(I:zv X zq σ H s)
  (h:ta σ H λx H1=>tb σ H1 λy H2=>R x y H2)
  (l:∀v u e x y H2,zv X zq σ H2 e->zu x v->zu y u->R x y H2->wpAny (Tc X.prog X.w) X.A (f v u) Q X.xe e):
  wpAny (Tc X.prog X.w) X.A (eval a X.env) (λv c=>wpAny (Tc X.prog X.w) X.A (eval b X.env) (λu d=>wpAny (Tc X.prog X.w) X.A (f v u) Q X.xe d) X.xe c) X.xe s:=by
 refine Yx (j zq s σ H _ I h) λv q⟨x,H1,g,o,m⟩=>?_;refine Yx (k zq q σ H1 _ g m) λu e⟨y,H2,i,p,n⟩=>?_;exact l v u e x y H2 i o p n
theorem Zt{d:Operator}(j:Oc X (binaryOp d) r)(g:PE X a ta)(i:PE X b tb):PE X (.BinOp a d b pos) (tOp r ta tb):=by intro c s n H Q I h;exact wpAny_BinOp (pR g i I h λv u m x y e f k l q=>j c m n e x y v u Q f k l q)
theorem Jf{c:UnaryOp}{r:V->Hp->VK->Prop}(i:nR X (unaryOp c) r)(g:PE X a ta):PE X (.UnaryOp c a pos) (tUn r ta):=by intro b s d H Q I h;exact UnaryOp_ (Yx (g b s d H _ I h) λv l⟨x,e,f,k,j⟩=>i b l d e x v Q f k j)
theorem opI{C:Int->Int->Prop}{g:Int->Int->Int}
  (rule:∀(i j:Int)(t u:Bg)(s:Gk)(Q:Value->Gk->Prop)(E:Value->Gk->Prop),C i j->Q (.int (g i j) s.toks) {s with toks:=s.toks+1}->wpAny (Tc X.prog X.w) X.A (f (.int i t) (.int j u)) Q E s):
  Oc X f (rI C λi j=>.int (g i j)):=by
 intro a s k H x y v u Q I c d h;obtain⟨i,j,rfl,rfl,b,q⟩:=h;obtain⟨t,rfl⟩:=c;obtain⟨e,rfl⟩:=d;exact rule i j t e s _ _ b {.int (g i j),H,I.tok _,{_,Xb},q}
theorem yW{g:Int->Int->Int}
  (rule:∀(i j:Int)(t u:Bg)(s:Gk)(Q:Value->Gk->Prop)(E:Value->Gk->Prop),Q (.int (g i j) s.toks) {s with toks:=s.toks+1}->wpAny (Tc X.prog X.w) X.A (f (.int i t) (.int j u)) Q E s):
  Oc X f (rI0 λi j=>.int (g i j)):=by
 intro a s e H x y v u Q I b c h;obtain⟨i,j,rfl,rfl,q⟩:=h;obtain⟨t,rfl⟩:=b;obtain⟨d,rfl⟩:=c;exact rule i j t d s _ _ {.int (g i j),H,I.tok _,{_,Xb},q}
theorem lM{g:Int->Int->Bool}
  (rule:∀(i j:Int)(t u:Bg)(s:Gk)(Q:Value->Gk->Prop)(E:Value->Gk->Prop),Q (.bool (g i j)) s->wpAny (Tc X.prog X.w) X.A (f (.int i t) (.int j u)) Q E s):
  Oc X f (rI0 λi j=>.bl (g i j)):=by
 intro a s e H x y v u Q I b c h;obtain⟨i,j,rfl,rfl,q⟩:=h;obtain⟨t,rfl⟩:=b;obtain⟨d,rfl⟩:=c;exact rule i j t d s _ _ {.bl (g i j),H,I,Xb,q}
def qJ(i j:Int):Prop:=0<j/\j<1073741824
def Br(i j:Int):Prop:=0<=j/\j<=1000000/\i.natAbs<2^64
def nz(i j:Int):Prop:=(-(2^64)<i/\i<2^64)\/(-(2^64)<j/\j<2^64)
theorem nz.ok{i j:Int}(h:nz i j):IntMulOk i j:=by
 rcases h with⟨a,b⟩|⟨a,b⟩
 .exact .of_left (Me a b)
 .exact .of_right (Me a b)
theorem R7:Oc X (binaryOp .Add) (rI0 λi j=>.int (i+j)):=yW λ_ _ _ _ _ _ _ q=>add_int q
theorem jz:Oc X (binaryOp .Sub) (rI0 λi j=>.int (i - j)):=yW λ_ _ _ _ _ _ _ q=>sub_int q
theorem xt:Oc X (binaryOp .Mult) (rI nz λi j=>.int (i*j)):=opI λ_ _ _ _ _ _ _ a q=>mul_int q a.ok
theorem W9:Oc X (binaryOp .FloorDiv) (rI qJ λi j=>.int (i / j)):=opI λi j _ _ _ _ _ a q=>by have b:(0:Int)<j:=a.1;have c:j<1073741824:=a.2;exact floordiv_int (by ext) (by rw[Int.fdiv_eq_ediv_of_nonneg i (by ext)];exact q) (.inl (SN (by ext)))
theorem Va:Oc X (binaryOp .Mod) (rI (λ_ j=>0<j) λi j=>.int (i % j)):=opI λi j _ _ _ _ _ a q=>by have b:(0:Int)<j:=a;exact mod_int' (by ext) (by rw[Int.fmod_eq_emod_of_nonneg i (by ext)];exact q)
theorem uU:Oc X (binaryOp .Pow) (rI Br λi j=>.int (i^j.toNat)):=opI λ_ _ _ _ _ _ _ a q=>pow_int_small a.1 a.2.1 a.2.2 q
theorem unI{f:Value->Bh Value}{g:Int->Int}
  (rule:∀(i:Int)(t:Bg)(s:Gk)(Q:Value->Gk->Prop)(E:Value->Gk->Prop),Q (.int (g i) s.toks) {s with toks:=s.toks+1}->wpAny (Tc X.prog X.w) X.A (f (.int i t)) Q E s):
  nR X f (rU λi=>.int (g i)):=by
 intro a s c H x v Q I b h;obtain⟨i,rfl,q⟩:=h;obtain⟨t,rfl⟩:=b;exact rule i t s _ _ {.int (g i),H,I.tok _,{_,Xb},q}
theorem Vn:nR X (unaryOp .USub) (rU λi=>.int (-i)):=unI λ_ _ _ _ _ q=>neg_int q
end
def yM:V->V->Bool
 |.non,.non=>Gf|.non,.int _=>Gf|.int _,.non=>Gf|.non,.bl _=>Gf|.bl _,.non=>Gf|.non,.str _=>Gf|.str _,.non=>Gf
 |.int _,.int _=>Gf|.bl _,.bl _=>Gf|.str _,.str _=>Gf|.byt _,.byt _=>Gf
 |.int _,.str _=>Gf|.str _,.int _=>Gf|.bl _,.str _=>Gf|.str _,.bl _=>Gf
 |_,_=>Gs
def rEq:R2:=λx y H Q=>yM x y=Gf/\Q (.bl (decide (x=y))) H
def rNe:R2:=λx y H Q=>yM x y=Gf/\Q (.bl (!decide (x=y))) H
theorem Ux{i j:Int}:decide (V.int i=V.int j)=(i==j):=by rw[EC];simp
theorem y7{i j:Bool}:decide (V.bl i=V.bl j)=(i==j):=by rw[EC];simp
theorem Zb{i j:Tb}:decide (V.str i=V.str j)=(i==j):=by rw[EC];simp
theorem xi{i j:Array UInt8}:decide (V.byt i=V.byt j)=(i.toList==j.toList):=by rw[EC];cases i;cases j;simp
section
variable{X:Cx}{a b c:TZ}{ta tb tc:TE}{pos:SV}
theorem Ya{Q:VK}{k a:Bool}(I:zv X zq σ H s)(q:Q (.bl k) H)(e:k=a):EP X zq σ Q (.bool a) s:=by subst e;exact{.bl k,H,I,Xb,q}
theorem Xn:Oc X (T6 .Eq) rEq:=by
 intro e s f H x y v u Q I d a h;obtain⟨c,q⟩:=h;cases x with
 |non=>
  cases d;cases y with
  |non=>cases a;exact FM (Ya I q (by simp))
  |bl j=>cases a;exact FN (Ya I q (by simp))
  |int j=>obtain⟨b,rfl⟩:=a;exact Mf (Ya I q (by simp))
  |str j=>obtain⟨b,rfl⟩:=a;exact Mg (Ya I q (by simp))
  |_=>exact absurd (show Gs=Gf from c) GJ
 |bl i=>
  cases d;cases y with
  |non=>cases a;exact FP (Ya I q (by simp))
  |bl j=>cases a;exact eq_bool (Ya I q y7)
  |str j=>obtain⟨b,rfl⟩:=a;exact FQ (Ya I q (by simp))
  |_=>exact absurd (show Gs=Gf from c) GJ
 |int i=>
  obtain⟨t,rfl⟩:=d;cases y with
  |non=>cases a;exact Mh (Ya I q (by simp))
  |int j=>obtain⟨b,rfl⟩:=a;exact eq_int (Ya I q Ux)
  |str j=>obtain⟨b,rfl⟩:=a;exact Mi (Ya I q (by simp))
  |_=>exact absurd (show Gs=Gf from c) GJ
 |str i=>
  obtain⟨t,rfl⟩:=d;cases y with
  |non=>cases a;exact Mj (Ya I q (by simp))
  |bl j=>cases a;exact FR (Ya I q (by simp))
  |int j=>obtain⟨b,rfl⟩:=a;exact Ml (Ya I q (by simp))
  |str j=>obtain⟨b,rfl⟩:=a;exact eq_str (Ya I q Zb)
  |_=>exact absurd (show Gs=Gf from c) GJ
 |byt i=>
  obtain⟨t,rfl⟩:=d;cases y with
  |byt j=>obtain⟨b,rfl⟩:=a;exact RF (Ya I q xi)
  |_=>exact absurd (show Gs=Gf from c) GJ
 |_=>cases y<;>exact absurd (show Gs=Gf from c) GJ
theorem Uc:Oc X (T6 .NotEq) rNe:=by
 intro e s f H x y v u Q I d a h;obtain⟨c,q⟩:=h;cases x with
 |non=>
  cases d;cases y with
  |non=>cases a;exact FS (Ya I q (by simp))
  |bl j=>cases a;exact FT (Ya I q (by simp))
  |int j=>obtain⟨b,rfl⟩:=a;exact Mm (Ya I q (by simp))
  |str j=>obtain⟨b,rfl⟩:=a;exact Mn (Ya I q (by simp))
  |_=>exact absurd (show Gs=Gf from c) GJ
 |bl i=>
  cases d;cases y with
  |non=>cases a;exact FU (Ya I q (by simp))
  |bl j=>cases a;exact ne_bool (Ya I q (congrArg not y7))
  |str j=>obtain⟨b,rfl⟩:=a;exact FW (Ya I q (by simp))
  |_=>exact absurd (show Gs=Gf from c) GJ
 |int i=>
  obtain⟨t,rfl⟩:=d;cases y with
  |non=>cases a;exact Mo (Ya I q (by simp))
  |int j=>obtain⟨b,rfl⟩:=a;exact ne_int (Ya I q (congrArg not Ux))
  |str j=>obtain⟨b,rfl⟩:=a;exact Mq (Ya I q (by simp))
  |_=>exact absurd (show Gs=Gf from c) GJ
 |str i=>
  obtain⟨t,rfl⟩:=d;cases y with
  |non=>cases a;exact Mr (Ya I q (by simp))
  |bl j=>cases a;exact FX (Ya I q (by simp))
  |int j=>obtain⟨b,rfl⟩:=a;exact Ms (Ya I q (by simp))
  |str j=>obtain⟨b,rfl⟩:=a;exact ne_str (Ya I q (congrArg not Zb))
  |_=>exact absurd (show Gs=Gf from c) GJ
 |byt i=>
  obtain⟨t,rfl⟩:=d;cases y with
  |byt j=>obtain⟨b,rfl⟩:=a;exact RG (Ya I q (congrArg not xi))
  |_=>exact absurd (show Gs=Gf from c) GJ
 |_=>cases y<;>exact absurd (show Gs=Gf from c) GJ
theorem Vg:Oc X (T6 .Lt) (rI0 λi j=>.bl (decide (i<j))):=lM λ_ _ _ _ _ _ _ q=>lt_int q
theorem lK:Oc X (T6 .LtE) (rI0 λi j=>.bl (decide (i<=j))):=lM λ_ _ _ _ _ _ _ q=>le_int q
theorem jY:Oc X (T6 .Gt) (rI0 λi j=>.bl (decide (j<i))):=lM λ_ _ _ _ _ _ _ q=>gt_int q
theorem jU:Oc X (T6 .GtE) (rI0 λi j=>.bl (decide (j<=i))):=lM λ_ _ _ _ _ _ _ q=>ge_int q
theorem FB:Oc X (T6 .Is) (λx y H Q=>y=.non/\Q (.bl (decide (x=.non))) H):=by
 intro a s d H x y v u Q I b c h;obtain⟨rfl,q⟩:=h;cases c;refine is_none_gen (Ya I q ?_);cases x<;>first
  |(cases b;rfl)
  |(obtain⟨t,rfl⟩:=b;rfl)
theorem Oy:Oc X (T6 .IsNot) (λx y H Q=>y=.non/\Q (.bl (!decide (x=.non))) H):=by
 intro a s d H x y v u Q I b c h;obtain⟨rfl,q⟩:=h;cases c;refine FC (Ya I q ?_);cases x<;>first
  |(cases b;rfl)
  |(obtain⟨t,rfl⟩:=b;rfl)
theorem Qr(b:TZ)(h:op≠.In:=by decide)(d:op≠.NotIn:=by decide):behindInMarks op b=Gs:=by
 have a:(op==Ba)=Gs:=by cases op<;>first|rfl|exact absurd rfl h
 have c:(op==Nh)=Gs:=by cases op<;>first|rfl|exact absurd rfl d
 cases b<;>simp[behindInMarks,a,c]
theorem W0(j:Oc X (T6 op) r)(f:PE X a ta)(g:PE X b tb)(i:behindInMarks op b=Gs):PE X (.Compare a [op] [b] pos) (tOp r ta tb):=by intro c s n H Q I h;exact wpAny_Compare1 (pR f g I h λv u m x y d e k l q=>j c m n d x y v u Q e k l q) i
inductive vh(Q:Bool->Hp->Prop)(x:V)(H':Hp):Prop
 |mk (k:_) (h0:x=.bl k) (h1:Q k H'):vh Q x H'
def xI(t:TE):TT:=λσ H Q=>t σ H λx H'=>vh Q x H'
theorem Qn(t:Oc X (T6 op) r)(o:PE X a ta)(p:PE X b tb)(q:behindInMarks op b=Gs):PT X (.Compare a [op] [b] pos) (xI (tOp r ta tb)):=by
 intro d s f H Q I h;refine S0 (Yx (o d s f H _ I h) λv F⟨x,g,l,C,w⟩=>Yx (p d F f g _ l w) λu G⟨y,i,m,D,A⟩=>Yx (t d G f i x y v u _ m C D A) λc J⟨z,j,n,E,k,e,B⟩=>?_) q
 subst e;cases E;exact Du ⟨j,n,B⟩
inductive rZ(r':R2)(tc:TE)(σ:St)(Q:VK)(y:V)(z:V)(H3:Hp):Prop
 |mk (k:_) (h0:z=.bl k) (h1:(if k=Gf then tc σ H3 λw' H4=>r' y w' H4 Q else Q (.bl Gs) H3)):rZ r' tc σ Q y z H3
def Hr(r b:R2)(ta tb tc:TE):TE:=λσ H Q=>ta σ H λx H1=>tb σ H1 λy H2=>r x y H2 λz a=>rZ b tc σ Q y z a
theorem Bw{g:CmpOp}{o:R2}(M:Oc X (T6 op) r)(j:Oc X (T6 g) o)(G:PE X a ta)(J:PE X b tb)(K:PE X c tc)
  (L:lastMarks [op,g] [b,c]=Gs:=by with_unfolding_all rfl):PT X (.Compare a [op,g] [b,c] pos) (xI (Hr r o ta tb tc)):=by
 intro f s i H Q I h;refine isTrue_chain (Yx (G f s i H _ I h) λv V⟨x,q,B,R,N⟩=>test_link (Yx (J f V i q _ B N) λu W⟨y,t,C,p,O⟩=>Yx (M f W i t x y v u _ C R p O) λd Y⟨z,l,m,S,k,e,n⟩=>?_)) L
 subst e;cases S;refine Du ?_;cases k with
 |false=>obtain⟨D,w,A⟩:=n;cases w;exact ite_ff ⟨l,m,A⟩
 |true=>refine ite_tt (test_last (Yx (K f Y i l _ m n) λZ s4⟨z',w,D,T,P⟩=>Yx (j f s4 i w y z' u Z _ D p T P) λd' s5⟨z2,A,E,U,k2,F,Q⟩=>?_));subst F;cases U;exact Du ⟨A,E,Q⟩
def y9(K:Gd)(x:V)(H:Hp)(k:Bool):Prop:=
 match x with
 |.non=>k=Gs
 |.bl b=>k=b
 |.int i=>k=(i !=0)
 |.str y=>y.length<=Gj/\k=((y.length:Int) !=0)
 |.byt y=>y.size<=Gj/\k=((y.size:Int) !=0)
 |.ref p=>(∃xs,Za K H p xs/\k= !xs.isEmpty)\/(∃xs,Q9 K H p xs/\k= !xs.isEmpty)\/∃zw,H p=Ga (.dK zw)/\k= !zw.isEmpty
 |_=>False
theorem PB{c:Type}{a:List (c×V)}{b:List (c×Value)}(r:KV a b):(!b.isEmpty)= !a.isEmpty:=by cases r<;>rfl
theorem rT{a:List Value}(r:Z2 xs a):(!a.toArray.isEmpty)= !xs.isEmpty:=by cases r<;>simp
theorem Ob:(Gj:Nat)<2^63:=by rw[GV];decide
theorem yi:Hq X (λx H Q=>∃k,y9 X.K x H k/\Q k H):=by
 intro u s C H x v Q I f h;obtain⟨k,e,q⟩:=h;have A:=Ob;have B:Gj=16777216:=GV;cases x with
 |non=>cases f;have a:k=Gs:=e;subst a;exact truthy_none ⟨H,I,q⟩
 |bl b=>cases f;have a:k=b:=e;subst a;exact Du ⟨H,I,q⟩
 |int i=>obtain⟨t,rfl⟩:=f;have a:k=(i !=0):=e;subst a;exact NH ⟨H,I,q⟩
 |str y=>obtain⟨t,rfl⟩:=f;obtain⟨z,a⟩:y.length<=Gj/\k=((y.length:Int) !=0):=e;subst a;exact NI (by lia) {H,I.tok _,q}
 |byt y=>obtain⟨t,rfl⟩:=f;obtain⟨z,a⟩:y.size<=Gj/\k=((y.size:Int) !=0):=e;subst a;exact Nl (by lia) {H,I.tok _,q}
 |ref p=>
  cases f;have a:(∃d,Za X.K H p d/\k= !d.isEmpty)\/(∃d,Q9 X.K H p d/\k= !d.isEmpty)\/∃b,H p=Ga (.dK b)/\k= !b.isEmpty:=e;rcases a with⟨d,g,a⟩|⟨d,g,a⟩|⟨b,g,a⟩
  .subst a;obtain⟨l,r,n,o⟩:=I.list g;have c:=r.length;exact wpAny_truthy_list n.isList (by simp only[List.size_toArray];lia) {H,I.tok _,by rw[rT r];exact q}
  .subst a;obtain⟨l,r,n,o⟩:=I.tuple g;have c:=r.length;exact truthy_tuple n (by simp only[List.size_toArray];lia) {H,I.tok _,by rw[rT r];exact q}
  .subst a;obtain⟨o,w,j,r,m⟩:b.length<=Gj/\(p==T8)=Gs/\∃j,KV b j/\s.heap.DictOf (Yt X.prog X.w) p j:=I.Z3 p _ g;have c:b.length=j.length:=Gq r;exact wpAny_truthy_dict w m (by lia) {H,I.tok _,by rw[PB r];exact q}
 |_=>exact(show False from e).elim
theorem xB(e:PE X a ta)(f:∀b,isTrue a X.env b=(do let v<-b;standAt a.pos;holding [v] (truthy v))):
  PT X a (λσ H Q=>ta σ H λx H'=>∃k,y9 X.K x H' k/\Q k H'):=by
 intro c s σ H Q I h;exact MR (Yx (e c s σ H _ I h) λv j⟨x,b,d,i,g⟩=>yi c j σ b x v Q d i g) (f _)
theorem HW:Oc X (binaryOp .Add) (λx y H Q=>∃i j,x=.str i/\y=.str j/\i.length+j.length<=Gj/\Q (.str (i++j)) H):=by intro a s g H x y v u Q I c d h;obtain⟨i,j,rfl,rfl,b,q⟩:=h;obtain⟨t,rfl⟩:=c;obtain⟨e,rfl⟩:=d;exact add_str (λe f=>{.str (i++j),H,I.tok _,{_,Xb},q}) b
theorem vals1{x:V}(r:Z2 [x] us):∃u,us=[u]/\zu x u:=by
 cases r with
 |cons a b=>cases b;exact{_,Xb,a}
theorem vals2{x y:V}(r:Z2 [x,y] us):∃u a,us=[u,a]/\zu x u/\zu y a:=by
 cases r with
 |cons b c=>
  cases c with
  |cons d e=>cases e;exact{_,_,Xb,b,d}
theorem AD:Um X (.builtin "abs") (λxs H Q=>∃i,xs=[.int i]/\Q (.int (if i<0 then -i else i)) H):=by intro a s d H xs c Q I r h;obtain⟨i,rfl,q⟩:=h;obtain⟨u,rfl,t,rfl⟩:=vals1 r;exact call_abs_int λu b=>{.int (if i<0 then -i else i),H,I.tok _,{_,Xb},q}
theorem zF(c:X.calm=Gf):Um X (.builtin "min") (λxs H Q=>∃i j,xs=[.int i,.int j]/\Q (.int (if j<i then j else i)) H):=by
 intro b s m H xs g Q I r h;obtain⟨i,j,rfl,q⟩:=h;obtain⟨u,l,rfl,⟨t,rfl⟩,⟨e,rfl⟩⟩:=vals2 r;refine min_two_ints (I.ok.hd c) λd f k=>{_,H,I.kept k,?_,q};by_cases a:j<i
 .rw[Gp a,Gp a];exact{_,Xb}
 .rw[Gi a,Gi a];exact{_,Xb}
theorem Ad:Um X (.type "int") (λxs H Q=>(∃i,xs=[.int i]/\Q (.int i) H)\/∃k,xs=[.bl k]/\Q (.int (if k then 1 else 0)) H):=by
 intro a s d H xs c Q I r h;rcases h with⟨i,rfl,q⟩|⟨k,rfl,q⟩
 .obtain⟨u,rfl,t,rfl⟩:=vals1 r;exact call_int_int {.int i,H,I,{_,Xb},q}
 .obtain⟨u,rfl,b⟩:=vals1 r;cases b;exact call_int_bool {.int (if k then 1 else 0),H,I.tok _,{_,Xb},q}
def Kv(K:Gd)(x:V)(H:Hp)(n:Nat):Prop:=
 match x with
 |.str y=>y.length<=Gj/\n=y.length
 |.byt y=>y.size<=Gj/\n=y.size
 |.ref p=>(∃xs,Za K H p xs/\n=xs.length)\/∃xs,Q9 K H p xs/\n=xs.length
 |_=>False
theorem Zm:Um X (.builtin "len") (λxs H Q=>∃x n,xs=[x]/\Kv X.K x H n/\Q (.int n) H):=by
 intro j s w H xs v Q I r h;obtain⟨x,n,rfl,e,q⟩:=h;obtain⟨u,rfl,i⟩:=vals1 r;have m:=Ob;have o:Gj=16777216:=GV;cases x with
 |str y=>obtain⟨t,rfl⟩:=i;obtain⟨k,b⟩:y.length<=Gj/\n=y.length:=e;subst b;exact len_str (by ext) {.int _,H,I.tok _,{_,Xb},q}
 |byt y=>obtain⟨t,rfl⟩:=i;obtain⟨k,b⟩:y.size<=Gj/\n=y.size:=e;subst b;exact NT (by ext) {.int _,H,I.tok _,{_,Xb},q}
 |ref p=>
  cases i;have b:(∃xs,Za X.K H p xs/\n=xs.length)\/∃xs,Q9 X.K H p xs/\n=xs.length:=e;rcases b with⟨xs,c,b⟩|⟨xs,c,b⟩
  .subst b;obtain⟨d,g,f,l⟩:=I.list c;have a:=g.length;exact Lp f.isList (by simp only[List.size_toArray];ext) {.int xs.length,H,I.tok _,{_,by simp only[List.size_toArray];rw[a]},q}
  .subst b;obtain⟨d,g,f,l⟩:=I.tuple c;have a:=g.length;exact len_tuple f (by simp only[List.size_toArray];ext) {.int xs.length,H,I.tok _,{_,by simp only[List.size_toArray];rw[a]},q}
 |_=>exact(show False from e).elim
end
structure iR(h:Heap)(x dx C:Gc)(mA:Tb->Option Value):Prop where
 obj:h.get? x=Ga (DP C dx)
 ns:h.Ns1 dx mA
 ne:dx≠x
theorem Bx{h:Heap}{d:Gc}{g:Tb->Option Value}(n:h.Ns1 d g):∃i,h.get? d=Ga i/\∀b,Sc b i=Ga (g b):=by
 obtain⟨o,f,s,p,k,l,_,m⟩:=n;refine{o,p,λb=>?_};have e:=m b;unfold nsFind findBy at e;rw[<-Array.find?_toList]at e;unfold Sc;rw[k];dsimp only;split
 .rename_i y q
  rw[q]at e;exact congrArg Ga e
 .rename_i q
  rw[q]at e;have a:f.toList.any (·.refKey)=Gs:=by rw[List.any_eq_false];intro y r;obtain⟨z,t,c⟩:=l y (Array.mem_toList_iff.mp r);simp[RH,c]
  have j:¬f.toList.any (·.refKey)=Gf:=by rw[a];exact GJ
  rw[Gi j];exact congrArg Ga e
theorem iR.look{h:Heap}{x c:Gc}{d:Tb->Option Value}(I:iR h x c C d):∃b,Bc h x (DP C c) C (Ga b)/\∀a,Sc a b=Ga (d a):=
 let⟨b,ho,hl⟩:=Bx I.ns
 {b,{I.obj,Xb,Xb,ho},hl}
section
variable{prog:Gg}{w:Gu}{A:TQ}{E:Value->Gk->Prop}{s:Gk}{K:Gd}{x dx C f:Gc}{mA:Tb->Option Value}{name:Tb}{v:Value}
theorem KY{a:Bool}(X:K.In s.heap)(I:iR s.heap x dx C mA)(d:Dm K C name=Gf)(e:Ds K C=Gf)
  (c:GY K (.ref C) name=Ga Gh)(g:mA name=Ga v)(b:Ff v=Gf)(h:Q v {s with toks:=s.toks+1}):
  wpAny (Tc prog w) A (getAttr (.ref x) name a) Q E s:=by
 obtain⟨i,J,f⟩:=I.look;exact NU X J (E4 d).1 (Nx e c rfl (by rw[f,g])) b h
theorem Cc{Q:Value×List Value->Gk->Prop}(X:K.In s.heap)(I:iR s.heap x dx C mA)(a:Dm K C name=Gf)
  (b:GY K (.ref C) name=Ga (Ga (.ref f)))(d:To K (.ref f)=Gf)(e:mA name=Gh)(h:Q (.ref f,[.ref x]) s):
  wpAny (Tc prog w) A (getMethod (.ref x) name pl) Q E s:=by
 obtain⟨g,J,c⟩:=I.look;exact NV X J (E4 a).1 (E4 a).2 b (Sd.mp d) (by show(Sc name g).map (·.isSome)=Ga Gs;rw[c,e];rfl) h
theorem HA{j:List Tb}{Q:Unit->Gk->Prop}(X:K.In s.heap)(I:iR s.heap x dx C mA)
  (p:GY K (.ref C) "__setattr__"=Ga (Ga (.builtin "object.__setattr__")))(o:DN K C=Gf)(r:SW K C name=Ga Gh)(n:Ds K C=Gf)
  (hw:LN mA j)(q:j.length<=Gj)
  (h:∀d,iR d x dx C (λy=>if y=name then Ga v else mA y)->Heap.SameBut dx s.heap d->Q () {s with heap:=d,toks:=s.toks+2}):
  wpAny (Tc prog w) A (setAttr (.ref x) name v) Q E s:=by
 obtain⟨B,J,q⟩:=I.look;refine NW X J p (RI (s:={s with toks:=s.toks+1}) (r:=Gh) X J o r λb=>?_);obtain⟨u,m,f⟩:=RJ n;have t:s.heap.get? x=Ga {.ref C,Ga dx,.plain,#[]}:=I.obj;refine Gb (Ge (Gb (Gb (wpAny_loadPart t (Gb (NJ (s:={s with toks:=s.toks+1}) (Ny X m) ?_))))));rw[f];refine Ge (a:=Ga dx) (Gb (Ge (Gb ?_)));refine wpAny_nsSet1 (s:={s with toks:=s.toks+1}) I.ns λd a c=>?_;obtain⟨z,l,k,i,g,e⟩:=a.count (NX name v hw);refine Gb (wpAny_lookBehind i (by rw[g];exact pastItsLine_dict (Tw e (by rw[List.length_cons];ext))) ?_);exact Ge (h _ {(c.2 _ (Gn I.ne)).trans I.obj,a,I.ne} c)
theorem JY{R:MU->Gk->Prop}{b:List Value}(X:K.In s.heap)(i:DX K C=Gf)
  (e:GY K (.ref C) "__init__"=Ga (Ga (.ref f)))(c:Bd K (.ref f)=Ga (.type "function"))
  (h:codeAny (Tc prog w) (A.under (.builtin "type.__call__" {.ref C::b,kw})) (.call (.ref f) {.ref (s.heap.objs.size+1)::b,kw}) (RK (s.heap.objs.size+1) R)
   {s with heap:=(s.heap.push Dj).push (DP C s.heap.objs.size)}):
  codeAny (Tc prog w) A (.call (.ref C) ⟨b,kw⟩) R s:=by
 obtain⟨a,g,d,t,os⟩:=s;exact NY (RL X i) (Nm X e) (λa=>RX X a c) (.inl Xb) h
end
def Yo(f:Tb)(v:V):List (Tb×V)->List (Tb×V)
 |[]=>[(f,v)]
 |(g,x)::r=>if g=f then(g,v)::r else(g,x)::Yo f v r
theorem tF(f g:Tb)(v:V):∀c:List (Tb×V),(Yo f v c).lookup g=if g=f then Ga v else c.lookup g
 |[]=>by
  show List.lookup g [(f,v)]=_;by_cases h:g=f
  .have a:(g==f)=Gf:=Sd.mpr h;simp only[List.lookup,a,Gp h]
  .have a:(g==f)=Gs:=Dy.mpr h;simp only[List.lookup,a,Gi h]
 |(k,x)::r=>by
  have d:=tF f g v r;rw[show Yo f v ((k,x)::r)=(if k=f then(k,v)::r else(k,x)::Yo f v r)from rfl];by_cases b:k=f
  .rw[Gp b];by_cases h:g=k
   .have a:(g==k)=Gf:=Sd.mpr h;simp only[List.lookup,a,Gp (h.trans b)]
   .have a:(g==k)=Gs:=Dy.mpr h;simp only[List.lookup,a,Gi (λe:g=f=>h (e.trans b.symm))]
  .rw[Gi b];by_cases h:g=k
   .have a:(g==k)=Gf:=Sd.mpr h;simp only[List.lookup,a,Gi (λe:g=f=>b (h.symm.trans e))]
   .have a:(g==k)=Gs:=Dy.mpr h;simp only[List.lookup,a];exact d
theorem qz(f:Tb)(v:V):∀a:List (Tb×V),f∈(Yo f v a).map (·.1)/\∀g,g∈a.map (·.1)->g∈(Yo f v a).map (·.1)
 |[]=>{by simp[Yo],λg h=>by simp at h}
 |(k,x)::r=>by
  obtain⟨c,d⟩:=qz f v r;rw[show Yo f v ((k,x)::r)=(if k=f then(k,v)::r else(k,x)::Yo f v r)from rfl];by_cases b:k=f
  .rw[Gp b];subst b;exact{by simp,λg h=>by simpa using h}
  .rw[Gi b];refine{?_,λg h=>?_}
   .rw[List.map_cons];exact List.mem_cons_of_mem _ c
   .rw[List.map_cons]at h⊢;rcases List.mem_cons.mp h with e|e
    .exact List.mem_cons.mpr (.inl e)
    .exact List.mem_cons_of_mem _ (d g e)
theorem yb(f:Tb)(v:V):∀a:List (Tb×V),(Yo f v a).length<=a.length+1
 |[]=>by simp[Yo]
 |(k,x)::r=>by
  have c:=yb f v r;rw[show Yo f v ((k,x)::r)=(if k=f then(k,v)::r else(k,x)::Yo f v r)from rfl];by_cases b:k=f
  .rw[Gp b,List.length_cons,List.length_cons];lia
  .rw[Gi b,List.length_cons,List.length_cons];lia
theorem Ib.some_of{o:Option Value}(r:Ib (Ga v) o):∃u,o=Ga u/\zu v u:=by
 cases o with
 |none=>exact(show False from r).elim
 |some u=>exact⟨u,Xb,r⟩
theorem Ib.none_of{o:Option Value}(r:Ib Gh o):o=Gh:=by
 cases o with
 |none=>rfl
 |some u=>exact(show False from r).elim
theorem z9(r:zu v u):Ff u=Gf:=by
 cases v with
 |non=>cases(show u=Value.none from r);rfl
 |bl b=>cases(show u=Value.bool b from r);rfl
 |int i=>obtain⟨t,e⟩:=(show∃t,u=Value.int i t from r);cases e;rfl
 |str x=>obtain⟨t,e⟩:=(show∃t,u=Value.str x t from r);cases e;rfl
 |byt b=>obtain⟨t,e⟩:=(show∃t,u=Value.bytes b t from r);cases e;rfl
 |flt b=>obtain⟨t,e⟩:=(show∃t,u=Value.float b t from r);cases e;rfl
 |ref a=>cases(show u=Value.ref a from r);rfl
 |ty n=>cases(show u=Value.type n from r);rfl
section
variable{P:Gg}{w:Gu}{H H':Hp}{h h':Heap}{a C dx:Gc}{fs fs':List (Tb×V)}
theorem ma(c:Rp P w H h)(e:H a=Ga (.ins C dx fs)):∃b,iR h a dx C b/\(∀f,Ib (fs.lookup f) (b f))/\LN b (fs.map (·.1))/\fs.length<=1000/\H dx=Ga (.own a):=by obtain⟨d,z,f,g,b,n,r,q⟩:=(show Ym P w H h a (.ins C dx fs)from c a _ e);exact{b,⟨g,n,f⟩,r,q,z,d}
end
structure gJ(K:Gd)(C:Gc):Prop where
 pg:Dm K C Em=Gf
 hd:Ds K C=Gf
 po:DN K C=Gf
 sa:GY K (.ref C) "__setattr__"=Ga (Ga (.builtin "object.__setattr__"))
theorem gJ.get(c:gJ K C)(f:Tb):Dm K C f=Gf:=c.pg
def Yv(K:Gd)(C:Gc)(f:Tb):Prop:=GY K (.ref C) f=Ga Gh
theorem Yv.IT{f:Tb}(n:Yv K C f):SW K C f=Ga Gh:=by unfold SW;rw[show GY K (.ref C) f=Ga Gh from n];rfl
structure Ye(K:Gd)(C:Gc)(m:Tb)(f:Gc):Prop where
 at_:GY K (.ref C) m=Ga (Ga (.ref f))
 fn:To K (.ref f)=Gf
 kp:TU K (.ref f)=Gf
section
variable{X:Cx}{zq:List (Gc×Ef)}{σ:St}{H:Hp}{s:Gk}{a C dx:Gc}{fs:List (Tb×V)}{f:Tb}{v:V}{A:TQ}{E:Value->Gk->Prop}
theorem Pk{b:Bool}(I:zv X zq σ H s)(e:H a=Ga (.ins C dx fs))(c:gJ X.K C)(n:Yv X.K C f)(l:fs.lookup f=Ga v)
  (h:∀u g,zv X zq σ H g->zu v u->Q u g):wpAny (Tc X.prog X.w) A (getAttr (.ref a) f b) Q E s:=by
 obtain⟨j,O,r,_,_,_⟩:=ma I.Z3 e;obtain⟨u,i,d⟩:=Ib.some_of (v:=v) (o:=j f) (by rw[<-l];exact r f);exact KY I.kIn O (c.get f) c.hd n i (z9 d) (h u _ (I.tok _) d)
theorem R5{m:Tb}{g:Gc}{Q:Value×List Value->Gk->Prop}(I:zv X zq σ H s)(e:H a=Ga (.ins C dx fs))(c:gJ X.K C)(k:Ye X.K C m g)(l:fs.lookup m=Gh)
  (h:Q (.ref g,[.ref a]) s):wpAny (Tc X.prog X.w) A (getMethod (.ref a) m pl) Q E s:=by
 obtain⟨d,O,r,_,_,_⟩:=ma I.Z3 e;have b:d m=Gh:=Ib.none_of (by rw[<-l];exact r m);exact Cc I.kIn O (c.get m) k.at_ k.fn b h
theorem HG{y:V}{Q:Unit->Gk->Prop}(I:zv X zq σ H s)(e:H a=Ga (.ins C dx fs))(c:gJ X.K C)(n:Yv X.K C f)(b:fs.length<1000)(w:zu y u)
  (h:∀b,zv X zq σ (zj H a (.ins C dx (Yo f y fs))) b->Q () b):wpAny (Tc X.prog X.w) A (setAttr (.ref a) f u) Q E s:=by
 obtain⟨j,O,r,k,_,i⟩:=ma I.Z3 e;have v:(fs.map (·.1)).length<=Gj:=by rw[List.length_map,GV];ext
 refine HA I.kIn O c.sa c.po n.IT c.hd k v λl d x=>h _ ?_;have p:∃o,l.get? dx=Ga o:=let⟨o,_,_,e',_⟩:=d.ns;⟨o,e'⟩;refine I.write (x:=a) (e:=dx) (by rw[e];exact T9) (.inr i) (λb q m z=>(x.2 b m).trans z) p ?_;refine{by rw[Qg O.ne];exact i,?_,O.ne,d.obj,_,d.ns,λg=>?_,λg t=>?_}
 .have:=yb f y fs;ext
 .show Ib ((Yo f y fs).lookup g) (if g=f then Ga u else j g);rw[tF];by_cases q:g=f
  .rw[Gp q,Gp q];exact w
  .rw[Gi q,Gi q];exact r g
 .by_cases q:g=f
  .rw[q];exact(qz f y fs).1
  .refine(qz f y fs).2 g (k g λz=>t ?_);show(if g=f then Ga u else j g)=Gh;rw[Gi q];exact z
theorem zv.made(I:zv X zq σ H s):zv X zq σ (zj (zj H s.heap.objs.size (.own (s.heap.objs.size+1))) (s.heap.objs.size+1) (.ins C s.heap.objs.size []))
  {s with heap:=(s.heap.push Dj).push (DP C s.heap.objs.size)}:=by
 have a:(s.heap.push Dj).get? s.heap.objs.size=Ga Dj:=Heap.get?_push_size s.heap rfl;have f:((s.heap.push Dj).push (DP C s.heap.objs.size)).get? (s.heap.objs.size+1)=Ga (DP C s.heap.objs.size):=by have:=Heap.get?_push_size (s.heap.push Dj) (o:=DP C s.heap.objs.size) rfl;rwa[Heap.size_push]at this
 have g:(s.heap.push Dj).Ns s.heap.objs.size (λ_=>Gh):={Dj,#[],_,a,Xb,(λe h=>absurd h (by simp)),λ_=>rfl};have d:=I.laid (a:=s.heap.objs.size) (o:=.own (s.heap.objs.size+1)) (h':=s.heap.push Dj) (t':=s.toks) (λb u q=>Heap.get?_push_of_some _ q) (Gm _) {_,a};refine d.laid (a:=s.heap.objs.size+1) (o:=.ins C s.heap.objs.size []) (t':=s.toks) (λb u q=>Heap.get?_push_of_some _ q) (E6 (Heap.size_push _ _)) ?_;have c:s.heap.objs.size≠s.heap.objs.size+1:=Tf (DD _);refine{by rw[Qg c,Qb],Gz _,c,f,λ_=>Gh,(Heap.Ns1.of_empty g).at λo q=>Heap.get?_push_of_some _ q,λ_=>T9,λy i=>absurd rfl i}
theorem CJ{b:Gg}{a:Fd}{f:Tb}{s:Gk}(d:attributeBase e f a (eval e a)=eval e a)
  (h:wpAny (Tc b w) A (eval e a) (λo c=>wpAny (Tc b w) A (getAttr o f Gf) Q E c) E s):wpAny (Tc b w) A (eval (.Attribute e f pos) a) Q E s:=
 Attribute_any_ h (by rw[arm_eval_Attribute,d])
end
inductive yJ(K:Gd)(f:Tb)(Q:VK)(x:V)(H1:Hp):Prop
 |mk (a:_) (C:_) (dx:_) (fs:_) (v:_) (h0:x=.ref a) (h1:H1 a=Ga (.ins C dx fs)) (h2:gJ K C) (h3:Yv K C f) (h4:fs.lookup f=Ga v) (h5:Q v H1):yJ K f Q x H1
def lZ(K:Gd)(ta:TE)(f:Tb):TE:=λσ H Q=>ta σ H λx H1=>yJ K f Q x H1
inductive zc(K:Gd)(f:Tb)(D:Ends)(σ:St)(y:V)(x:V)(H2:Hp):Prop
 |mk (a:_) (C:_) (dx:_) (fs:_) (h0:x=.ref a) (h1:H2 a=Ga (.ins C dx fs)) (h2:gJ K C) (h3:Yv K C f) (h4:fs.length<1000) (h5:D.nx σ (zj H2 a (.ins C dx (Yo f y fs)))):zc K f D σ y x H2
def HQ(K:Gd)(ta tv:TE)(f:Tb):TS:=λD σ H=>tv σ H λy H1=>ta σ H1 λx H2=>zc K f D σ y x H2
section
variable{X:Cx}{o e value:TZ}{f:Tb}{pos pos' tpos:SV}{ta tv:TE}
theorem Qu(o:PE X e ta)(m:attributeBase e f X.env (eval e X.env)=eval e X.env):PE X (.Attribute e f pos) (lZ X.K ta f):=by intro b s t H Q I h;refine CJ m (Yx (o b s t H _ I h) λu z⟨x,d,g,r,a,C,w,y,v,k,j,c,n,l,q⟩=>?_);subst k;obtain rfl:u=Value.ref a:=r;exact Pk g j c n l λB A i p=>⟨v,d,i,p,q⟩
theorem Xd(p:PE X o ta)(t:PE X value tv)(r:swapsWith value (Ga (.Attribute o f pos')) pos.line X.env=pure Gs):PS X (.Assign [.Attribute o f pos'] value pos) (HQ X.K ta tv f):=by intro b s d H D I h;refine plainObj_wpAny_Assign_Attribute (Yx (t b s d H _ I h) λu A⟨y,e,g,z,q⟩=>Yx (p b A d e _ g q) λov G⟨x,B,i,w,a,C,E,F,m,k,c,n,l,v⟩=>?_) r;subst m;obtain rfl:ov=Value.ref a:=w;exact HG i k c n l z λJ j=>{d,_,j,v}
theorem P8{m:Tb}{b:SV}{args:List TZ}(r:PE X e te)(I:zv X zq σ H s)
  (h:te σ H λx H1=>∃a C n i g,x=.ref a/\H1 a=Ga (.ins C n i)/\gJ X.K C/\Ye X.K C m g/\i.lookup m=Gh/\
   ∀d,zv X zq σ H1 d->wpAny (Tc X.prog X.w) X.A (callWith pos (.ref g) [.ref a] (DS pos (Tj args X.env)) (backToKw pos (keywordEach [] X.env))) Q X.xe d)
  (t:eval (.Call (.Attribute e m b) args [] pos) X.env=(do
   let ov<-eval e X.env
   standAt b.atName
   let(f,first)<-holding [ov] (getMethod ov m pl)
   callWith pos f first (DS pos (Tj args X.env)) (backToKw pos (keywordEach [] X.env)))):
  wpAny (Tc X.prog X.w) X.A (eval (.Call (.Attribute e m b) args [] pos) X.env) Q X.xe s:=by
 refine EJ (pl:=pl) (Yx (r zq s σ H _ I h) λu d⟨x,H1,j,v,a,C,n,i,g,p,o,c,k,l,q⟩=>?_) t;subst p;obtain rfl:u=Value.ref a:=v;exact R5 j o c k l (q d j)
end
section
variable{X:Cx}{zq:List (Gc×Ef)}{σ:St}{H:Hp}{s:Gk}{A:TQ}{E:Value->Gk->Prop}{Q:Value->Gk->Prop}{c:Value}{b:Bool}
inductive gR(K:Gd)(H:Hp):V->Value->Prop where
 |non:gR K H .non (.type "NoneType")
 |bl (x:Bool):gR K H (.bl x) (.type "bool")
 |int (i:Int):gR K H (.int i) (.type "int")
 |str (x:Tb):gR K H (.str x) (.type "str")
 |flt (x:UInt64):gR K H (.flt x) (.type "float")
 |lst {a:Gc} {xs:List V} (e:H a=Ga (.lst xs)):gR K H (.ref a) (.type "list")
 |frz {a:Gc} {o:Ef} {xs:List V} (e:H a=Ga (.frz o (.lst xs))):gR K H (.ref a) (.type "list")
 |tup {a:Gc} {xs:List V} (e:H a=Ga (.tup xs)):gR K H (.ref a) (.type "tuple")
 |dK {a:Gc} {zw:List (X7×V)} (e:H a=Ga (.dK zw)):gR K H (.ref a) (.type "dict")
 |dT {a:Gc} {zw:List (List X7×V)} (e:H a=Ga (.dT zw)):gR K H (.ref a) (.type "dict")
 |ins {a C dx:Gc} {fs:List (Tb×V)} (e:H a=Ga (.ins C dx fs)) (cl:gJ K C) (ha:GY K (.ref C) "__class__"=Ga (Ga (.builtin "object.__class__")))
   (hn:NZ K (.builtin "object.__class__") "__get__"=Ga (Ga (.builtin "getset_descriptor.__get__"))) (htk:RY K (.builtin "object.__class__")=Ga Gf)
   (hm:Be K C (.type "object")=Ga Gf):gR K H (.ref a) (.ref C)
theorem IS{x:V}{t:Value}(I:zv X zq σ H s)(f:zu x u)(ty:gR X.K H x t)(e:DI X.K t c=Ga b)(h:∀m,Q (.bool b) {s with toks:=m}):
  wpAny (Tc X.prog X.w) A (call (.builtin "isinstance") [u,c]) Q E s:=by
 cases ty with
 |non=>cases(show u=Value.none from f);exact Df Rs I.kIn T9 e nofun h
 |bl y=>cases(show u=Value.bool y from f);exact Df RA I.kIn T9 e nofun h
 |int i=>obtain⟨t,q⟩:=(show∃t,u=Value.int i t from f);cases q;exact Df RM I.kIn T9 e nofun h
 |str y=>obtain⟨t,q⟩:=(show∃t,u=Value.str y t from f);cases q;exact Df RN I.kIn T9 e nofun h
 |flt y=>obtain⟨t,q⟩:=(show∃t,u=Value.float y t from f);cases q;exact Df NK I.kIn T9 e nofun h
 |@lst a k d=>cases(show u=Value.ref a from f);obtain⟨_,_,n,_,g⟩:=(show Ym X.prog X.w H s.heap a (.lst k)from I.Z3 a _ d);exact Df LP I.kIn {_,g,Xb} e nofun h
 |@frz a m k d=>cases(show u=Value.ref a from f);obtain⟨_,_,_,n,_,g⟩:=(show Ym X.prog X.w H s.heap a (.frz m (.lst k))from I.Z3 a _ d);exact Df LP I.kIn {_,g,Xb} e nofun h
 |@tup a k d=>cases(show u=Value.ref a from f);obtain⟨_,_,_,p⟩:=(show Ym X.prog X.w H s.heap a (.tup k)from I.Z3 a _ d);obtain⟨o,g,l,_⟩:=p;exact Df NL I.kIn ⟨o,g,l⟩ e nofun h
 |@dK a j d=>cases(show u=Value.ref a from f);obtain⟨_,_,m,_,p⟩:=(show Ym X.prog X.w H s.heap a (.dK j)from I.Z3 a _ d);obtain⟨o,w,v,g,l,_⟩:=p;exact Df LQ I.kIn {o,g,l.1} e nofun h
 |@dT a j d=>cases(show u=Value.ref a from f);obtain⟨_,_,k,_,o,w,v,g,l,_⟩:=(show Ym X.prog X.w H s.heap a (.dT j)from I.Z3 a _ d);exact Df LQ I.kIn {o,g,l.1} e nofun h
 |@ins a C F G d r z D m B=>cases(show u=Value.ref a from f);obtain⟨K,O,_⟩:=ma I.Z3 d;obtain⟨L,J,_⟩:=O.look;exact Df (RO (r.get _) r.hd z D m B) I.kIn J e nofun h
end
structure Yd(k:Nat)(A:TQ):Prop where
 hd:A.handled=Gh
 dp:A.depth+3*k+5<recursionLimit
 un:A.units+16*k+200<DA
variable{Q:VK}
theorem Yd.mono{j:Nat}(r:Yd k A)(h:j<=k):Yd j A:={r.hd,by have:=r.dp;lia,by have:=r.un;lia}
theorem Yd.deeper{k:Nat}{A:TQ}(r:Yd (k+1) A)(a:Fd):Yd k (A.deeper a):=
 {r.hd,by have:=r.dp;show A.depth+1+3*k+5<_;lia,by have:=r.un;show A.units+3+16*k+200<_;lia}
theorem BB:(A.under (.builtin "type.__call__" {.ref C::us,kw})).depth=A.depth+1:=by first|rfl|simp[LR,Code.weight,Code.isCreation,Code.isGuard,Code.isCaller,No,LU,guardIds]
theorem KN:(A.under (.builtin "type.__call__" {.ref C::us,kw})).units=A.units+1:=by first|rfl|simp[LR,Code.cUnits,No,LU]
theorem Yd.make(r:Yd (k+1) A)(C:Gc)(b:List Value)(a:List (Tb×Value)):Yd k (A.under (.builtin "type.__call__" {.ref C::b,a})):=
 {r.hd,by have:=r.dp;rw[BB];ext,by have:=r.un;rw[KN];ext}
theorem Yd.depth{k:Nat}{A:TQ}(r:Yd k A):A.depth<recursionLimit:=by have:=r.dp;ext
theorem Yd.units{k:Nat}{A:TQ}(r:Yd k A):A.units+64<DA:=by have:=r.un;lia
def i8:TA:=λ_ H Q=>Q [] H
def iH(ta:TE)(a:TA):TA:=λσ H Q=>ta σ H λx H1=>a σ H1 λxs H2=>Q (x::xs) H2
section
variable{X:Cx}{e:TZ}{es:List TZ}{te:TE}{t:TA}{pos:SV}
theorem Qe:PA X [] i8:=λ_ _ _ _ H Q I h=>EG {[],H,I,.nil,h}
theorem Qa(j:PE X e te)(k:PA X es t)(l:Tj (e::es) X.env=(Gs,eval e X.env)::Tj es X.env:=by rfl):PA X (e::es) (iH te t):=by intro b a s c H Q I h;rw[l];show wpAny _ _ (spliced ((Gs,eval e X.env)::DS b (Tj es X.env))) _ _ s;refine Se (Yx (j a s c H _ I h) λu q⟨x,d,g,o,m⟩=>?_);exact Yx (k b a q c d _ g m) λw v⟨r,f,i,p,n⟩=>{x::r,f,i,.cons o p,n}
def IE(t:TA):TE:=λσ H Q=>t σ H λxs H1=>xs.length<=Gj/\∀p,H1 p=Gh->Q (.ref p) (zj H1 p (.tup xs))
def HK(t:TA):TE:=λσ H Q=>t σ H λxs H1=>xs.length<=Gj/\∀p,H1 p=Gh->Q (.ref p) (zj H1 p (.lst xs))
theorem Zg{k}(h:PA X es t):PE X (.Tuple es k pos) (IE t):=by intro a s m H Q I i;refine wpAny_Tuple_spliced (Yx (h pos a s m H _ I i) λj c⟨l,d,f,r,z,q⟩=>{by rw[<-r.length];exact z,?_});have g:d c.heap.objs.size=Gh:=f.Z3.fresh (Gm _);refine{.ref c.heap.objs.size,zj d c.heap.objs.size (.tup l),f.laid (t':=c.toks) (λb u e=>Heap.get?_push_of_some _ e) (Gm _) ?_,Xb,q _ g};exact{z,j,r,{_,Heap.get?_push_size _ Xb,Xb,_,Xb}}
theorem Zu(h:PA X es t):PE X (.List es pos) (HK t):=by intro a s l H Q I i;refine wpAny_List_spliced (Yx (h pos a s l H _ I i) λj c⟨k,d,f,r,z,q⟩=>{by rw[<-r.length];exact z,?_});have g:d c.heap.objs.size=Gh:=f.Z3.fresh (Gm _);refine{.ref c.heap.objs.size,zj d c.heap.objs.size (.lst k),f.laid (t':=c.toks) (λb u e=>Heap.get?_push_of_some _ e) (Gm _) ?_,Xb,q _ g};exact{z,j,0,r,Heap.get?_push_size _ Xb}
end
abbrev Sp:=List V->Hp->VK->XK->Prop
abbrev hE:=List Fd->Hp->Gk->XK->Value->Gk->Prop
structure iO(P:Gg)(w:Gu)(K:Gd)(mg:Tb->Option Value)(base:Heap)(A:TQ)(outer:List Fd)(s:Gk)(H:Hp):Prop where
 frames:A.frames=Ga outer
 mod:Mod K mg base
 bs:∀b o,base.get? b=Ga o->s.heap.get? b=Ga o/\H b=Gh
 bsz:base.objs.size<=s.heap.objs.size
 gZ:s.heap.FunFrames base outer
 frf:∀b∈frs outer,H b=Gh
 Z3:Rp P w H s.heap
 bare:So s.gens
def CE(outer:List Fd)(P:Gg)(w:Gu)(H:Hp)(s:Gk)(Q:VK)(u:Value)(s':Gk):Prop:=
 ∃v H',s'.os=s.os/\So s'.gens/\Un (frs outer) [] H H' s.heap s'.heap/\Rp P w H' s'.heap/\zu v u/\Q v H'
def CR(CX:hE)(outer:List Fd)(P:Gg)(w:Gu)(H:Hp)(s:Gk)(Q:VK)(E:XK)(r:MU)(s':Gk):Prop:=
 match r with
 |.ok (.ret u)=>CE outer P w H s Q u s'
 |.ok _=>False
 |.error e=>CX outer H s E e s'
structure Qy(P:Gg)(w:Gu)(K:Gd)(mg:Tb->Option Value)(base:Heap)(CX:hE)(k:Nat)(f:Gc)(fd:Tq)(ps:List Tb)(sp:Sp):Prop where
 len:∀vs H Q E,sp vs H Q E->vs.length=ps.length
 run:∀(A:TQ)(outer:List Fd)(s:Gk)(H:Hp)(args:Args)(us:List Value)(vs:List V)(Q:VK)(E:XK),Yd k A->iO P w K mg base A outer s H->LV s fd args (ps.zip us)->Z2 vs us->sp vs H Q E->
  codeAny (Tc P w) A (.call (.ref f) args) (CR CX outer P w H s Q E) s
theorem iO.make{b:Heap}{a:List Fd}(e:iO P w K mg b A a s H)(C:Gc)(d:List Value)(c:List (Tb×Value)):
  iO P w K mg b (A.under (.builtin "type.__call__" {.ref C::d,c})) a s H:={by first|exact e.frames|(simpa[LR,Code.envs,LU,pushEnvs]using e.frames),e.mod,e.bs,e.bsz,e.gZ,e.frf,e.Z3,e.bare}
section
variable{X:Cx}{zq:List (Gc×Ef)}{σ:St}{H:Hp}{s s':Gk}
theorem zv.wI(I:zv X zq σ H s):iO X.prog X.w X.K X.mg X.base X.A X.stack s H:=
 {I.ok.frames,I.ok.mod,I.bs,Tw I.ok.bsz I.sz,I.stack,I.su,I.Z3,I.bare}
theorem zv.after(I:zv X zq σ H s)(h:CE X.stack X.prog X.w H s Q u s'):EP X zq σ Q u s':=by obtain⟨v,e,os,a,un,f,r,q⟩:=h;obtain⟨i,g,d,t,c⟩:=s';obtain rfl:c=s.os:=os;exact{v,e,I.call (h':=i) (g':=g) (d':=d) (t':=t) (ch:=[]) un f a (λb z=>absurd z (by simp)),r,q}
end
def zD(sp:Sp)(dvs:List V)(E:XK)(t:TA):TE:=λσ H Q=>t σ H λa H1=>sp (a++dvs) H1 Q E
inductive uj(C:Gc)(m:Tb)(sp:Sp)(dvs:List V)(E:XK)(t:TA)(σ:St)(Q:VK)(x:V)(H1:Hp):Prop
 |mk (a:_) (dx:_) (fs:_) (h0:x=.ref a) (h1:H1 a=Ga (.ins C dx fs)) (h2:fs.lookup m=Gh) (h3:t σ H1 λvs H2=>sp (x::(vs++dvs)) H2 Q E):uj C m sp dvs E t σ Q x H1
def kj(C:Gc)(m:Tb)(sp:Sp)(dvs:List V)(E:XK)(ta:TE)(t:TA):TE:=λσ H Q=>ta σ H λx H1=>uj C m sp dvs E t σ Q x H1
def qF(C:Gc)(sp:Sp)(dvs:List V)(E:XK)(t:TA):TE:=λσ H Q=>t σ H λa H1=>∀x dx,H1 x=Gh->H1 dx=Gh->dx≠x->
 sp (.ref x::(a++dvs)) (zj (zj H1 dx (.own x)) x (.ins C dx [])) (λv H2=>v=.non/\Q (.ref x) H2) E
def zk(K:Gd)(fd:Tq)(ps:List Tb)(ds:List Value):Prop:=
 ∀(s:Gk)(a:List Value),K.In s.heap->(a++ds).length=ps.length->LV s fd {a,[]} (ps.zip (a++ds))
theorem zk.all{b:Tq}(h:∀a:List Value,a.length=ps.length->bindArgs b {a,[]}=pure (ps.zip a)):zk K b ps []:=λs a _ c=>by rw[List.append_nil]at c⊢;exact .of_eq (h a c)
def Ic(CX:hE)(X:Cx)(E:XK):Prop:=∀(zq:List (Gc×Ef))(σ:St)(H:Hp)(s:Gk)(e:Value)(s':Gk),zv X zq σ H s->CX X.stack H s E e s'->X.xe e s'
section
variable{X:Cx}{CX:hE}{k:Nat}{f C:Gc}{fd:Tq}{ps:List Tb}{sp:Sp}{dvs:List V}{ds:List Value}{E:XK}{x m:Tb}{p pos apos:SV}{e o:TZ}{es:List TZ}{ta:TE}{t:TA}
theorem om(F:Qy X.prog X.w X.K X.mg X.base CX k f fd ps sp)(j:Yd k X.A)(d:zk X.K fd ps ds)(g:Z2 dvs ds)(l:Ic CX X E)
  (I:zv X zq σ H s)(r:Z2 vs us)(h:sp (vs++dvs) H Q E):wpAny (Tc X.prog X.w) X.A (call (.ref f) us) (EP X zq σ Q) X.xe s:=by
 have b:Z2 (vs++dvs) (us++ds):=r.append g;have i:(us++ds).length=ps.length:=by rw[<-b.length];exact F.len _ _ _ _ h
 refine NM (SO (F.run X.A X.stack s H {us,[]} (us++ds) (vs++dvs) Q E j I.wI (d s us I.kIn i) b h) λr m a=>?_);cases r with
 |error e=>exact l zq σ H s e m I a
 |ok c=>
  cases c with
  |ret u=>exact I.after a
  |next=>exact False.elim a
  |brk=>exact False.elim a
  |cont=>exact False.elim a
theorem Zl(F:Qy X.prog X.w X.K X.mg X.base CX k f fd ps sp)(u:Yd k X.A)(m:Gl X x)(o:X.mg x=Ga (.ref f))(n:TU X.K (.ref f)=Gf)(i:zk X.K fd ps ds)(j:Z2 dvs ds)(v:Ic CX X E)
  (g:PA X (e::es) t)(b:(x==("__debug__":Tb))=Gs:=by decide)(l:Tj (e::es) X.env=(Gs,eval e X.env)::Tj es X.env:=by rfl)(c:(DS pos (Tj es X.env)).any (·.1)=Gs:=by rfl):
  PE X (.Call (.Name x p) (e::es) [] pos) (zD sp dvs E t):=by
 intro a s w H Q I h;refine Db (lR I m o ?_ b);refine Sf (h₀:=X.base) I.ok.mod.kin n (Yx (g pos a s w H _ I h) λA z⟨B,y,d,r,q⟩=>{d.kIn,?_}) l c;exact om F u i j v d r q
theorem Zh(D:PE X o ta)(c:gJ X.K C)(n:Ye X.K C m f)(F:Qy X.prog X.w X.K X.mg X.base CX k f fd ps sp)(G:Yd k X.A)(A:zk X.K fd ps ds)(B:Z2 dvs ds)(K:Ic CX X E)(z:PA X (e::es) t)
  (g:Tj (e::es) X.env=(Gs,eval e X.env)::Tj es X.env:=by rfl)(d:(DS pos (Tj es X.env)).any (·.1)=Gs:=by rfl)
  (J:eval (.Call (.Attribute o m apos) (e::es) [] pos) X.env=(do
   let ov<-eval o X.env
   standAt apos.atName
   let(f,first)<-holding [ov] (getMethod ov m pl)
   callWith pos f first (DS pos (Tj (e::es) X.env)) (backToKw pos (keywordEach [] X.env))):=by rfl):
  PE X (.Call (.Attribute o m apos) (e::es) [] pos) (kj C m sp dvs E ta t):=by
 intro b s p H Q I h;refine EJ (pl:=pl) (Yx (D b s p H _ I h) λu N⟨x,v,i,M,a,P,R,y,w,l,q⟩=>?_) J;subst y;obtain rfl:u=Value.ref a:=M;refine R5 i w c n l ?_;refine Sf (first:=[.ref a]) (h₀:=X.base) I.ok.mod.kin n.kp (Yx (z pos b N p v _ i q) λus S⟨vs,O,j,r,L⟩=>{j.kIn,?_}) g d;exact om (us:=.ref a::us) (vs:=.ref a::vs) F G A B K j (.cons rfl r) L
theorem wz(p:PE X o ta)(c:gJ X.K C)(e:Ye X.K C m f)(F:Qy X.prog X.w X.K X.mg X.base CX k f fd ps sp)(r:Yd k X.A)(j:zk X.K fd ps ds)(n:Z2 dvs ds)(v:Ic CX X E)
  (t:eval (.Call (.Attribute o m apos) [] [] pos) X.env=(do
   let ov<-eval o X.env
   standAt apos.atName
   let(f,first)<-holding [ov] (getMethod ov m pl)
   callWith pos f first (DS pos (Tj [] X.env)) (backToKw pos (keywordEach [] X.env))):=by rfl):
  PE X (.Call (.Attribute o m apos) [] [] pos) (kj C m sp dvs E ta i8):=by
 intro b s y H Q I h;refine EJ (pl:=pl) (Yx (p b s y H _ I h) λu D⟨x,z,d,w,a,A,B,i,g,l,q⟩=>?_) t;subst i;obtain rfl:u=Value.ref a:=w;refine R5 d g c e l ?_;exact Lq (first:=[.ref a]) d.kIn e.kp (om (us:=[.ref a]) (vs:=[.ref a]) F r j n v d (.cons rfl .nil) q)
structure Mk(K:Gd)(C f:Gc):Prop where
 makes:DX K C=Gf
 init:GY K (.ref C) "__init__"=Ga (Ga (.ref f))
 fn:To K (.ref f)=Gf
 kp:TU K (.ref C)=Gf
theorem uk(M:Mk X.K C f)(F:Qy X.prog X.w X.K X.mg X.base CX k f fd ps sp)(p:Yd (k+1) X.A)(m:zk X.K fd ps ds)(n:Z2 dvs ds)
  (q:Ic CX X E)(I:zv X zq σ H s)(r:Z2 vs us)
  (h:∀x c,H x=Gh->H c=Gh->c≠x->sp (.ref x::(vs++dvs)) (zj (zj H c (.own x)) x (.ins C c [])) (λv H2=>v=.non/\Q (.ref x) H2) E):
  wpAny (Tc X.prog X.w) X.A (call (.ref C) us) (EP X zq σ Q) X.xe s:=by
 have d:=h (s.heap.objs.size+1) s.heap.objs.size (I.Z3.fresh (EE _)) (I.Z3.fresh (Gm _)) (Tf (DD _));have b:=zv.made (C:=C) I;have g:Z2 (V.ref (s.heap.objs.size+1)::(vs++dvs)) (Value.ref (s.heap.objs.size+1)::(us++ds)):=.cons rfl (r.append n);have o:(Value.ref (s.heap.objs.size+1)::us++ds).length=ps.length:=by have e:=g.length;rw[F.len _ _ _ _ d]at e;exact e.symm
 refine NM (JY (f:=f) I.kIn M.makes M.init (Sd.mp M.fn) (SO (F.run _ X.stack _ _ {Value.ref (s.heap.objs.size+1)::us,[]} (Value.ref (s.heap.objs.size+1)::(us++ds)) _ _ E (p.make C us [])
  (b.wI.make C us []) (m _ (Value.ref (s.heap.objs.size+1)::us) b.kIn o) g d) λr y a=>?_))
 cases r with
 |error e=>exact q zq σ _ _ e y b a
 |ok l=>
  cases l with
  |ret u=>obtain⟨v,i,j,w,ev,t⟩:=b.after a;subst ev;exact{w,{V.ref (s.heap.objs.size+1),i,j,Xb,t}}
  |next=>exact False.elim a
  |brk=>exact False.elim a
  |cont=>exact False.elim a
theorem pH(M:Mk X.K C f)(F:Qy X.prog X.w X.K X.mg X.base CX k f fd ps sp)(o:Yd (k+1) X.A)(m:Gl X x)(n:X.mg x=Ga (.ref C))(i:zk X.K fd ps ds)(j:Z2 dvs ds)(u:Ic CX X E)
  (g:PA X (e::es) t)(b:(x==("__debug__":Tb))=Gs:=by decide)(l:Tj (e::es) X.env=(Gs,eval e X.env)::Tj es X.env:=by rfl)(c:(DS pos (Tj es X.env)).any (·.1)=Gs:=by rfl):
  PE X (.Call (.Name x p) (e::es) [] pos) (qF C sp dvs E t):=by
 intro a s v H Q I h;refine Db (lR I m n ?_ b);refine Sf (h₀:=X.base) I.ok.mod.kin M.kp (Yx (g pos a s v H _ I h) λz y⟨A,w,d,r,q⟩=>{d.kIn,?_}) l c;exact uk M F o i j u d r q
theorem wG(M:Mk X.K C f)(F:Qy X.prog X.w X.K X.mg X.base CX k f fd ps sp)(i:Yd (k+1) X.A)(e:Gl X x)(g:X.mg x=Ga (.ref C))(c:zk X.K fd ps ds)(d:Z2 dvs ds)(j:Ic CX X E)
  (a:(x==("__debug__":Tb))=Gs:=by decide):PE X (.Call (.Name x p) [] [] pos) (qF C sp dvs E i8):=by
 intro b s l H Q I h;refine Db (lR I e g ?_ a);exact Lq I.kIn M.kp (uk (us:=[]) M F i c d j I .nil h)
end
structure Q3(N P:List Tb)(sc:SE):Prop where
 kind:sc.kind=.function
 co:sc.isCoroutine=Gs
 gen:sc.isGenerator=Gs
 nd:N.Nodup
 pre:N.take P.length=P
 par:∀x∈P,sc.names.lookup x=Ga .local\/sc.names.lookup x=Ga .cell
 Q1z:∀y∈sc.names,y.2≠.free
theorem xP{kindOf:Tb->Option EU}{x:Tb}:∀{a:List (Tb×Value)}{m:Tb->Option Value},(∀v,(x,v)∉a)->bindL kindOf a m x=m x
 |[],_,_=>rfl
 |(n,v)::r,m,h=>by
  unfold bindL;rw[xP λw hw=>h w (List.mem_cons_of_mem _ hw)];split
  .have:x≠n:=by rintro rfl;exact h v List.mem_cons_self
   simp[this]
  .rfl
theorem ro{kindOf:Tb->Option EU}{x:Tb}:∀{a:List (Tb×Value)}{m:Tb->Option Value},(∀v,(x,v)∉a)->bindC kindOf a m x=m x
 |[],_,_=>rfl
 |(n,v)::r,m,h=>by
  unfold bindC;rw[ro λw hw=>h w (List.mem_cons_of_mem _ hw)];split
  .rfl
  .have:x≠n:=by rintro rfl;exact h v List.mem_cons_self
   simp[this]
theorem tU{kindOf:Tb->Option EU}{x:Tb}{v:Value}:∀{P:List Tb}{a:List Value}{i:Nat}{m:Tb->Option Value},P.Nodup->P[i]?=Ga x->a[i]?=Ga v->kindOf x=Ga .local->
  bindL kindOf (P.zip a) m x=Ga v
 |[],_,_,_,_,h,_,_=>by simp at h
 |_::_,[],_,_,_,_,h,_=>by simp at h
 |p::P,w::a,0,m,e,b,c,d=>by simp at b c;subst b;subst c;show bindL kindOf ((p,w)::P.zip a) m p=_;unfold bindL;rw[xP λv f=>(List.nodup_cons.mp e).1 (List.of_mem_zip f).1,Gp d];simp
 |p::P,w::a,i+1,m,e,b,c,d=>by show bindL kindOf ((p,w)::P.zip a) m x=_;unfold bindL;exact tU (i:=i) (List.nodup_cons.mp e).2 (by simpa using b) (by simpa using c) d
theorem yZ{kindOf:Tb->Option EU}{x:Tb}{v:Value}:∀{P:List Tb}{a:List Value}{i:Nat}{m:Tb->Option Value},P.Nodup->P[i]?=Ga x->a[i]?=Ga v->kindOf x≠Ga .local->
  bindC kindOf (P.zip a) m x=Ga v
 |[],_,_,_,_,h,_,_=>by simp at h
 |_::_,[],_,_,_,_,h,_=>by simp at h
 |p::P,w::a,0,m,e,b,c,d=>by simp at b c;subst b;subst c;show bindC kindOf ((p,w)::P.zip a) m p=_;unfold bindC;rw[ro λv f=>(List.nodup_cons.mp e).1 (List.of_mem_zip f).1,Gi d];simp
 |p::P,w::a,i+1,m,e,b,c,d=>by show bindC kindOf ((p,w)::P.zip a) m x=_;unfold bindC;exact yZ (i:=i) (List.nodup_cons.mp e).2 (by simpa using b) (by simpa using c) d
def start(N:List Tb)(a:List V):St:=a.map Ga++List.replicate (N.length - a.length) Gh
def iM(CX:hE)(P:Gg)(w:Gu)(K:Gd)(mg:Tb->Option Value)(base:Heap)(N:List Tb)(qual:Tb)(scope:SE)(f:Gc)(b:Value)(A:TQ)(outer:List Fd)(s:Gk)(H:Hp)(E:XK):Cx where
 prog:=P
 w:=w
 K:=K
 mg:=mg
 base:=base
 A:=A.deeper (envOfC qual scope s.heap.objs.size f b)
 N:=N
 s₀:=s
 H₀:=H
 env:=envOfC qual scope s.heap.objs.size f b
 outer:=outer
 stack:=envOfC qual scope s.heap.objs.size f b::outer
 ex:=[]
 calm:=Gf
 fn:=λ_=>Gf
 pn:=[]
 xe:=λe s'=>wpAny (Tc P w) (A.deeper (envOfC qual scope s.heap.objs.size f b)) (leaving (envOfC qual scope s.heap.objs.size f b) e) (λ_ a=>CX outer H s E e a) (λc a=>CX outer H s E c a) s'
theorem xC{a:SE}(h:a.names.lookup x=Ga .cell):∃c,(cellsFrom n a.names []).lookup x=Ga c:=by have q:=SQ a.names n [] (.inl h);exact Sx.mp q
theorem Pj{G:hE}{l:Heap}{g:Tb}{scope:SE}{f:Gc}{C:Value}{d:List Fd}{L:Gk}{E:XK}
  (S:Q3 N ps scope)(O:A.handled=Gh)(m:iO P w K mg l A d s H)(e:vs.length=ps.length)(r:Z2 vs us)
  (x:InCallC s s.heap.objs.size (bindL (envOfC g scope s.heap.objs.size f C).kindOf (ps.zip us) λ_=>Gh) (cellsFrom (s.heap.objs.size+1) scope.names []) (bindC (envOfC g scope s.heap.objs.size f C).kindOf (ps.zip us) λ_=>Gh) L):
  zv (iM G P w K mg l N g scope f C A d s H E) [] (start N vs) H L:=by
 have e:ps.length<=N.length:=by have:=congrArg List.length S.pre;rw[List.length_take]at this;lia
 obtain⟨D,T,rfl,I⟩:=x.done;have o:∀b:Gc,b∉(iM G P w K mg l N g scope f C A d s H E).ex:=λb z=>absurd (show b∈([]:List Gc)from z) (by simp);exists {m.mod,S.kind,Xb,Xb,Gm _,λy z c D j=>?_,λy n=>?_,λy c _ h=>?_,λ_=>O,Around.frames_deeper m.frames,.inr ⟨Xb,Xb⟩,λb z=>absurd z (o b),m.bs,m.bsz,λb _ _=>o b,λb z=>absurd z (o b),m.gZ,m.frf},
  Xb,m.bare,Un.kept I,{_,x.toInCall.ns,λi y v D j R=>?_},λy c h=>{_,x.cell y c h},m.Z3.fresh (Gm _),λy c h=>?_,λp t=>absurd (show p∈([]:List (Gc×Ef))from t) (by simp),m.Z3.kept I
 .exact name_of_addr x.apart (Di D) (Di j)
 .have n:scope.names.lookup y=Ga .cell\/scope.names.lookup y=Ga .free:=n;rcases n with n|n
  .exact xC n
  .exact absurd rfl (S.Q1z _ (Di n))
 .exact E5 (x.above y c (Di h))
 .have F:i<vs.length:=by
   unfold start at j;by_cases F:i<vs.length
   .exact F
   .rw[List.getElem?_append_right (by simpa using F)]at j;rw[List.getElem?_replicate]at j;split at j<;>cases j
  have M:vs[i]?=Ga v:=by
   unfold start at j;rw[List.getElem?_append_left (by simpa using F),List.getElem?_map]at j;cases e:vs[i]? with
   |none=>rw[e]at j;cases j
   |some a=>rw[e]at j;cases j;rfl
  obtain⟨u,J,Q⟩:=r.get M;have t:ps[i]?=Ga y:=by rw[<-S.pre,List.getElem?_take_of_lt (by lia)];exact D
  have B:ps.Nodup:=by rw[<-S.pre];exact S.nd.sublist (List.take_sublist _ _)
  exists u,Q;rcases S.par y (List.mem_of_getElem? t)with k|k
  .exact .inl {k,tU B t J k}
  .obtain⟨c,e⟩:=xC (n:=s.heap.objs.size+1) k;refine .inr {.inl k,c,e,?_};have q:=x.cell y c e;rw[yZ B t J (by show scope.names.lookup y≠_;rw[k];decide)]at q;exact q
 .exact m.Z3.fresh (E5 (x.above y c (Di h)))
 .unfold start;show _=N.length;rw[List.length_append,List.length_map,List.length_replicate];lia
theorem PM{o:hE}{p:Heap}{i:Gc}{O g:Tb}{Q:Arguments}{scope:SE}{H kV I R f ct oc:Value}{G od:Option Gc}
  {ac:Array (Option Value)}{F:Sp}(lk:K.lookup i=Ga {oc,od,.func (Dl O g Q body scope H kV I R G f ct),ac})(Z:E8 K f g=Gf)(S:Q3 N ps scope)
  (M:∀c a b d,F c a b d->c.length=ps.length)
  (Y:∀(h:TQ)(l:List Fd)(s:Gk)(a:Hp)(c:List V)(b:VK)(d:XK),Yd k (h.deeper (envOfC g scope s.heap.objs.size i f))->F c a b d->
   ∃t,Ia (iM o P w K mg p N g scope i f h l s a d) body t/\t {nx:=λ_ H'=>b .non H',rt:=b} (start N c) a):
  Qy P w K mg p o (k+1) i (Dl O g Q body scope H kV I R G f ct) ps F:=by
 refine{M,λh l s a ae us c b d B m X ad L=>?_};have hl:=M _ _ _ _ L;have KX:K.In s.heap:=m.mod.kin.keeps λA C r=>(m.bs A C r).1;have ab:s.heap.NoLimit:=m.mod.nolimit.keeps λA C r=>(m.bs A C r).1;have aa:∀y∈ps.zip us,scope.names.lookup y.1=Ga .local\/(scope.names.lookup y.1=Ga .cell/\((cellsFrom (s.heap.objs.size+1) scope.names []).lookup y.1).isSome=Gf):=λ⟨n,v⟩hy=>by
  rcases S.par n (List.of_mem_zip hy).1 with q|q
  .exact .inl q
  .exact .inr {q,SQ _ _ _ (.inl q)}
 refine codeAny_call_function B.depth (KX _ _ lk) rfl S.co S.gen rfl (NN KX Z) (X _ _ _ _ ?_);refine wpAny_newFunctionEnv_cells S.kind aa λaf he T x=>?_;subst he;refine{ab.keeps x.toInCall.keep,codeAny_func ?_};obtain⟨t,ht,hq⟩:=Y h l s a c b d (B.deeper _) L;have U:zv (iM o P w K mg p N g scope i f h l s a d) [] (start N c) a T:=Pj S B.hd m hl ad x;refine DE (ht [] T (start N c) a _ U hq) (λW E j=>?_) λr E j=>j;have J:∀{z:St}{H':Hp}{v:V}{u:Value},zv (iM o P w K mg p N g scope i f h l s a d) [] z H' E->zu v u->b v H'->CE l P w a s b u E:=
  λ{z H' v u}e D q=>{v,H',e.os,e.bare,e.base,e.Z3,D,q}
 cases W with
 |ret u=>obtain⟨v,z,H',e,D,q⟩:=j;exact J e D q
 |next=>obtain⟨z,H',e,q⟩:=j;exact J (v:=V.non) (u:=Value.none) e rfl q
 |brk=>obtain⟨_,_,_,q⟩:=j;exact False.elim q
 |cont=>obtain⟨_,_,_,q⟩:=j;exact False.elim q
section
variable{X:Cx}{x:Tb}{p pos:SV}{e:TZ}{es:List TZ}{t:TA}{id T:String}{r:List V->Hp->VK->Prop}
def tCB(r:List V->Hp->VK->Prop)(t:TA):TE:=λσ H Q=>t σ H λa H1=>r a H1 Q
theorem Qp(j:Um X (.builtin id) r)(l:Gl X x)(m:X.mg x=Gh)(o:bootBuiltins x=Ga (.builtin id))(i:PA X (e::es) t)(n:x≠"__name__":=by decide)(b:(x==("__debug__":Tb))=Gs:=by decide)
  (k:Tj (e::es) X.env=(Gs,eval e X.env)::Tj es X.env:=by rfl)(c:(DS pos (Tj es X.env)).any (·.1)=Gs:=by rfl):PE X (.Call (.Name x p) (e::es) [] pos) (tCB r t):=by
 intro a s d H Q I h;refine Db (Ur I l m o ?_ n b);exact Fg (Yx (i pos a s d H _ I h) λw v⟨y,f,g,u,q⟩=>j a v d f y w Q g u q) k c
theorem Xm(j:Um X (.type T) r)(l:Gl X x)(m:X.mg x=Gh)(o:bootBuiltins x=Ga (.type T))(i:PA X (e::es) t)(n:x≠"__name__":=by decide)(b:(x==("__debug__":Tb))=Gs:=by decide)
  (k:Tj (e::es) X.env=(Gs,eval e X.env)::Tj es X.env:=by rfl)(c:(DS pos (Tj es X.env)).any (·.1)=Gs:=by rfl):PE X (.Call (.Name x p) (e::es) [] pos) (tCB r t):=by
 intro a s d H Q I h;refine Db (Ur I l m o ?_ n b);exact Dp (Yx (i pos a s d H _ I h) λw v⟨y,f,g,u,q⟩=>j a v d f y w Q g u q) k c
end
end L2
namespace HT
open PySem PyProof.Rows
section
variable{prog:Gg}{w:Gu}{A:TQ}{E:Value->Gk->Prop}{s:Gk}
def Wq(n d:Nat):Option Int->Nat
 |none=>d
 |some v=>if v<0 then(v+(n:Int)).toNat else min v.toNat n
theorem Ol(n d:Nat):Wq n d Gh=d:=rfl
theorem Ra(n d k:Nat):Wq n d (Ga (k:Int))=min k n:=by show(if(k:Int)<0 then((k:Int)+(n:Int)).toNat else min (k:Int).toNat n)=min k n;rw[Gi (by lia),Dk]
theorem IW(n d:Nat)(b:d<=n)(o:Option Int):Wq n d o<=n:=by
 cases o with
 |none=>exact b
 |some v=>
  show(if v<0 then(v+(n:Int)).toNat else min v.toNat n)<=n;by_cases a:v<0
  .rw[Gp a];lia
  .rw[Gi a];exact Fh _ _
theorem qU(v:Int)(n d:Nat):(if v<0 then max (v+(n:Int)) 0 else min v (n:Int))=((Wq n d (Ga v):Nat):Int):=by
 show(if v<0 then max (v+(n:Int)) 0 else min v (n:Int))=(((if v<0 then(v+(n:Int)).toNat else min v.toNat n):Nat):Int);by_cases a:v<0
 .simp only[Gp a];lia
 .simp only[Gi a];lia
theorem B7(b a:Option Int)(n:Nat):Builtin.Slice.sliceAdjust b a 1 (n:Int)=(((Wq n 0 b:Nat):Int),((Wq n n a:Nat):Int)):=by
 have c:¬((1:Int)<0):=by ext
 unfold Builtin.Slice.sliceAdjust;simp only[c,Do];refine LW ?_ ?_
 .cases b with
  |none=>rfl
  |some v=>exact qU v n 0
 .cases a with
  |none=>rfl
  |some v=>exact qU v n n
theorem J8(i j:Nat):Builtin.Slice.slicePlaces (i:Int) (j:Int) 1=j - i:=by
 unfold Builtin.Slice.slicePlaces;have a:(1:Int)>0:=by lia
 simp only[a,Sq,MV];split<;>lia
theorem xR{v:Value}{o:Option Int}{Q:Option Int->Gk->Prop}(p:LG v o)(h:Q o s):wpAny (Tc prog w) A (Builtin.Slice.slicePartIndex v) Q E s:=by
 cases p with
 |none=>exact FD h
 |int i t=>exact slicePart_int h
theorem BG{g:Gc}{e f:Value}{a c:Option Int}{n:Nat}{Q:Int×Int×Nat->Gk->Prop}(j:s.heap.IsSliceOf g e f .none)(k:LG e a)(l:LG f c)
  (h:Q (((Wq n 0 a:Nat):Int),1,Wq n n c - Wq n 0 a) s):wpAny (Tc prog w) A (Builtin.Slice.sliceApplied (.ref g) (pure (n:Int))) Q E s:=by
 obtain⟨os,d,i,b⟩:=id j;unfold Builtin.Slice.sliceApplied Builtin.Slice.sliceFields;refine Gb (Gb (TF d b (x:=e) rfl (Gb (TF d b (x:=f) rfl (Gb (TF d b (x:=.none) rfl (Ge ?_)))))));refine Gb (FD ?_);show wpAny _ _ (if((1:Int)==0)=Gf then _ else _) _ _ s;rw[Gi (by decide)];refine Gb (xR k (Gb (xR l (Gb (Ge ?_)))));show wpAny _ _ (match Builtin.Slice.sliceAdjust a c 1 (n:Int)with|(a,c)=>pure (a,(1:Int),Builtin.Slice.slicePlaces a c 1)) _ _ s;rw[B7 a c n];show wpAny _ _ (pure (((Wq n 0 a:Nat):Int),(1:Int),Builtin.Slice.slicePlaces ((Wq n 0 a:Nat):Int) ((Wq n n c:Nat):Int) 1)) _ _ s;rw[J8];exact Ge h
theorem zT(a:Array Value)(i k:Nat):((List.range k).filterMap λ(m:Nat)=>a[((i:Int)+(m:Int)*1).toNat]?).toArray=((a.toList.drop i).take k).toArray:=by
 have e:(λ(m:Nat)=>a[((i:Int)+(m:Int)*1).toNat]?)=λm=>a[i+m]?:=by
  funext m
  have:((i:Int)+(m:Int)*1).toNat=i+m:=by lia
  rw[this]
 rw[e];have:=pick_run a i k;rw[List.filterMap_map]at this;have b:((λx=>a[x]?)∘λx=>i+x)=λm=>a[i+m]?:=rfl;rw[b]at this;rw[this]
theorem Ou{t k:Gc}{a:Array Value}{m n:Value}{c d:Option Int}{Q:Value->Gk->Prop}(e:IsTup s.heap t a)(l:s.heap.IsSliceOf k m n .none)(r:LG m c)(u:LG n d)
  (hw:¬(Wq a.size 0 c=0/\Wq a.size a.size d=a.size))
  (h:Q (.ref s.heap.objs.size) {s with heap:=s.heap.push {cls:=.type "tuple",data:=.seq ((a.toList.drop (Wq a.size 0 c)).take (Wq a.size a.size d - Wq a.size 0 c)).toArray}})
  (p:a.size<=Gj):wpAny (Tc prog w) A (getItem (.ref t) (.ref k)) Q E s:=by
 have b:sizeOk (.seq ((a.toList.drop (Wq a.size 0 c)).take (Wq a.size a.size d - Wq a.size 0 c)).toArray):=by show((a.toList.drop (Wq a.size 0 c)).take (Wq a.size a.size d - Wq a.size 0 c)).toArray.size<=Gj;rw[List.size_toArray,List.length_take,List.length_drop,TD];ext
 have v:Wq a.size a.size d<=a.size:=IW _ _ (Gm _) d;obtain⟨os,j,g,o⟩:=id l;have f:s.TypeIs (.ref k) "slice":=⟨os,j,g⟩;unfold getItem;try with_reducible refine T1 ?_
 first|refine Gb (Ge ?_)|skip
 refine Gb (wpAny_sequenceKey e.typeIs (by decide) ?_);refine Gb (TL (name:=Dw "__getitem__") e.typeIs Eb
  (Tz Eb e.typeIs entry_tuple_getitem ?_ (args_tuple_getitem _ _)))
 show wpAny _ _ (Builtin.Tuple.tupleItemsOf (.ref t)>>=_) _ _ s;refine Gb (tupleItemsOf_ e ?_);refine Gb (MX f ?_);rw[Gp (by decide)];refine Gb (BG l r u ?_);have i:¬((((Wq a.size 0 c:Nat):Int)==0&&(1:Int)==1&&(Wq a.size a.size d - Wq a.size 0 c)==a.size)=Gf):=by intro q;rw[Tn,Tn]at q;have p:((Wq a.size 0 c:Nat):Int)=0:=eq_of_beq q.1.1;have x:Wq a.size a.size d - Wq a.size 0 c=a.size:=eq_of_beq q.2;exact hw {by ext,by ext}
 show wpAny _ _ (if(((Wq a.size 0 c:Nat):Int)==0&&(1:Int)==1&&(Wq a.size a.size d - Wq a.size 0 c)==a.size)=Gf then _ else _) _ _ s;rw[Gi i,zT];first
  |exact Gb (m:=Builtin.Tuple.tupleExact _) (TB (Ge ⟨_,Xb,Ge h⟩) b)
  |exact Gb (m:=Builtin.Tuple.tupleExact _) (TB (Gb (Ge (Ge ⟨_,Xb,Ge h⟩))) b)
  |exact Gb (Gb (m:=Builtin.Tuple.tupleExact _) (TB (Ge (Ge ⟨_,Xb,Ge h⟩)) b))
  |exact Gb (Gb (m:=Builtin.Tuple.tupleExact _) (TB (Ge ⟨_,Xb,Ge h⟩) b))
end
end HT
namespace L2
open PySem PySem.Spec PyProof.Rows
variable{n t':Nat}{α:Type}{H H':Hp}{s:Gk}{u:Value}{y:V}{P:Gg}{w:Gu}{zw:List (List X7×V)}{xs:List (List X7×Gc×Value)}{b a:Gc}{Q:Value->Gk->Prop}
abbrev TO:=St->Hp->(Option Int->Hp->Prop)->Prop
def PO(X:Cx)(e:Option TZ)(t:TO):Prop:=
 ∀(zq:List (Gc×Ef))(s:Gk)(σ:St)(H:Hp)(Q:Option Int->Hp->Prop),zv X zq σ H s->t σ H Q->
  wpAny (Tc X.prog X.w) X.A (evalPart e X.env) (λu s'=>∃o H',zv X zq σ H' s'/\LG u o/\Q o H') X.xe s
def KL:TO:=λ_ H Q=>Q Gh H
inductive uR(Q:Option Int->Hp->Prop)(x:V)(H1:Hp):Prop
 |mk (i:_) (h0:x=.int i) (h1:Q (Ga i) H1):uR Q x H1
def Ct(t:TE):TO:=λσ H Q=>t σ H λx H1=>uR Q x H1
section
variable{X:Cx}{e:TZ}{te:TE}{lo hi:Option TZ}{tl th:TO}{pos p2:SV}
theorem Xo:PO X Gh KL:=by intro a s b H Q I h;rw[Mt];exact Ge {Gh,H,I,.none,h}
theorem Yk(h:PE X e te):PO X (Ga e) (Ct te):=by intro a s g H Q I hw;rw[evalPart_some];refine Yx (h a s g H _ I hw) λu j⟨x,b,c,f,d⟩=>?_;obtain⟨i,rfl,q⟩:=d;obtain⟨t,rfl⟩:=f;exact{Ga i,b,c,.int i t,q}
def pJ(X:Cx)(r:V->Option Int->Option Int->Hp->VK->Prop):Prop:=
 ∀(zq:List (Gc×Ef))(s:Gk)(σ:St)(H:Hp)(x:V)(v b c:Value)(lo hi:Option Int)(a:Gc)(Q:VK),zv X zq σ H s->zu x v->s.heap.IsSliceOf a b c .none->LG b lo->LG c hi->r x lo hi H Q->
  ∃T id,typeLookup (.type T) "__getitem__"=pure (Ga (.builtin id))/\s.TypeIs v T/\wpAny (Tc X.prog X.w) X.A (getItem v (.ref a)) (EP X zq σ Q) X.xe s
def tSl(r:V->Option Int->Option Int->Hp->VK->Prop)(te:TE)(tl th:TO):TE:=λσ H Q=>te σ H λx H1=>tl σ H1 λl H2=>th σ H2 λu a=>r x l u a Q
theorem Yc{r:V->Option Int->Option Int->Hp->VK->Prop}(A:pJ X r)(w:PE X e te)(z:PO X lo tl)(C:PO X hi th):PE X (.Subscript e (.Slice lo hi Gh p2) pos) (tSl r te tl th):=by intro a s d H Q I h;refine FE (Yx (w a s d H _ I h) λv L⟨x,j,m,K,F⟩=>?_);refine wpAny_Slice (Yx (z a L d j _ m F) λf M⟨l,k,n,D,G⟩=>Yx (C a M d k _ n G) λg c⟨u,i,o,E,J⟩=>?_);rw[Mt];refine Ge ?_;have p:zv X a d i {c with heap:=c.heap.push {cls:=.type "slice",data:=.fields #[f,g,.none]}}:=o.kept (t':=c.toks) λb N q=>Heap.get?_push_of_some _ q;obtain⟨T,id,t,B,y⟩:=A a {c with heap:=c.heap.push {cls:=.type "slice",data:=.fields #[f,g,.none]}} d i x v f g l u c.heap.objs.size Q p K (Heap.IsSliceOf.new ..) D E J;show wpAny (Tc X.prog X.w) X.A (subscriptTail e (.Slice lo hi Gh p2) v (.ref c.heap.objs.size)) (EP X a d Q) X.xe {c with heap:=c.heap.push {cls:=.type "slice",data:=.fields #[f,g,.none]}};exact tail_any (ops:=[.ref c.heap.objs.size,v]) B t y (by with_unfolding_all rfl)
def Ja(xs:List V)(lo hi:Option Int):List V:=(xs.drop (HT.Wq xs.length 0 lo)).take (HT.Wq xs.length xs.length hi - HT.Wq xs.length 0 lo)
theorem wh(a:List V)(c b:Option Int):(Ja a c b).length<=a.length:=by unfold Ja;rw[List.length_take,List.length_drop];ext
inductive ue(K:Gd)(x:V)(lo:Option Int)(hi:Option Int)(H:Hp)(Q:VK):Prop
 |mk (a:_) (xs:_) (h0:x=.ref a) (h1:Q9 K H a xs) (h2:¬(HT.Wq xs.length 0 lo=0/\HT.Wq xs.length xs.length hi=xs.length)) (h3:∀p,H p=Gh->Q (.ref p) (zj H p (.tup (Ja xs lo hi)))):ue K x lo hi H Q
def yn(K:Gd):V->Option Int->Option Int->Hp->VK->Prop:=λx lo hi H Q=>ue K x lo hi H Q
theorem Vy:pJ X (yn X.K):=by
 intro k s z H x v w y e f u Q I p l n o h;obtain⟨a,d,rfl,m,hw,q⟩:=h;cases p;obtain⟨g,r,i,j⟩:=I.tuple m;have c:g.toArray.size=d.length:=by rw[List.size_toArray];exact r.length.symm
 exists "tuple",_,Eb.lookup,i.typeIs;refine HT.Ou i l n o (by rw[c];exact hw) ?_ (by rw[c];exact j);rw[c];refine{.ref s.heap.objs.size,_,I.laid (t':=s.toks) (o:=.tup (Ja d e f)) (λb t q=>Heap.get?_push_of_some _ q) (Gm _) ?_,Xb,q _ (I.Z3.fresh (Gm _))};exact{Tw (wh d e f) j,_,(r.drop (HT.Wq d.length 0 e)).take (HT.Wq d.length d.length f - HT.Wq d.length 0 e),RP _ _}
end
def ixN(n:Nat)(i:Int):Option Nat:=if 0<=i then(if i<n then Ga i.toNat else Gh)else if -(n:Int)<=i then Ga (i+n).toNat else Gh
def atI{α:Type}(xs:List α)(i:Int):Option α:=(ixN xs.length i).bind λj=>xs[j]?
theorem K3{i:Int}{j:Nat}(h:ixN n i=Ga j):seqIndex? i n=Ga j/\j<n/\ -(n:Int)<=i/\i<n:=by
 unfold ixN at h;by_cases b:0<=i
 .rw[Gp b]at h;by_cases a:i<n
  .rw[Gp a]at h;have e:i.toNat=j:=Ti h;exact{by rw[Np b a,e],by lia,by lia,a}
  .rw[Gi a]at h;cases h
 .rw[Gi b]at h;by_cases a: -(n:Int)<=i
  .rw[Gp a]at h;have e:(i+n).toNat=j:=Ti h;exact{by rw[MY (by lia) a,e],by lia,a,by lia}
  .rw[Gi a]at h;cases h
theorem qc{a:List α}{i:Int}{v:α}(h:atI a i=Ga v):∃j,seqIndex? i a.length=Ga j/\a[j]?=Ga v/\j<a.length/\ -(a.length:Int)<=i/\i<a.length:=by
 unfold atI at h;cases e:ixN a.length i with
 |none=>rw[e]at h;cases h
 |some j=>rw[e]at h;obtain⟨b,c,d,f⟩:=K3 e;exact⟨j,b,h,c,d,f⟩
theorem Qj{xs:List α}{j:Nat}{v:α}(h:xs[j]?=Ga v):atI xs (j:Int)=Ga v:=by
 have a:j<xs.length:=(List.getElem?_eq_some_iff.mp h).1;have e:ixN xs.length (j:Int)=Ga j:=by unfold ixN;rw[Gp (by lia),Gp (by lia)];simp
 unfold atI;rw[e];exact h
theorem IK(a:List α)(v:α):atI (a++[v]) (-1)=Ga v:=by
 have b:(a++[v]).length=a.length+1:=by simp
 have e:ixN (a++[v]).length (-1)=Ga a.length:=by unfold ixN;rw[b,Gi (by decide),Gp (by ext)];congr 1;ext
 unfold atI;rw[e];show(a++[v])[a.length]?=Ga v;simp
def JX(b:TZ):Prop:=∀o i,subscripted b Gs o i=operate [o,i] (getItem o i)
def jX(X:Cx)(r:R2):Prop:=
 ∀(value a:TZ)(zq:List (Gc×Ef))(s:Gk)(σ:St)(H:Hp)(x y:V)(v u:Value)(Q:VK),zv X zq σ H s->zu x v->zu y u->r x y H Q->
  subscripted a Gs v u=operate [v,u] (getItem v u)->wpAny (Tc X.prog X.w) X.A (subscriptTail value a v u) (EP X zq σ Q) X.xe s
def hH(X:Cx)(id:String)(r:V->List V->Hp->VK->Prop):Prop:=
 ∀(zq:List (Gc×Ef))(s:Gk)(σ:St)(H:Hp)(x:V)(xs:List V)(v:Value)(a:List Value)(Q:VK),zv X zq σ H s->zu x v->Z2 xs a->r x xs H Q->
  wpAny (Tc X.prog X.w) X.A (call (.builtin id) (v::a)) (EP X zq σ Q) X.xe s
section
variable{X:Cx}{a b:TZ}{ta tb:TE}{pos:SV}
theorem Qm{r:R2}(i:jX X r)(f:PE X a ta)(g:PE X b tb)(j:JX b:=by exactλ_ _=>rfl):PE X (.Subscript a b pos) (tOp r ta tb):=by intro c s n H Q I h;exact FE (pR f g I h λv u m x y d e k l q=>i a b c m n d x y v u Q e k l q (j _ _))
inductive ui(K:Gd)(x:V)(y:V)(H:Hp)(Q:VK):Prop
 |mk (p:_) (xs:_) (i:_) (v:_) (h0:x=.ref p) (h1:y=.int i) (h2:Za K H p xs) (h3:atI xs i=Ga v) (h4:Q v H):ui K x y H Q
def yO(K:Gd):R2:=λx y H Q=>ui K x y H Q
inductive qQ(K:Gd)(x:V)(y:V)(H:Hp)(Q:VK):Prop
 |mk (p:_) (xs:_) (i:_) (v:_) (h0:x=.ref p) (h1:y=.int i) (h2:Q9 K H p xs) (h3:atI xs i=Ga v) (h4:Q v H):qQ K x y H Q
def iW(K:Gd):R2:=λx y H Q=>qQ K x y H Q
inductive vK(x:V)(y:V)(H:Hp)(Q:VK):Prop
 |mk (z:_) (i:_) (c:_) (h0:x=.str z) (h1:y=.int i) (h2:z.length<=Gj) (h3:atI z.cps.toList i=Ga c) (h4:Q (.str ⟨#[c]⟩) H):vK x y H Q
def Ks:R2:=λx y H Q=>vK x y H Q
theorem Zc:jX X (yO X.K):=by
 intro l k a s A H x y v u Q I J K h o;obtain⟨p,P,i,z,rfl,rfl,G,E,q⟩:=h;cases J;obtain⟨t,rfl⟩:=K;obtain⟨e,r,f,O⟩:=I.list G;obtain⟨j,c,B,M,C,D⟩:=qc E;obtain⟨w,m,g⟩:=r.get B;have F:=r.length;have N:=Ob;have b:EP X a A Q w s:=⟨z,H,I,g,q⟩;by_cases n:0<=i
 .have d:i.toNat=j:=by rw[Np n D]at c;exact Ti c
  exact item_listR f.isList n (by lia) (by rw[d];simpa using m) b o
 .have d:(i+(e.toArray.size:Int)).toNat=j:=by rw[MY (by lia) C]at c;rw[List.size_toArray,<-F];exact Ti c
  exact EH (x:=w) f.isList.typeIs slot_list_getitem.lookup
   (wpAny_getItem_list_neg (Q:=λr L=>r=w/\EP X a A Q r L) f.isList (by lia) (by rw[List.size_toArray]<;>lia) (by lia) (by rw[d];simpa using m) ⟨Xb,b⟩) o
theorem Qo:jX X (iW X.K):=by
 intro e d a s g H x y v u Q I D E h B;obtain⟨p,N,i,z,rfl,rfl,A,n,q⟩:=h;cases D;obtain⟨t,rfl⟩:=E;obtain⟨C,r,f,M⟩:=I.tuple A;obtain⟨j,l,m,G,J,K⟩:=qc n;obtain⟨w,k,c⟩:=r.get m;have o:=r.length;have L:=Ob;have b:EP X a g Q w s:=⟨z,H,I,c,q⟩;exact EH (x:=w) f.typeIs slot_tuple_getitem.lookup
  (getItem_tuple (j:=j) (Q:=λr F=>r=w/\EP X a g Q r F) f (by ext) (by ext) (by rw[List.size_toArray,<-o];exact l) (by simpa using k) ⟨Xb,b⟩) B
theorem PZ:jX X Ks:=by
 intro b a e s E H x y v u Q I r w h p;obtain⟨z,i,c,rfl,rfl,C,n,q⟩:=h;obtain⟨t,rfl⟩:=r;obtain⟨D,rfl⟩:=w;obtain⟨j,d,k,A,l,m⟩:=qc n;have o:z.cps.toList.length=z.length:=by simp[Str.length]
 rw[o]at d l m;have B:=Ob;exact tail_any (NO s z t) slot_str_getitem.lookup (getItem_str (c:=c) (by have f:decide (i< -(2^63:Int))=Gs:=Gr (by lia);have g:decide (i>=2^63)=Gs:=Gr (by lia);rw[f,g,Mu]) (by rw[d];simpa using k) {.str ⟨#[c]⟩,H,I.tok _,{_,Xb},q}) p
theorem OC(b a:Option Int)(n:Nat):(sliceBounds b a Gh n).1=((HT.Wq n 0 b:Nat):Int)/\(sliceBounds b a Gh n).2.1=((HT.Wq n n a:Nat):Int)/\(sliceBounds b a Gh n).2.2=1:=by
 refine{?_,?_,Xb}
 .cases b with
  |none=>simp[sliceBounds,HT.Wq]
  |some i=>
   simp only[sliceBounds,HT.Wq,Fi,show(1:Int)>0 by decide,Sq];by_cases h:i<0
   .simp only[h,Sq]<;>lia
   .simp only[h,Do]<;>lia
 .cases a with
  |none=>simp[sliceBounds,HT.Wq]
  |some i=>
   simp only[sliceBounds,HT.Wq,Fi,show(1:Int)>0 by decide,Sq];by_cases h:i<0
   .simp only[h,Sq]<;>lia
   .simp only[h,Do]<;>lia
theorem C4(a:List Value)(b c:Option Int):slicePick a.toArray b c Gh=((a.drop (HT.Wq a.length 0 b)).take (HT.Wq a.length a.length c - HT.Wq a.length 0 b)).toArray:=by obtain⟨d,e,f⟩:=OC b c a.toArray.size;unfold slicePick;rw[d,e,f];simp only[sliceRange_one,pick_run,List.size_toArray]<;>rfl
inductive wx(K:Gd)(x:V)(lo:Option Int)(hi:Option Int)(H:Hp)(Q:VK):Prop
 |mk (a:_) (xs:_) (h0:x=.ref a) (h1:Za K H a xs) (h2:∀p,H p=Gh->Q (.ref p) (zj H p (.lst (Ja xs lo hi)))):wx K x lo hi H Q
def PL(K:Gd):V->Option Int->Option Int->Hp->VK->Prop:=λx lo hi H Q=>wx K x lo hi H Q
theorem U1:pJ X (PL X.K):=by intro i s z H x v w y e f u Q I p j n o h;obtain⟨a,c,rfl,k,q⟩:=h;cases p;obtain⟨m,r,g,l⟩:=I.list k;have d:=r.length;exists "list",_,slot_list_getitem.lookup,g.isList.typeIs;refine wpAny_getItem_list_slice g.isList j n o .none (by simp) ?_ (by rw[List.size_toArray]<;>lia);rw[C4,<-d];refine{.ref s.heap.objs.size,_,I.laid (t':=s.toks) (o:=.lst (Ja c e f)) (λb t q=>Heap.get?_push_of_some _ q) (Gm _) ?_,Xb,q _ (I.Z3.fresh (Gm _))};exact{Tw (wh c e f) l,_,0,(r.drop (HT.Wq c.length 0 e)).take (HT.Wq c.length c.length f - HT.Wq c.length 0 e),Heap.get?_push_size _ Xb}
theorem Zs:Um X (.builtin "len") (λxs H Q=>∃p b,xs=[.ref p]/\(Za X.K H p b\/Q9 X.K H p b)/\Q (.int b.length) H):=by
 intro g s m H xs l Q I r h;obtain⟨p,b,rfl,c,q⟩:=h;obtain⟨u,rfl,j⟩:=vals1 r;cases j;have k:=Ob;rcases c with c|c
 .obtain⟨d,f,e,i⟩:=I.list c;have a:=f.length;exact Lp e.isList (by simp only[List.size_toArray]<;>lia) {.int b.length,H,I.tok _,{s.toks+1,by rw[List.size_toArray,a]},q}
 .obtain⟨d,f,e,i⟩:=I.tuple c;have a:=f.length;exact len_tuple e (by simp only[List.size_toArray]<;>lia) {.int b.length,H,I.tok _,{s.toks+1,by rw[List.size_toArray,a]},q}
theorem Ve:Um X (.type "list") (λxs H Q=>∃p g,xs=[.ref p]/\(Za X.K H p g\/Q9 X.K H p g)/\∀l,H l=Gh->Q (.ref l) (zj H l (.lst g))):=by
 intro t s B H xs C Q I r h;obtain⟨p,g,rfl,k,q⟩:=h;obtain⟨u,rfl,A⟩:=vals1 r;cases A;have i:∀(a:List Value),Z2 g a->g.length<=Gj->∀(c:Heap)(d:Nat),(∀b z,s.heap.get? b=Ga z->c.get? b=Ga z)->
   c.get? s.heap.objs.size=Ga {cls:=.type "list",dict:=Gh,data:=.seq a.toArray d,slots:=#[]}->EP X t B Q (.ref s.heap.objs.size) {s with heap:=c}:=λa f l c d m e=>
  {.ref s.heap.objs.size,_,I.laid (t':=s.toks) m (Gm _) (show Ym X.prog X.w _ c _ (.lst g)from⟨l,a,d,f,e⟩),Xb,q _ (I.Z3.fresh (Gm _))}
 rcases k with k|k
 .obtain⟨a,f,y,l⟩:=I.list k;have j:=f.length;obtain⟨o,x,v,n,w⟩:=y.isList;exact Mv p (.inl Xb) x v w (λc d m e=>i a f l c d m e) (by simp only[List.size_toArray]<;>ext)
 .obtain⟨a,f,y,l⟩:=I.tuple k;have j:=f.length;obtain⟨o,x,v,n,w⟩:=y;exact Mv p (.inr Xb) x v w (λc d m e=>i a f l c d m e) (by simp only[List.size_toArray]<;>ext)
theorem Vt:Um X (.type "tuple") (λxs H Q=>∃p d,xs=[.ref p]/\((Za X.K H p d/\∀l,H l=Gh->Q (.ref l) (zj H l (.tup d)))\/(Q9 X.K H p d/\Q (.ref p) H))):=by
 intro a s n H xs x Q I r h;obtain⟨p,d,rfl,h⟩:=h;obtain⟨u,rfl,w⟩:=vals1 r;cases w;rcases h with⟨g,q⟩|⟨g,q⟩
 .obtain⟨c,j,i,m⟩:=I.list g;have l:=j.length;refine call_tuple_list i.isList (λf v=>?_) (by simp only[List.size_toArray]<;>ext);have k:zv X a n H {s with heap:=f}:=I.kept (t':=s.toks) v;have t:zv X a n (zj H f.objs.size (.tup d)) {s with heap:=f.push {cls:=.type "tuple",data:=.seq c.toArray}}:=
   k.laid (t':=s.toks) (λb o e=>Heap.get?_push_of_some _ e) (Gm _) (show Ym X.prog X.w _ _ _ (.tup d)from{m,c,j,RP _ _})
  exact{.ref f.objs.size,_,t,Xb,q _ (k.Z3.fresh (Gm _))}
 .obtain⟨c,j,i,m⟩:=I.tuple g;exact call_tuple_same i {.ref p,H,I,Xb,q}
def tyV(K:Gd)(T:String)(x:V)(H:Hp):Prop:=match x with
 |.str _=>T="str"
 |.int _=>T="int"
 |.ref p=>(T="list"/\∃xs,Za K H p xs)\/(T="tuple"/\∃o,K.lookup p=Ga o/\o.cls=.type "tuple"/\o.dict=Gh)\/
   (T="dict"/\((∃zw,H p=Ga (.dK zw))\/∃zw,H p=Ga (.dT zw)))\/(T="set"/\∃S n,H p=Ga (.set S n))
 |_=>False
theorem wR{f:List (Gc×Ef)}{u:St}{T:String}{x:V}{v:Value}(I:zv X f u H s)(r:zu x v)(ty:tyV X.K T x H):
  s.TypeIs v T/\∀a,v=.ref a->∃k,s.heap.get? a=Ga k/\k.dict=Gh:=by
 cases x with
 |str z=>obtain⟨t,rfl⟩:=r;cases(show T="str"from ty);exact{NO s z t,λ_ e=>nomatch e}
 |int i=>obtain⟨t,rfl⟩:=r;cases(show T="int"from ty);exact{typeIs_int s i t,λ_ e=>nomatch e}
 |ref p=>
  cases r;rcases ty with⟨rfl,w,m⟩|⟨rfl,o,b,l,h⟩|⟨rfl,b⟩|⟨rfl,S,n,b⟩
  .obtain⟨q,_,j,_⟩:=I.list m;refine{j.isList.typeIs,λa e=>?_};cases e;obtain⟨o,n,e,c,h,_⟩:=j;exact⟨o,e,h⟩
  .refine{{o,I.kIn p o b,l},λa e=>?_};cases e;exact{o,I.kIn _ o b,h}
  .have z:∃o,s.heap.get? p=Ga o/\o.ExactDict:=by
    rcases b with⟨j,b⟩|⟨j,b⟩
    .obtain⟨_,_,_,_,o,_,_,e,d,_⟩:=I.Z3 p _ b;exact⟨o,e,d⟩
    .obtain⟨_,_,_,_,o,_,_,e,d,_⟩:=I.Z3 p _ b;exact⟨o,e,d⟩
   obtain⟨o,e,d⟩:=z;refine{{o,e,d.1},λa g=>?_};cases g;exact{o,e,d.2.1}
  .obtain⟨o,_,_,_,e,d,_⟩:=I.Z3 p _ b;refine{{o,e,d.1},λa g=>?_};cases g;exact{o,e,d.2.1}
 |_=>exact False.elim ty
def Bn(K:Gd)(T:String)(r:V->List V->Hp->VK->Prop)(to:TE):TE:=λσ H Q=>to σ H λx H1=>tyV K T x H1/\r x [] H1 Q
def tBM(K:Gd)(T:String)(r:V->List V->Hp->VK->Prop)(to:TE)(t:TA):TE:=λσ H Q=>to σ H λx H1=>tyV K T x H1/\t σ H1 λxs H2=>r x xs H2 Q
variable{o e:TZ}{es:List TZ}{to:TE}{t:TA}{name:Tb}{apos cpos:SV}{T id:String}{r:V->List V->Hp->VK->Prop}
theorem jx(n:NP T)(slot:Slot T name id)(d:typeOf (.builtin id)=pure (.type "method_descriptor"))(l:hH X id r)(m:PE X o to)
  (b:attributeBase o name X.env (eval o X.env)=eval o X.env:=by rfl)(c:(apos.endLine==cpos.line)=Gf:=by rfl):PE X (.Call (.Attribute o name apos) [] [] cpos) (Bn X.K T r to):=by
 intro a s g H Q I h;refine SF b c (Yx (m a s g H _ I h) λv q⟨x,i,e,f,ty,p⟩=>?_);obtain⟨j,k⟩:=wR e f ty;exact{T,id,n,slot,d,j,k,Eh rfl (Ls (l a q g i x [] v [] Q e f .nil p))}
theorem X0(B:NP T)(slot:Slot T name id)(g:typeOf (.builtin id)=pure (.type "method_descriptor"))(y:hH X id r)(z:PE X o to)(w:PA X (e::es) t)
  (c:attributeBase o name X.env (eval o X.env)=eval o X.env:=by rfl)
  (f:((DS cpos (Tj (e::es) X.env)).all (λx=>!x.1)&&(backToKw cpos (keywordEach [] X.env)).all (λx=>x.1.isSome)
   &&decide ((e::es).length+([]:List LX).length+(if([]:List LX).isEmpty then 0 else 1)<30))=Gf:=by rfl)
  (d:(apos.endLine==cpos.line)=Gf:=by rfl)(A:Tj (e::es) X.env=(Gs,eval e X.env)::Tj es X.env:=by rfl)(b:(DS cpos (Tj es X.env)).any (·.1)=Gs:=by rfl):
  PE X (.Call (.Attribute o name apos) (e::es) [] cpos) (tBM X.K T r to t):=by
 intro a s i H Q I h;refine SR c f d rfl (Yx (z a s i H _ I h) λv F⟨x,m,j,l,ty,C⟩=>?_);obtain⟨q,u⟩:=wR j l ty;exists T,id,B,slot,g,q,u;have k:=w cpos a F i m _ j C;rw[A]at k⊢;refine Eh (by show(Gs||(DS cpos (Tj es X.env)).any (·.1))=Gs;rw[b]<;>rfl) (Lg ?_);exact Yx k λJ G⟨K,n,p,E,D⟩=>y a G i n x K v J Q p l E D
end
def qt(X:Cx)(id:String)(r:V->List V->Hp->VK->Prop):Prop:=
 ∀(zq:List (Gc×Ef))(s:Gk)(σ:St)(H:Hp)(x:V)(xs:List V)(v:Value)(a:List Value)(Q:VK),zv X zq σ H s->zu x v->Z2 xs a->r x xs H Q->
  wpAny (Tc X.prog X.w) X.A (call (.builtin id) (v::a)) (EP X zq σ Q) X.xe s
theorem Z2.one:∀{x:V}{a:List Value},Z2 [x] a->∃u,a=[u]/\zu x u:=by intro x a h;cases h with|cons r h=>cases h;exact⟨_,Xb,r⟩
theorem Z2.zero:∀{a:List Value},Z2 [] a->a=[]
 |_,.nil=>rfl
theorem Z2.dropLast{b:List V}{a:List Value}(h:Z2 b a):Z2 b.dropLast a.dropLast:=by
 induction h with
 |nil=>exact .nil
 |cons r t c=>
  cases t with
  |nil=>exact .nil
  |cons q d=>exact .cons r c
theorem Bs(l:List α):l.eraseIdx (l.length - 1)=l.dropLast:=by
 induction l with
 |nil=>rfl
 |cons a r c=>
  cases r with
  |nil=>rfl
  |cons b r=>
   have e:(a::b::r).length - 1=((b::r).length - 1)+1:=by have d:(a::b::r).length=r.length+2:=rfl;have f:(b::r).length=r.length+1:=rfl;lia
   rw[e,List.eraseIdx_cons_succ,c];all_goals rfl
section
variable{X:Cx}{zq:List (Gc×Ef)}{σ:St}{H:Hp}{s:Gk}{l b:Gc}{xs ys zs:List V}
theorem zv.l7{a its':List Value}{f:Array Value->Array Value}(I:zv X zq σ H s)(b:H l=Ga (.lst xs))
  (e:s.heap.get? l=Ga {cls:=.type "list",data:=.seq a.toArray n})(d:f a.toArray=its'.toArray)(h:Z2 ys its')(i:ys.length<=Gj):
  zv X zq σ (zj H l (.lst ys)) {s with heap:=s.heap.update l (Et f),toks:=t'}:=by
 have q:=RQ e f;rw[d]at q;refine I.write (x:=l) (e:=l) (by rw[b];exact trivial) (.inl Xb) (λj u c g=>(Heap.get?_update_other s.heap (Et f) (Gn c)).trans g) {_,q} ?_;exact{i,its',_,h,q}
theorem zv.yD{its:List Value}(I:zv X zq σ H s)(a:Z2 ys its)(b:ys.length<=Gj):
  zv X zq σ (zj H s.heap.objs.size (.lst ys)) {s with heap:=s.heap.push {cls:=.type "list",data:=.seq its.toArray},toks:=t'}:=
 I.laid (λ_ _ q=>Heap.get?_push_of_some _ q) (Gm _) {b,its,0,a,Heap.get?_push_size _ Xb}
theorem zv.fresh(I:zv X zq σ H s):H s.heap.objs.size=Gh:=I.Z3.fresh (Gm _)
theorem zv.iV(I:zv X zq σ H s)(b:H l=Ga (.lst xs)):xs.length<=Gj/\∃(a:List Value)(n:Nat),Z2 xs a/\xs.length=a.length/\s.heap.get? l=Ga {cls:=.type "list",data:=.seq a.toArray n}:=by obtain⟨z,a,n,r,e⟩:=I.Z3 l _ b;exact{z,a,n,r,r.length,e}
theorem Pz(h:n<=Gj):Builtin.List.listTooLong n=Gs:=by unfold Builtin.List.listTooLong;exact Gr (by lia)
end
section
variable{X:Cx}
inductive qB(x:V)(vs:List V)(H:Hp)(Q:VK):Prop
 |mk (l:_) (xs:_) (y:_) (h0:x=.ref l) (h1:vs=[y]) (h2:H l=Ga (.lst xs)) (h3:xs.length<Gj) (h4:Q .non (zj H l (.lst (xs++[y])))):qB x vs H Q
def OF:V->List V->Hp->VK->Prop:=λx a H Q=>qB x a H Q
theorem Zy:qt X "list.append" OF:=by intro c s p H x m v k Q I g f h;obtain⟨l,o,y,rfl,rfl,b,j,q⟩:=h;cases g;obtain⟨u,rfl,d⟩:=f.one;obtain⟨z,a,n,r,i,e⟩:=I.iV b;refine LH F.slot_list_append {_,e,Xb} F.entry_list_append (F.args_list_append_2 _ _) (LY l a.toArray n u (by rw[List.size_toArray];ext)) {e,?_};refine{.non,_,I.l7 (its':=a++[u]) b e (by simp) (r.append (.cons d .nil)) ?_,Xb,q};rw[List.length_append,List.length_singleton];ext
inductive vJ(x:V)(vs:List V)(H:Hp)(Q:VK):Prop
 |mk (l:_) (b:_) (xs:_) (zs:_) (h0:x=.ref l) (h1:vs=[.ref b]) (h2:H l=Ga (.lst xs)) (h3:H b=Ga (.lst zs)) (h4:xs.length+zs.length<=Gj) (h5:Q .non (zj H l (.lst (xs++zs)))):vJ x vs H Q
def BC:V->List V->Hp->VK->Prop:=λx a H Q=>vJ x a H Q
theorem o9:qt X "list.extend" BC:=by
 intro i s J H x C v B Q I w t h;obtain⟨l,b,D,G,rfl,rfl,g,k,A,q⟩:=h;cases w;obtain⟨u,rfl,p⟩:=t.one;cases p;obtain⟨z,c,n,r,y,e⟩:=I.iV g;obtain⟨E,a,n2,o,m,j⟩:=I.iV k;have f:c.toArray.size+a.toArray.size<=Gj:=by rw[List.size_toArray,List.size_toArray];lia
 have d:¬(!c.toArray.isEmpty&&Builtin.List.listTooLong (c.toArray.size+a.toArray.size))=Gf:=by rw[Pz f,Bool.and_false];exact GJ
 refine LH F.slot_list_extend {_,e,Xb} F.entry_list_extend (F.args_list_extend_2 _ _)
  (LZ l c.toArray n b a.toArray n2 d (by rw[List.size_toArray];lia) (by lia)) {e,j,?_}
 refine{.non,_,I.l7 (its':=c++a) g e (by simp) (r.append o) ?_,Xb,q};rw[List.length_append];lia
inductive vY(x:V)(vs:List V)(H:Hp)(Q:VK):Prop
 |mk (l:_) (xs:_) (y:_) (h0:x=.ref l) (h1:vs=[]) (h2:H l=Ga (.lst xs)) (h3:xs[xs.length - 1]?=Ga y) (h4:Q y (zj H l (.lst xs.dropLast))):vY x vs H Q
def AI:V->List V->Hp->VK->Prop:=λx a H Q=>vY x a H Q
theorem jr:qt X "list.pop" AI:=by
 intro f s A H x t v p Q I o m h;obtain⟨l,w,y,rfl,rfl,d,j,q⟩:=h;cases o;have b:=m.zero;subst b;obtain⟨z,a,n,r,g,e⟩:=I.iV d;obtain⟨u,i,k⟩:=r.get j;have c:a.toArray[a.toArray.size - 1]?=Ga u:=by show a.toArray[a.length - 1]?=Ga u;rw[<-T4,<-g];exact i
 refine LH F.slot_list_pop {_,e,Xb} F.entry_list_pop (F.args_list_pop_1 _) (MZ l a.toArray n u c (by rw[List.size_toArray];ext)) {e,?_};refine{y,_,I.l7 (its':=a.dropLast) d e ?_ r.dropLast ?_,k,q}
 .show a.toArray.eraseIdxIfInBounds (a.toArray.size - 1)=a.dropLast.toArray;rw[List.size_toArray,List.eraseIdxIfInBounds_toArray,Bs]
 .rw[List.length_dropLast];ext
inductive wN(x:V)(y:V)(H:Hp)(Q:VK):Prop
 |mk (l:_) (b:_) (xs:_) (zs:_) (h0:x=.ref l) (h1:y=.ref b) (h2:H l=Ga (.lst xs)) (h3:H b=Ga (.lst zs)) (h4:xs.length+zs.length<=Gj) (h5:∀p,H p=Gh->Q (.ref p) (zj H p (.lst (xs++zs)))):wN x y H Q
def OP:R2:=λx y H Q=>wN x y H Q
theorem V0:Oc X (binaryOp .Add) OP:=by
 intro d s D H x y v u Q I o p h;obtain⟨l,b,A,C,rfl,rfl,j,i,w,q⟩:=h;cases o;cases p;obtain⟨z,c,n,r,t,e⟩:=I.iV j;obtain⟨B,a,n2,m,k,f⟩:=I.iV i;refine RS e f ?_ (by rw[List.size_toArray,List.size_toArray];ext);have g:c.toArray++a.toArray=(c++a).toArray:=by simp
 rw[g];exact{.ref _,_,I.yD (t':=s.toks) (r.append m) (by rw[List.length_append];ext),Xb,q _ I.fresh}
end
section
variable{κ:Type}[DecidableEq κ]
def Xh(zw:List (κ×V))(k:κ):Option V:=(zw.find? λa=>decide (a.1=k)).map (·.2)
def Vm(zw:List (κ×V))(k:κ)(v:V):List (κ×V):=
 if(zw.any λa=>decide (a.1=k))=Gf then zw.map (λa=>if a.1=k then(a.1,v)else a)else zw++[(k,v)]
theorem m8{k:κ}:Xh ([]:List (κ×V)) k=Gh:=rfl
theorem X6{p:κ×V}{r:List (κ×V)}{k:κ}(e:p.1=k):Xh (p::r) k=Ga p.2:=by simp[Xh,List.find?_cons,e]
theorem Xv{p:κ×V}{r:List (κ×V)}{k:κ}(e:¬p.1=k):Xh (p::r) k=Xh r k:=by simp[Xh,List.find?_cons,e]
theorem Jb(k:κ):∀a:List (κ×V),(a.any λb=>decide (b.1=k))=(Xh a k).isSome
 |[]=>rfl
 |p::r=>by
  rw[List.any_cons];by_cases e:p.1=k
  .simp only[X6 e,Gw e,Bool.true_or,LI]
  .rw[Xv e,Gr e,Bool.false_or];exact Jb k r
theorem yj(k j:κ)(y:V):∀a:List (κ×V),Xh (a.map λb=>if b.1=k then(b.1,y)else b) j=(Xh a j).map λx=>if j=k then y else x
 |[]=>rfl
 |p::r=>by
  have b:=yj k j y r;rw[List.map_cons];by_cases h:p.1=k
  .rw[Gp h];by_cases e:p.1=j
   .rw[X6 (p:=(p.1,y)) e,X6 e,TV,Gp (e.symm.trans h)]
   .rw[Xv (p:=(p.1,y)) e,Xv e,b]
  .rw[Gi h];by_cases e:p.1=j
   .rw[X6 (p:=p) e,X6 e,TV,Gi (λz=>h (e.trans z))]
   .rw[Xv (p:=p) e,Xv e,b]
theorem nO(k j:κ)(y:V):∀a:List (κ×V),Xh a k=Gh->Xh (a++[(k,y)]) j=if j=k then Ga y else Xh a j
 |[],_=>by
  by_cases e:k=j
  .rw[Gp e.symm];exact X6 (p:=(k,y)) e
  .rw[Gi (λz=>e z.symm)];exact Xv (p:=(k,y)) e
 |p::r,b=>by
  rw[List.cons_append];have c:¬p.1=k:=λz=>by rw[X6 z]at b;cases b
  rw[Xv c]at b;have d:=nO k j y r b;by_cases e:p.1=j
  .rw[X6 e,X6 e,Gi (λz=>c (e.trans z))]
  .rw[Xv e,Xv e,d]
theorem ql(b:List (κ×V))(k j:κ)(y:V):Xh (Vm b k y) j=if j=k then Ga y else Xh b j:=by
 unfold Vm;by_cases a:(b.any λc=>decide (c.1=k))=Gf
 .rw[Gp a,yj];rw[Jb]at a;by_cases e:j=k
  .obtain⟨x,c⟩:=Sx.mp a;rw[Gp e,e,c,TV,Gp rfl]
  .rw[Gi e];cases Xh b j with
   |none=>rfl
   |some x=>rw[TV,Gi e]
 .rw[Gi a];refine nO k j y b ?_;rw[Jb]at a;cases q:Xh b k with
  |none=>rfl
  |some x=>rw[q]at a;exact(a Xb).elim
theorem Wp(a:List (κ×V))(k:κ)(v:V):(Vm a k v).length<=a.length+1:=by
 unfold Vm;split
 .rw[List.length_map];ext
 .rw[List.length_append,List.length_cons,List.length_nil];ext
theorem B1{a:List (κ×V)}{k:κ}(v:V)(h:Xh a k=Gh):Vm a k v=a++[(k,v)]:=by unfold Vm;rw[Jb,h];exact Gi (by decide)
theorem Ib.Wn{o:Option V}{u:Option Value}(r:Ib o u):o.isSome=u.isSome:=by
 cases o with
 |none=>cases u with
  |none=>rfl
  |some _=>exact(show False from r).elim
 |some _=>cases u with
  |none=>exact(show False from r).elim
  |some _=>rfl
theorem KV.val{a:List (κ×V)}{g:List (κ×Value)}(r:KV a g)(k:κ):Ib (Xh a k) (valueAt g k):=by
 unfold KV at r;induction r with
 |nil=>exact T9
 |@cons p q l d h t j=>
  obtain⟨f,i⟩:=h;by_cases e:p.1=k
  .have c:q.1=k:=f.symm.trans e;have b:valueAt (q::d) k=Ga q.2:=by simp[valueAt,List.find?_cons,c]
   rw[X6 e,b];exact i
  .have c:¬q.1=k:=λz=>e (f.trans z);have b:valueAt (q::d) k=valueAt d k:=by simp[valueAt,List.find?_cons,c]
   rw[Xv e,b];exact j
theorem KV.any{a:List (κ×V)}{c:List (κ×Value)}(r:KV a c)(k:κ):(a.any λb=>decide (b.1=k))=c.any λb=>decide (b.1=k):=by
 unfold KV at r;induction r with
 |nil=>rfl
 |cons h t d=>rw[List.any_cons,List.any_cons,d,h.1]
theorem KV.nL{b:List (κ×V)}{d:List (κ×Value)}(r:KV b d)(k:κ)(i:zu y u):
  KV (b.map λa=>if a.1=k then(a.1,y)else a) (d.map λa=>if a.1=k then(a.1,u)else a):=by
 unfold KV at r⊢;induction r with
 |nil=>exact .nil
 |@cons p q j l h t g=>
  rw[List.map_cons,List.map_cons];refine .cons ?_ g;obtain⟨c,f⟩:=h;by_cases e:p.1=k
  .rw[Gp e,Gp (c.symm.trans e)];exact⟨c,i⟩
  .rw[Gi e,Gi (λz=>e (c.trans z))];exact⟨c,f⟩
theorem KV.put{a:List (κ×V)}{b:List (κ×Value)}(r:KV a b)(k:κ)(c:zu y u):KV (Vm a k y) (stored b k u):=by
 unfold Vm stored;rw[r.any k];by_cases e:(b.any λd=>decide (d.1=k))=Gf
 .rw[Gp e,Gp e];exact r.nL k c
 .rw[Gi e,Gi e];exact DU r ⟨Xb,c⟩
theorem KV.length{a:List (κ×V)}{b:List (κ×Value)}(r:KV a b):a.length=b.length:=Gq r
end
theorem js{k:X7}(r:zu (kV k) u):(Yt P w).is k u=Gf:=by
 cases k with
 |inl i=>obtain⟨t,e⟩:=(show∃t,u=Value.int i t from r);subst e;exact BF P w i t
 |inr x=>obtain⟨t,e⟩:=(show∃t,u=Value.str x t from r);subst e;exact Bt P w x t
theorem yN{P:Gg}{w:Gu}:∀{a:List X7}{b:List Value},Z2 (a.map kV) b->ItemsAre (Yt P w) a b
 |[],_,r=>by rw[List.map_nil]at r;cases r;exact .nil
 |k::a,_,r=>by
  rw[List.map_cons]at r;cases r with
  |cons h t=>exact .cons (js h) (yN t)
abbrev KT(H:Hp):List (List X7×V)->List (List X7×Gc×Value)->Prop:=Paired λp q=>p.1=q.1/\H q.2.1=Ga (.tup (p.1.map kV))/\zu p.2 q.2.2
theorem KT.val(r:KT H zw xs)(k:List X7):Ib (Xh zw k) ((atKey xs k).map (·.2)):=by
 induction r with
 |nil=>exact T9
 |@cons p q i c h t g=>
  obtain⟨d,_,f⟩:=h;by_cases e:p.1=k
  .have a:q.1=k:=d.symm.trans e;have b:atKey (q::c) k=Ga q.2:=by simp[atKey,List.find?_cons,a]
   rw[X6 e,b];exact f
  .have a:¬q.1=k:=λz=>e (d.trans z);have b:atKey (q::c) k=atKey c k:=by simp[atKey,List.find?_cons,a]
   rw[Xv e,b];exact g
theorem KT.nL(r:KT H zw xs)(k:List X7)(f:zu y u):
  KT H (zw.map λa=>if a.1=k then(a.1,y)else a) (xs.map (putAt k u)):=by
 induction r with
 |nil=>exact .nil
 |@cons p q g i h t d=>
  rw[List.map_cons,List.map_cons];refine .cons ?_ d;obtain⟨a,b,c⟩:=h;unfold putAt;by_cases e:p.1=k
  .rw[Gp e,Gp (a.symm.trans e)];exact⟨a,b,f⟩
  .rw[Gi e,Gi (λz=>e (a.trans z))];exact⟨a,b,c⟩
theorem KT.put(r:KT H zw xs)(k:List X7)(c:H b=Ga (.tup (k.map kV)))(a:zu y u):
  KT H (Vm zw k y) (storedH xs k b u):=by
 have e:(zw.any λd=>decide (d.1=k))=(atKey xs k).isSome:=by rw[Jb,(r.val k).Wn,DZ]
 unfold Vm storedH;rw[e];by_cases q:(atKey xs k).isSome=Gf
 .rw[Gp q,Gp q];exact r.nL k a
 .rw[Gi q,Gi q];exact DU r ⟨Xb,c,a⟩
theorem KT.keeps(r:KT H zw xs)(c:∀b a,H b=Ga (.tup a)->H' b=Ga (.tup a)):KT H' zw xs:=
 Paired.Z8 r λ_ _ z=>{z.1,c _ _ z.2.1,z.2.2}
section
variable{P:Gg}{w:Gu}{H:Hp}{h:Heap}{a:Gc}
theorem uP{u:HO}(ok:Rp P w H h)(e:Rd H a u):Ym P w H h a u:=e.ok ok
theorem jo{b:List (X7×V)}(ok:Rp P w H h)(e:Rd H a (.dK b)):b.length<=Gj/\(a==T8)=Gs/\∃c,KV b c/\h.DictOf (Yt P w) a c:=
 show Ym P w H h a (.dK b)from uP ok e
theorem lB{b:List (X7×V)}(ok:Rp P w H h)(e:H a=Ga (.dK b)):b.length<=Gj/\(a==T8)=Gs/\∃c,KV b c/\h.DictOf (Yt P w) a c:=jo ok (.inl e)
theorem je{c:List X7}(ok:Rp P w H h)(e:H a=Ga (.tup (c.map kV))):(tupleKind (Yt P w)).is h c a:=by obtain⟨_,b,r,o,d,f,n,g⟩:=(show Ym P w H h a (.tup (c.map kV))from ok a _ e);exact{o,b.toArray,n,d,f,g,by simpa using yN r}
theorem kr(ok:Rp P w H h)(e:Rd H a (.dT zw)):zw.length<=Gj/\(a==T8)=Gs/\
  ∃c,KT H zw c/\h.DictOfH (tupleKind (Yt P w)) a c:=by
 obtain⟨z,y,c,r,o,g,f,i,j,k,n,s⟩:=(show Ym P w H h a (.dT zw)from uP ok e);refine{z,y,c,r,o,g,f,i,j,k,n,λx b=>?_,s};have all:∀{l:List (List X7×V)}{m:List (List X7×Gc×Value)},KT H l m->∀x∈m,(tupleKind (Yt P w)).is h x.1 x.2.1:=by
  intro l m q;induction q with
  |nil=>intro x b;exact nomatch b
  |@cons p q v A d t u=>
   intro x b;rcases List.mem_cons.mp b with e|b
   .subst e;exact je ok (by rw[<-d.1];exact d.2.1)
   .exact u x b
 exact all r x b
theorem vE(ok:Rp P w H h)(e:H a=Ga (.dT zw)):zw.length<=Gj/\(a==T8)=Gs/\
  ∃b,KT H zw b/\h.DictOfH (tupleKind (Yt P w)) a b:=kr ok (.inl e)
end
def Vf(H:Hp)(a:Gc)(y:V)(r:Option V):Prop:=
 (∃zw k,Rd H a (.dK zw)/\y=kV k/\r=Xh zw k)\/∃zw k b,Rd H a (.dT zw)/\y=.ref b/\H b=Ga (.tup (k.map kV))/\r=Xh zw k
def Rm(H:Hp)(a:Gc)(y v:V)(H':Hp):Prop:=
 (∃zw k,H a=Ga (.dK zw)/\y=kV k/\zw.length<Gj/\H'=zj H a (.dK (Vm zw k v)))\/
 ∃zw k b,H a=Ga (.dT zw)/\y=.ref b/\H b=Ga (.tup (k.map kV))/\zw.length<Gj/\H'=zj H a (.dT (Vm zw k v))
theorem Vf.k{H:Hp}{a:Gc}{b:List (X7×V)}{k:X7}(e:H a=Ga (.dK b)):Vf H a (kV k) (Xh b k):=.inl {b,k,.inl e,Xb,Xb}
theorem Vf.t{k:List X7}(e:H a=Ga (.dT zw))(c:H b=Ga (.tup (k.map kV))):Vf H a (.ref b) (Xh zw k):=.inr {zw,k,b,.inl e,Xb,c,Xb}
theorem Rm.k{H:Hp}{a:Gc}{b:List (X7×V)}{k:X7}{v:V}(e:H a=Ga (.dK b))(c:b.length<Gj):Rm H a (kV k) v (zj H a (.dK (Vm b k v))):=.inl ⟨b,k,e,Xb,c,Xb⟩
theorem Rm.t{k:List X7}{v:V}(e:H a=Ga (.dT zw))(c:H b=Ga (.tup (k.map kV)))(d:zw.length<Gj):
  Rm H a (.ref b) v (zj H a (.dT (Vm zw k v))):=.inr ⟨zw,k,b,e,Xb,c,d,Xb⟩
section
variable{X:Cx}{zq:List (Gc×Ef)}{σ:St}{H:Hp}{s:Gk}{a:Gc}{y v:V}{u r:Value}{o:Option V}{A:TQ}{E:Value->Gk->Prop}
theorem zv.big(I:zv X zq σ H s):T8<s.heap.objs.size:=by have h:T2<s.heap.objs.size:=(I.mod.glob.keeps I.bk).lt;exact M1 (by decide) h
theorem PK(t:A.units+1<DA)(I:zv X zq σ H s)(g:Vf H a y (Ga v))(n:zu y u)(h:∀f m,zv X zq σ H m->zu v f->Q f m):
  wpAny (Tc X.prog X.w) A (getItem (.ref a) u) Q E s:=by
 rcases g with⟨m,k,e,j,l⟩|⟨m,k,b,e,j,o,l⟩
 .subst j;obtain⟨z,q,m,c,i⟩:=jo I.Z3 e;obtain⟨f,hw,d⟩:=Ib.some_of (v:=v) (o:=valueAt m k) (by rw[l];exact c.val k);exact wpAny_getItem_of (js n) i.mapOf hw (h f _ (I.tok _) d)
 .subst j;cases(show u=Value.ref b from n);obtain⟨z,q,w,c,i⟩:=kr I.Z3 e;obtain⟨f,hw,d⟩:=Ib.some_of (v:=v) (o:=(atKey w k).map (·.2)) (by rw[l];exact c.val k);obtain⟨p,r,m⟩:=EI.mp hw;refine LJ (Ei t) (je I.Z3 o) i r ?_;rw[m];exact h f _ (I.tok _) d
theorem AU(p:A.units+1<DA)(I:zv X zq σ H s)(g:Vf H a y o)(m:zu y u)(h:∀j,zv X zq σ H j->Q (.bool o.isSome) j):
  wpAny (Tc X.prog X.w) A (T6 .In u (.ref a)) Q E s:=by
 rcases g with⟨j,k,e,f,l⟩|⟨j,k,b,e,f,n,l⟩
 .subst f;obtain⟨z,i,j,c,d⟩:=jo I.Z3 e;refine wpAny_in_of (js m) i d.mapOf ?_;rw[<-(c.val k).Wn,<-l];exact h _ (I.tok _)
 .subst f;cases(show u=Value.ref b from m);obtain⟨z,i,j,c,d⟩:=kr I.Z3 e;refine Mw (Ei p) (je I.Z3 n) i d ?_;have q:=(c.val k).Wn;rw[DZ]at q;rw[<-q,<-l];exact h _ (I.tok _)
theorem Kl(p:A.units+1<DA)(I:zv X zq σ H s)(g:Vf H a y o)(m:zu y u)(h:∀j,zv X zq σ H j->Q (.bool (!o.isSome)) j):
  wpAny (Tc X.prog X.w) A (T6 .NotIn u (.ref a)) Q E s:=by
 rcases g with⟨j,k,e,f,l⟩|⟨j,k,b,e,f,n,l⟩
 .subst f;obtain⟨z,i,j,c,d⟩:=jo I.Z3 e;refine wpAny_notIn_of (js m) i d.mapOf ?_;rw[<-(c.val k).Wn,<-l];exact h _ (I.tok _)
 .subst f;cases(show u=Value.ref b from m);obtain⟨z,i,j,c,d⟩:=kr I.Z3 e;refine Fj (Ei p) (je I.Z3 n) i d ?_;have q:=(c.val k).Wn;rw[DZ]at q;rw[<-q,<-l];exact h _ (I.tok _)
theorem I9{c:Heap}{ob:HO}(I:zv X zq σ H s)(h:kY (H a))(g:Heap.SameBut a s.heap c)(f:∃q,c.get? a=Ga q)(d:Ym X.prog X.w (zj H a ob) c a ob):
  zv X zq σ (zj H a ob) {s with heap:=c,toks:=t'}:=
 I.write (x:=a) (e:=a) h (.inl Xb) (λb q e z=>(g.2 b e).trans z) f d
theorem rK{e:Heap}{b:List (X7×V)}{d:List (X7×Value)}(z:b.length<=Gj)(g:(a==T8)=Gs)(c:KV b d)(f:e.DictOf (Yt P w) a d):
  Ym P w H' e a (.dK b):=⟨z,g,d,c,f⟩
theorem OW{Q:Unit->Gk->Prop}(O:A.units+1<DA)(I:zv X zq σ H s)(g:Rm H a y v H')(F:zu y u)(D:zu v r)(h:∀l,zv X zq σ H' l->Q () l):
  wpAny (Tc X.prog X.w) A (setItem (.ref a) u r) Q E s:=by
 rcases g with⟨d,k,e,o,l,n⟩|⟨d,k,b,e,o,B,l,n⟩
 .subst o n;obtain⟨z,p,G,f,m⟩:=lB I.Z3 e;have x:G.length<=Gj:=by rw[<-f.length];exact z
  have t:(Vm d k v).length<=Gj:=by have:=Wp d k v;ext
  refine wpAny_setItem_pairs (hsz:=x) (js F) m λC i w=>h _ ?_;have l:∃q,C.get? a=Ga q:=let⟨q,_,_,j,_⟩:=i;⟨q,j⟩;exact I9 I (by rw[e];exact T9) w l (rK t p (f.put k D) i)
 .subst o n;cases(show u=Value.ref b from F);obtain⟨z,p,P,f,m⟩:=vE I.Z3 e;have x:P.length<=Gj:=by rw[<-Gq f];exact z
  have t:(Vm d k v).length<=Gj:=by have:=Wp d k v;ext
  refine LK (hsz:=x) (Ei O) (je I.Z3 B) m λC i w=>h _ ?_;obtain⟨q,J,G,j,K,L,M,_,N⟩:=i;refine I9 I (by rw[e];exact T9) w ⟨q,j⟩ {t,p,_,(f.put k B D).keeps λc R l=>?_,q,J,G,j,K,L,M,N};rw[Qg (Zo l e nofun)];exact l
end
section
variable{X:Cx}{zq:List (Gc×Ef)}{σ:St}{H:Hp}{s:Gk}{a:Gc}{zw:List (X7×V)}{k:X7}{u:Value}{A:TQ}{E:Value->Gk->Prop}
theorem Hw(I:zv X zq σ H s)(e:Rd H a (.dK zw))(h:∀t b,zv X zq σ H b->Q (.int zw.length t) b):wpAny (Tc X.prog X.w) A (call (.builtin "len") [.ref a]) Q E s:=by obtain⟨z,d,f,b,c⟩:=jo I.Z3 e;refine call_len_dict d c (by rw[<-b.length];rw[GV]at z;lia) ?_;rw[<-b.length];exact h _ _ (I.tok _)
end
def xG(i:TZ):Prop:=∀ov a,subscripted i Gs ov a=operate [ov,a] (getItem ov a)
theorem KQ{a:Gg}{A:TQ}{E:Value->Gk->Prop}{j:Fd}{c b:TZ}{m:SV}{T id:String}
  (p:typeLookup (.type T) "__getitem__"=pure (Ga (.builtin id)))(q:xG b)
  (h:wpAny (Tc a w) A (eval c j) (λo f=>wpAny (Tc a w) A (eval b j) (λi d=>d.TypeIs o T/\wpAny (Tc a w) A (getItem o i) Q E d) E f) E s):
  wpAny (Tc a w) A (eval (.Subscript c b m) j) Q E s:=by
 refine FE (DE h (λo f l=>DE l (λi d e=>?_) λ_ _ x=>x) λ_ _ x=>x);obtain⟨n,e⟩:=e;unfold subscriptTail;refine Gb ?_;rw[getitemInPython_of_ne n.not_modules];refine Gb (DQ n p ?_);have k:wpAny (Tc a w) A (subscripted b Gs o i) (λr g=>wpAny (Tc a w) A (letTemporaryGo c o r>>=λ_=>pure r) Q E g) E d:=by rw[q o i];exact wpAny_operating (DE e (λr g l=>Gb (wpAny_letTemporaryGo (Ge l))) λ_ _ x=>x)
 first
  |exact Ge (Gb k)
  |exact Gb (Ge (Gb k))
  |exact Gb k
theorem Ky{X:Cx}{c:List (Gc×Ef)}{h:St}{o:Option V}(I:zv X c h H s)(g:Vf H a y o):s.TypeIs (.ref a) "dict":=by
 rcases g with⟨f,k,e,_,_⟩|⟨f,k,b,e,_,_,_⟩
 .obtain⟨_,_,i,_,d⟩:=jo I.Z3 e;exact d.typeIs
 .obtain⟨_,_,i,_,d⟩:=kr I.Z3 e;exact d.typeIs
inductive yA(Q:VK)(x:V)(y:V)(H2:Hp):Prop
 |mk (a:_) (v:_) (h0:x=.ref a) (h1:Vf H2 a y (Ga v)) (h2:Q v H2):yA Q x y H2
def ko(td ty:TE):TE:=λσ H Q=>td σ H λx H1=>ty σ H1 λy H2=>yA Q x y H2
inductive rh(Q:VK)(y:V)(x:V)(H2:Hp):Prop
 |mk (a:_) (o:_) (h0:x=.ref a) (h1:Vf H2 a y o) (h2:Q (.bl o.isSome) H2):rh Q y x H2
def Aq(ty td:TE):TE:=λσ H Q=>ty σ H λy H1=>td σ H1 λx H2=>rh Q y x H2
inductive xZ(Q:VK)(y:V)(x:V)(H2:Hp):Prop
 |mk (a:_) (o:_) (h0:x=.ref a) (h1:Vf H2 a y o) (h2:Q (.bl (!o.isSome)) H2):xZ Q y x H2
def JZ(ty td:TE):TE:=λσ H Q=>ty σ H λy H1=>td σ H1 λx H2=>xZ Q y x H2
inductive zB(D:Ends)(σ:St)(v:V)(x:V)(y:V)(H3:Hp):Prop
 |mk (a:_) (H4:_) (h0:x=.ref a) (h1:Rm H3 a y v H4) (h2:D.nx σ H4):zB D σ v x y H3
def t9(td ty tv:TE):TS:=λD σ H=>tv σ H λv H1=>td σ H1 λx H2=>ty σ H2 λy a=>zB D σ v x y a
section
variable{X:Cx}{o i e value:TZ}{pos pos' tpos:SV}{td ty tv:TE}
theorem Zx(r:X.A.units+1<DA)(p:PE X o td)(n:PE X i ty)(q:xG i):PE X (.Subscript o i pos) (ko td ty):=by intro b s e H Q I h;refine KQ Sj.lookup q (Yx (p b s e H _ I h) λu B⟨x,f,k,z,t⟩=>Yx (n b B e f _ k t) λC D⟨y,j,d,A,a,v,m,g,w⟩=>?_);subst m;obtain rfl:u=Value.ref a:=z;exact{Ky d g,PK r d g A λF E l c=>⟨v,j,l,c,w⟩}
theorem nJ(p:X.A.units+1<DA)(m:PE X i ty)(n:PE X o td):PC X .In i o (Aq ty td):=by intro b s c H Q I h;refine Yx (m b s c H _ I h) λz w⟨y,d,f,v,q⟩=>Yx (n b w c d _ f q) λu A⟨x,e,j,t,a,ov,l,g,r⟩=>?_;subst l;obtain rfl:u=Value.ref a:=t;exact AU p j g v λB k=>{.bl ov.isSome,e,k,Xb,r}
theorem JA(p:X.A.units+1<DA)(m:PE X i ty)(n:PE X o td):PC X .NotIn i o (JZ ty td):=by intro b s c H Q I h;refine Yx (m b s c H _ I h) λz w⟨y,d,f,v,q⟩=>Yx (n b w c d _ f q) λu A⟨x,e,j,t,a,ov,l,g,r⟩=>?_;subst l;obtain rfl:u=Value.ref a:=t;exact Kl p j g v λB k=>{.bl (!ov.isSome),e,k,Xb,r}
theorem Ws(w:X.A.units+1<DA)(q:PE X o td)(p:PE X i ty)(z:PE X value tv)(t:swapsWith value (Ga (.Subscript o i pos')) pos.line X.env=pure Gs):
  PS X (.Assign [.Subscript o i pos'] value pos) (t9 td ty tv):=by
 intro b s c H D I h;refine wpAny_Assign_Subscript (Yx (z b s c H _ I h) λr J⟨v,d,j,E,A⟩=>Yx (q b J c d _ j A) λu K⟨x,e,k,F,B⟩=>Yx (p b K c e _ k B) λM N⟨y,L,l,G,a,f,n,g,C⟩=>?_) t;subst n;obtain rfl:u=Value.ref a:=F;exact OW w l g G E λs4 m=>⟨c,f,m,C⟩
end
theorem KM(h:Heap)(a:T8<h.objs.size):Ym P w H (h.push {cls:=.type "dict",data:=.dict #[]}) h.objs.size (.dK []):=
 {Gz _,Dy.mpr (Gn (Tf a)),[],.nil,Heap.DictOf.new h}
theorem Au(h:Heap)(a:T8<h.objs.size):Ym P w H (h.push {cls:=.type "dict",data:=.dict #[]}) h.objs.size (.dT []):=
 {Gz _,Dy.mpr (Gn (Tf a)),[],.nil,_,#[],0,Heap.get?_push_size _ Xb,⟨Xb,Xb,Xb⟩,Xb,Xb,List.nodup_nil}
def HB:TE:=λ_ H Q=>∀p,H p=Gh->Q (.ref p) (zj H p (.dK []))
def IM:TE:=λ_ H Q=>∀p,H p=Gh->Q (.ref p) (zj H p (.dT []))
section
variable{X:Cx}{pos:SV}
theorem Jc:PE X (.Dict [] [] pos) HB:=λa s b H Q I h=>SG {.ref s.heap.objs.size,_,I.laid (a:=s.heap.objs.size) (o:=.dK []) (t':=s.toks) (λ_ _ q=>Heap.get?_push_of_some _ q) (Gm _) (KM s.heap I.big),Xb,h _ (I.Z3.fresh (Gm _))}
theorem Oj:PE X (.Dict [] [] pos) IM:=λa s b H Q I h=>SG {.ref s.heap.objs.size,_,I.laid (a:=s.heap.objs.size) (o:=.dT []) (t':=s.toks) (λ_ _ q=>Heap.get?_push_of_some _ q) (Gm _) (Au s.heap I.big),Xb,h _ (I.Z3.fresh (Gm _))}
end
structure M2(X:Cx)(o:TZ)(m:Tb)(apos:SV)(e f:TZ)(cpos:SV):Prop where
 base:attributeBase o m X.env (eval o X.env)=eval o X.env
 few:((DS cpos (Tj [e,f] X.env)).all (λx=>!x.1)&&(backToKw cpos (keywordEach [] X.env)).all (λx=>x.1.isSome)
  &&decide (([e,f]:List TZ).length+([]:List LX).length+(if([]:List LX).isEmpty then 0 else 1)<30))=Gf
 line:(apos.endLine==cpos.line)=Gf
 trees:DS cpos (Tj [e,f] X.env)=[(Gs,eval e X.env),(Gs,eval f X.env)]
end L2
namespace Att
open PySem PySem.W PySem.Calls PyProof.Rows
theorem OQ{P:MQ}{h:Heap}:∀(c:List Int)(d:List Value),WellAll P h d (c.map RT)->SS d c:=by
 intro c;induction c with
 |nil=>intro d w;rw[List.map_nil]at w;cases w;exact .nil
 |cons n c e=>
  intro d w;rw[List.map_cons]at w;cases w with
  |cons a b=>cases a;exact .cons _ _ (e _ b)
theorem KA{l:MM}{n:Nat}(u:l.most=Ga n){P:MQ}{h:Heap}{args:List WData}{e:List Value}
  (c:l.row.toRowW.claim.pre args=Gf)(k:WellAll P h e args):
  ∃a o b,e=[Value.ref a]/\args=[WData.list (b.map RT)]/\h.get? a=Ga {cls:=.type "list",data:=.seq o.toArray}/\SS o b/\b.length<=n:=by
 have j:WShape.hasAll [] args [.list .int]=Gf:=(NQ c).1;have m:l.pre.holds [] {args:=args}=Gf:=(NQ c).2;obtain⟨d,r,rfl,p,s⟩:=hasAllW_cons j;obtain rfl:=hasAllW_nil s;obtain⟨x,rfl,t⟩:=hasW_list p;obtain⟨b,rfl⟩:=items_int t;have g:b.length<=n:=by
  unfold Bk at m;have f:(WTm.not (.lt (.lit (.int (n:Int))) (.len (.arg 0)))).holds [] {args:=[.list (b.map .int)]}=Gf:=by have f:=(holds_andW m).1;rw[u]at f;exact f
  have i:=condW_of f (w_not (w_lt w_lit (w_len_list (w_arg Xb))));rw[List.length_map]at i;refine Fk λq=>?_;have v:(n:Int)<((b.length:Nat):Int):=by ext
  first
   |(rw[Gw v]at i;exact absurd i (by decide))
   |(simp at i;ext)
 cases k with
 |cons v w=>
  cases w;cases v with
  |list i f=>exact{_,_,b,Xb,Xb,i,OQ b _ f,g}
theorem Kq(l:MM)(args:List WData):l.row.toRowW.claim.post args (.bool Gf) args=Gf:=
 postW_of (r:=l.row.toRowW) (X:=(Gf==Gf))
  (show NR [] (.bool Gf) .bool=Gf by first|rfl|decide|simp[NR,WShape.arms,WShape.armsAll])
  (show(WTm.eq .res (.lit (.bool Gf))).value [] {args:=args,res:=Ga (.bool Gf),after:=args}=Ga (.bool (Gf==Gf))from w_eq_bool (w_res Xb) w_lit) rfl
theorem zK{l:MM}{n:Nat}{q:Gg}{c:List Tb}{B:(Tb->Option Value)->Heap->Prop}{C:Gu->Heap->Prop}{d:MO}
  (Q:l.most=Ga n)(v:d.params.defaults=[])
  (call:∀(w:Gu)(s₀ b:Gk)(s z:Tb->Option Value)(i:Gc)(o:Ef)(A p e:Value)(a:Gc)(h:List Value)(t:List Int),
   Ground q c [] B w s₀ s z b.heap->C w b.heap->
   b.heap.get? i=Ga o->o.data=.func (docDef d.name d.params d.body d.scope A p e)->b.heap.CodeRec p d.name->s d.name=Ga (.ref i)->
   b.heap.get? a=Ga {cls:=.type "list",data:=.seq h.toArray}->SS h t->t.length<=n->b.gens=#[]->
   codeAny (Tc l.prog w) callerA (.call (.ref i) {[.ref a],[]}) (λr s'=>r=.ok (.ret (.bool Gf))/\OldK b.heap s'.heap/\s'.os=b.os/\So s'.gens) b):
  WalkO q c B C l.row.toRowW d [] (λf h=>SI f h):=by
 intro w s₀ b s z G Y i o A p e I kV R M u E x N D H U m F T y O;obtain rfl:I=.none:=Dflts.none E v;obtain rfl:kV=.none:=Dflts.noKw E;obtain⟨a,h,t,rfl,rfl,k,g,j⟩:=KA Q m y;refine enter_call (SO (call w s₀ b s z i o A p e a h t G Y R (fd_plain M) u x k g j N) λr s' S=>?_);obtain⟨rfl,J,K,L⟩:=S;exact{.inl {.bool Gf,.bool Gf,[],Xb,λ_=>rfl,.bool Gf,Kq l _,λ_=>{List.Pairwise.nil,λ_ P=>(nomatch P)}},J,K,L}
end Att
namespace L2
open PySem PySem.Spec PyProof.Rows
variable{k:Nat}{fd:Tq}{x qual:Tb}{st:TY}{f:Gc}{A B:Prop}{H:Hp}
theorem rJ:∀{b:List Value}{a:List Int},SS b a->Z2 (a.map V.int) b
 |_,_,.nil=>.nil
 |_,_,.cons n t h=>.cons ⟨t,Xb⟩ (rJ h)
def ng(H:Hp):Prop:=∀b,H b=Gh\/∃o xs,H b=Ga (.frz o (.lst xs))
theorem Ho{P:Gg}{w:Gu}{K:Gd}{p I:Tb->Option Value}{J:hE}{E a:Gc}{Y:Sp}{e:Gk}{j:List Value}{t:List Int}
  (KX:K.In e.heap)(W:e.heap.Ns T2 p)(h:e.heap.Ns builtinsNs I)(ab:∀x:Tb,x≠"__name__"->I x=bootBuiltins x)(ad:e.heap.NoLimit)(hg:e.gens=#[])
  (A:e.heap.get? a=Ga {cls:=.type "list",data:=.seq j.toArray})(T:SS j t)(U:t.length<=Gj)(hr:Yd k callerA)
  (F:∀C:Heap,K.In C->C.Ns T2 p->Qy P w K p C J k E fd [x] Y)(ac:∀(s:Gk)(u:Value),LV s fd {[u],[]} [(x,u)])
  (af:∀c:Hp,ng c->Za K c a (t.map V.int)->Y [.ref a] c (λv _=>v=.bl Gf) λ_ _ _=>False)
  (aa:∀c f i,J [] c e (λ_ _ _=>False) f i->False):
  codeAny (Tc P w) callerA (.call (.ref E) {[.ref a],[]}) (λr i=>r=.ok (.ret (.bool Gf))/\OldK e.heap i.heap/\i.os=e.os/\So i.gens) e:=by
 have X:=rJ T;have ag:=T.length;have N:∀c:Hp,ng c->Za K c a (t.map V.int)->Rp P w c e.heap->(∀b,c b≠Gh->b=a)->(c a≠Gh->K.lookup a=Gh)->
   codeAny (Tc P w) callerA (.call (.ref E) {[.ref a],[]}) (λr i=>r=.ok (.ret (.bool Gf))/\OldK e.heap i.heap/\i.os=e.os/\So i.gens) e:=by
  intro c S hS L Q hK;have M:∀{b:Gc}{g:Ef},e.heap.get? b=Ga g->c b=Gh->(ih e.heap c).get? b=Ga g:=λf n=>OY f n;have ah:∀{b:Gc}{g:Ef}{m:Array Eo}{l:Nat},e.heap.get? b=Ga g->g.data=.dict m l->c b=Gh:=λ{b g m l}f d=>by
   cases q:c b with
   |none=>rfl
   |some u=>have D:b=a:=Q b (by rw[q];simp);subst D;rw[A]at f;cases f;have d':Data.seq j.toArray _=Data.dict m l:=d;cases d'
  have B:∀{b:Gc}{H:Tb->Option Value},e.heap.Ns b H->(ih e.heap c).Ns b H:=λ{b H}⟨g,m,l,f,d,r⟩=>{g,m,l,M f (ah f d),d,r};have R:K.In (ih e.heap c):=λb g f=>M (KX b g f) (by
   cases q:c b with
   |none=>rfl
   |some u=>have D:b=a:=Q b (by rw[q];simp);subst D;rw[hK (by rw[q];simp)]at f;cases f)
  have hM:Mod K p (ih e.heap c):={R,B W,{I,B h,ab},let⟨mc,h1,h2⟩:=ad;{mc,B h1,h2}};have e0:iO P w K p (ih e.heap c) callerA [] e c:={Xb,hM,λb g f=>Ce f,E6 (JR _ _),trivial,λb h=>absurd (show b∈([]:List Gc)from h) (by simp),L,.of_eq hg};refine SO ((F _ R (B W)).run callerA [] e c {[.ref a],[]} [.ref a] [.ref a] _ _ hr e0 (ac e (.ref a)) (.cons rfl .nil) (af c S hS)) λr i o=>?_;cases r with
  |error f=>exact(aa c f i o).elim
  |ok fl=>
   cases fl with
   |next=>exact False.elim o
   |brk=>exact False.elim o
   |cont=>exact False.elim o
   |ret u=>
    obtain⟨v,H',os,Z,un,ae,r',q⟩:=o;have q':v=.bl Gf:=q;subst q';obtain rfl:u=Value.bool Gf:=r';refine{Xb,OldK.of_keep λb g f=>?_,os,Z};cases q:c b with
    |none=>exact un.keep b g f q (by intro z;exact absurd (show b∈([]:List Gc)from z) (by simp)) (by simp)
    |some u=>
     rcases S b with z|⟨ob,xs,z⟩
     .rw[q]at z;cases z
     .have z2:=un.O2 b ob _ z;obtain⟨O,_⟩:=L b _ z;obtain⟨e2,_⟩:=ae b _ z2;rw[f]at O;cases O;exact e2
 cases G:K.lookup a with
 |some g=>have f:=KX a g G;rw[A]at f;cases f;refine N (λ_=>Gh) (λ_=>.inl Xb) (.inr {_,j.toArray,_,G,Xb,Xb,Xb,by rw[List.size_toArray,ag];exact U,by simpa using X}) (λb u z=>by have y:(Gh:Option HO)=Ga u:=z;cases y) (λb z=>absurd rfl z) λz=>absurd rfl z
 |none=>
  refine N (λb=>if b=a then Ga (.frz {cls:=.type "list",data:=.seq j.toArray} (.lst (t.map V.int)))else Gh) (λb=>?_) (.inl (.inr {{cls:=.type "list",data:=.seq j.toArray},Gp Xb})) (λb u z=>?_) (λb z=>?_) λ_=>G
  .by_cases h:b=a
   .exact .inr {_,_,Gp h}
   .exact .inl (Gi h)
  .by_cases h:b=a
   .have y:=(Gp h).symm.trans z;cases y;subst h;exact{A,by rw[List.length_map];exact U,j,_,X,A}
   .have y:=(Gi h).symm.trans z;cases y
  .by_cases h:b=a
   .exact h
   .exact absurd (Gi h) z
theorem PP{l:SX}{n:Nat}{q:Gg}{i:List Tb}{L:(Tb->Option Value)->Heap->Prop}{I:Gu->Heap->Prop}{d:MO}{K:MQ->Gd}{CX:Gu->hE}{sp:Gu->Sp}
  (S:l.most=Ga n)(C:n<=Gj)(A:d.params.defaults=[])(T:Yd k callerA)
  (O:∀(w:Gu)(h:Heap),I w h->(K w.params).In h)
  (F:∀(w:Gu)(j:Tb->Option Value)(r:Gc)(h:Heap),(K w.params).In h->h.Ns T2 j->j d.name=Ga (.ref r)->
   ∃y:Tq,(∀(s:Gk)(u:Value),LV s y {[u],[]} [(x,u)])/\
    ∀b:Heap,(K w.params).In b->b.Ns T2 j->Qy l.prog w (K w.params) j b (CX w) k r y [x] (sp w))
  (D:∀(w:Gu)(H:Hp)(a:Gc)(t:List Int),t.length<=n->ng H->Za (K w.params) H a (t.map V.int)->sp w [.ref a] H (λv _=>v=.bl Gf) λ_ _ _=>False)
  (z:∀(w:Gu)(H:Hp)(s:Gk)(e:Value)(E:Gk),CX w [] H s (λ_ _ _=>False) e E->False):
  Mx q i L I l.row.toRowW d [] (λf J=>SI f J):=by
 refine Att.zK S A λw b p j Z r o pm U M a J t G Y X W Q B m g c R=>?_;have KX:=O w _ Y;obtain⟨y,P,N⟩:=F w j r _ KX G.T.g B;exact Ho KX G.T.g G.T.b G.T.builtins G.T.nolimit R m g (Tw c C) T N P (λH b o=>D w H a t c b o) λH e E=>z w H p e E
abbrev Z5:hE:=λ_ _ _ _ _ _=>False
abbrev E0:XK:=λ_ _ _=>False
theorem Q7{X:Cx}:Ic Z5 X E0:=λ_ _ _ _ _ _ _ h=>h.elim
structure We(K:Gd)(x qual:Tb)(st:TY)(f:Gc)(fd:Tq):Prop where
 ex:∃(oc:Value)(od:Option Gc)(kV doc pm:Value)(an:Option Gc)(cdv ct:Value)(osl:Array (Option Value)),
  fd=Dl x qual (Wv st) (X8 st) (Ql st) .none kV doc pm an cdv ct/\K.lookup f=Ga {oc,od,.func fd,osl}/\E8 K cdv qual=Gf
 kp:TU K (.ref f)=Gf
section
variable{P:Gg}{w:Gu}{K:Gd}{mg:Tb->Option Value}{base:Heap}
theorem We.ok{N j:List Tb}{l:Sp}(F:We K x qual st f fd)(S:Q3 N j (Ql st))(i:∀d H Q E,l d H Q E->d.length=j.length)
  (c:∀(b:Value)(A:TQ)(a:List Fd)(s:Gk)(H:Hp)(d:List V)(Q:VK)(E:XK),Yd k (A.deeper (envOfC qual (Ql st) s.heap.objs.size f b))->l d H Q E->
   ∃t,Ia (iM Z5 P w K mg base N qual (Ql st) f b A a s H E).nox (X8 st) t/\t {nx:=λ_ H'=>Q .non H',rt:=Q} (start N d) H):Qy P w K mg base Z5 (k+1) f fd j l:=by
 obtain⟨v,y,kV,m,z,r,b,u,p,rfl,o,e⟩:=F.ex;refine PM o e S i λA a s H d Q E n g=>?_;obtain⟨t,h,q⟩:=c b A a s H d Q E n g;exact{t,h.nox,q}
theorem We.binds{e:List Tb}(F:We K x qual st f fd)
  (h:∀(kV b d:Value)(c:Option Gc)(a ct:Value)(g:List Value),g.length=e.length->bindArgs (Dl x qual (Wv st) (X8 st) (Ql st) .none kV b d c a ct) {g,[]}=pure (e.zip g)):zk K fd e []:=by
 obtain⟨k,l,kV,b,d,c,a,ct,i,rfl,j,g⟩:=F.ex;exact .all (h kV b d c a ct)
theorem vm{h:Value}{i e:Option Gc}{d:Array (Option Value)}{kV b g a ct:Value}(l:K.lookup f=Ga {h,i,.func (Dl x qual (Wv st) (X8 st) (Ql st) .none kV b g e a ct),d})
  (c:E8 K a qual=Gf)(k:TU K (.ref f)=Gf):We K x qual st f (Dl x qual (Wv st) (X8 st) (Ql st) .none kV b g e a ct):={⟨h,i,kV,b,g,e,a,ct,d,Xb,l,c⟩,k}
end
theorem Je{A:TQ}(a:Yd k A):A.units+1<DA:=DV (Nat.add_le_add_left (by decide:1<=64) _) a.units
section
variable{X:Cx}
theorem pv(i:Nat){b:SV}(c:X.N[i]?=Ga x:=by rfl)(e:pI X.env.scope x:=by first|exact T3 rfl|exact DJ (T3 Xb)|exact DJ (DJ Xb))(d:(x==("__debug__":Tb))=Gs:=by decide)
  (a:(x==("__classdict__":Tb))=Gs:=by decide):PE X (.Name x b) (Vz i):=JW c e d a
end
theorem Q5(h:B):if Gs=Gf then A else B:=by rw[Gi GJ];exact h
theorem Yp(h:A):if Gf=Gf then A else B:=by rw[Gp rfl];exact h
theorem Uu{c:Prop}[Decidable c](a:c->A)(b:¬c->B):if c then A else B:=by
 by_cases h:c
 .rw[Gp h];exact a h
 .rw[Gi h];exact b h
def Q6(H H':Hp):Prop:=∀b o,H b=Ga o->H' b=Ga o
theorem Q6.trans{d e:Hp}(a:Q6 H d)(b:Q6 d e):Q6 H e:=λc o h=>b c o (a c o h)
theorem Q6.free{a:Hp}(e:Q6 H a){l:Gc}(h:a l=Nq):H l=Nq:=by
 cases q:H l with
 |none=>rfl
 |some o=>rw[e l o q]at h;cases h
theorem Q6.seq{K:Gd}{b:Hp}{a:Gc}{c:List V}(e:Q6 H b)(h:Za K H a c):Za K b a c:=by
 rcases h with(h|⟨o,h⟩)|h
 .exact .inl (.inl (e _ _ h))
 .exact .inl (.inr {o,e _ _ h})
 .exact .inr h
section
variable{X:Cx}
theorem OS:Um X (.builtin "len") (λxs H Q=>∃a b,xs=[V.ref a]/\H a=Ga (.dK b)/\Q (.int b.length) H):=by intro c s j H xs i Q I r h;obtain⟨a,b,rfl,e,q⟩:=h;obtain⟨u,rfl,f⟩:=vals1 r;cases f;exact Hw I (.inl e) λt g d=>{.int b.length,H,d,⟨t,Xb⟩,q}
end
end L2
namespace Sb
inductive iN{a:Type}(p:a->Prop):Prop|mk a1:p a1->iN p
inductive jV{a b:Type}(p:a->b->Prop):Prop|mk a1 b1:p a1 b1->jV p
inductive jF{a b c:Type}(p:a->b->c->Prop):Prop|mk a1 b1 c1:p a1 b1 c1->jF p
inductive hA{a b c d:Type}(p:a->b->c->d->Prop):Prop|mk a1 b1 c1 d1:p a1 b1 c1 d1->hA p
inductive iL{a b c d e:Type}(p:a->b->c->d->e->Prop):Prop|mk a1 b1 c1 d1 e1:p a1 b1 c1 d1 e1->iL p
inductive iy{a b c d e f:Type}(p:a->b->c->d->e->f->Prop):Prop|mk a1 b1 c1 d1 e1 f1:p a1 b1 c1 d1 e1 f1->iy p
inductive tP{a b c d e f g:Type}(p:a->b->c->d->e->f->g->Prop):Prop|mk a1 b1 c1 d1 e1 f1 g1:p a1 b1 c1 d1 e1 f1 g1->tP p
inductive og{a b c d e f g h:Type}(p:a->b->c->d->e->f->g->h->Prop):Prop|mk a1 b1 c1 d1 e1 f1 g1 h1:p a1 b1 c1 d1 e1 f1 g1 h1->og p
inductive nE{a b c d e f g h i:Type}(p:a->b->c->d->e->f->g->h->i->Prop):Prop|mk a1 b1 c1 d1 e1 f1 g1 h1 i1:p a1 b1 c1 d1 e1 f1 g1 h1 i1->nE p
inductive ym{a b c d e f g h i j:Type}(p:a->b->c->d->e->f->g->h->i->j->Prop):Prop|mk a1 b1 c1 d1 e1 f1 g1 h1 i1 j1:p a1 b1 c1 d1 e1 f1 g1 h1 i1 j1->ym p
inductive ot{a b c d e f g h i j k l m:Type}(p:a->b->c->d->e->f->g->h->i->j->k->l->m->Prop):Prop|mk a1 b1 c1 d1 e1 f1 g1 h1 i1 j1 k1 l1 m1:p a1 b1 c1 d1 e1 f1 g1 h1 i1 j1 k1 l1 m1->ot p
inductive mJ(a b:Prop):Prop|mk:a->b->mJ a b
inductive kP(a b c:Prop):Prop|mk:a->b->c->kP a b c
inductive jK(a b c d:Prop):Prop|mk:a->b->c->d->jK a b c d
inductive iZ(a b c d e:Prop):Prop|mk:a->b->c->d->e->iZ a b c d e
inductive kJ(a b c d e f:Prop):Prop|mk:a->b->c->d->e->f->kJ a b c d e f
inductive iQ(a b c d e f g:Prop):Prop|mk:a->b->c->d->e->f->g->iQ a b c d e f g
inductive hB(a b c d e f g h:Prop):Prop|mk:a->b->c->d->e->f->g->h->hB a b c d e f g h
inductive jW(a b c d e f g h i:Prop):Prop|mk:a->b->c->d->e->f->g->h->i->jW a b c d e f g h i
inductive px(a b c d e f g h i j k l:Prop):Prop|mk:a->b->c->d->e->f->g->h->i->j->k->l->px a b c d e f g h i j k l
inductive kL(a b c d e f g h i j k l m n:Prop):Prop|mk:a->b->c->d->e->f->g->h->i->j->k->l->m->n->kL a b c d e f g h i j k l m n
inductive qA(a b c d e f g h i j k l m n o:Prop):Prop|mk:a->b->c->d->e->f->g->h->i->j->k->l->m->n->o->qA a b c d e f g h i j k l m n o
theorem hid{G:Prop}(f:(g:Prop)->(G->g)->g):G:=f G id
end Sb
namespace L2
open PySem PySem.Spec PyProof.Rows
variable{scope:SE}{X:Cx}{zq:List (Gc×Ef)}{σ:St}{own:List Tb}{fv:List (Nat×Tb)}{K:Gd}
def ccx(X:Cx)(N:List Tb)(scope:SE)(a:List (Tb×Gc))(C:Gc)(fp:List Gc)(s:Gk)(H:Hp):Cx where
 prog:=X.prog
 w:=X.w
 K:=X.K
 mg:=X.mg
 base:=X.base
 A:=X.A
 N:=N
 s₀:=s
 H₀:=H
 env:=compEnvC scope a C X.env
 outer:=X.stack
 stack:=X.stack
 ex:=fp
 calm:=X.calm
 fn:=λ_=>Gs
 pn:=[]
 xe:=λ_ _=>False
inductive FV(X:Cx)(scope:SE):List (Nat×Tb)->Prop
 |nil:FV X scope []
 |cons {j:Nat} {x:Tb} {r:List (Nat×Tb)}:X.N[j]?=Ga x->(X.env.scope.names.lookup x=Ga .cell\/X.env.scope.names.lookup x=Ga .free)->scope.names.lookup x=Ga .free->FV X scope r->FV X scope ((j,x)::r)
theorem FV.get{X:Cx}{scope:SE}:∀{d:List (Nat×Tb)}{k j:Nat}{x:Tb},FV X scope d->d[k]?=Ga (j,x)->
  X.N[j]?=Ga x/\(X.env.scope.names.lookup x=Ga .cell\/X.env.scope.names.lookup x=Ga .free)/\scope.names.lookup x=Ga .free
 |_,_,_,_,.nil,e=>by simp at e
 |_,0,_,_,.cons a b c _,e=>by simp at e;obtain⟨rfl,rfl⟩:=e;exact⟨a,b,c⟩
 |_,k+1,_,_,.cons _ _ _ r,e=>FV.get (k:=k) r (by simpa using e)
theorem V3{env:Fd}:∀{names:List (Tb×EU)}{x:Tb},names.lookup x=Ga .free->
  (names.map λ(n,k)=>if(k==Tv&&env.scope.kind==.function&&env.kindOf n==Ga .cell)then(n,Sy)else(n,k)).lookup x=Ga .cell\/
  (names.map λ(n,k)=>if(k==Tv&&env.scope.kind==.function&&env.kindOf n==Ga .cell)then(n,Sy)else(n,k)).lookup x=Ga .free
 |[],_,h=>by simp at h
 |(n,k)::r,x,h=>by
  have b:=@V3 env r x;rw[List.map_cons];dsimp only;cases hx:x==n with
  |true=>
   simp only[List.lookup_cons,hx]at h;cases h;by_cases a:(Tv==Tv&&env.scope.kind==.function&&env.kindOf n==Ga .cell)=Gf
   .left;rw[Gp a];simp only[List.lookup_cons,hx]
   .right;rw[Gi a];simp only[List.lookup_cons,hx]
  |false=>
   simp only[List.lookup_cons,hx]at h;by_cases a:(k==Tv&&env.scope.kind==.function&&env.kindOf n==Ga .cell)=Gf
   .rw[Gp a];simp only[List.lookup_cons,hx];exact b h
   .rw[Gi a];simp only[List.lookup_cons,hx];exact b h
theorem Uv{env:Fd}:∀{names:List (Tb×EU)}{x:Tb},
  ((names.map λ(n,k)=>if(k==Tv&&env.scope.kind==.function&&env.kindOf n==Ga .cell)then(n,Sy)else(n,k)).lookup x=Ga .cell\/
  (names.map λ(n,k)=>if(k==Tv&&env.scope.kind==.function&&env.kindOf n==Ga .cell)then(n,Sy)else(n,k)).lookup x=Ga .free)->
  names.lookup x=Ga .cell\/names.lookup x=Ga .free
 |[],_,h=>by simp at h
 |(n,k)::r,x,h=>by
  have c:=@Uv env r x;rw[List.map_cons]at h;dsimp only at h;cases hx:x==n with
  |true=>
   by_cases a:(k==Tv&&env.scope.kind==.function&&env.kindOf n==Ga .cell)=Gf
   .right;have d:(k==Tv)=Gf:=(DG.mp (DG.mp a).1).1;have b:k=.free:=by simpa using d
    simp only[List.lookup_cons,hx,b]
   .rw[Gi a]at h;simp only[List.lookup_cons,hx]at h⊢;exact h
  |false=>
   by_cases a:(k==Tv&&env.scope.kind==.function&&env.kindOf n==Ga .cell)=Gf
   .rw[Gp a]at h;simp only[List.lookup_cons,hx]at h⊢;exact c h
   .rw[Gi a]at h;simp only[List.lookup_cons,hx]at h⊢;exact c h
theorem Rx{env:Fd}:∀(names:List (Tb×EU))(b:List (Tb×Gc)),(∀x,(x,Tv)∈names->∃c,env.cells.lookup x=Ga c)->(∀x c,b.lookup x=Ga c->env.cells.lookup x=Ga c)->
  ∃f:List (Tb×Gc),(forIn names b (λ(x:Tb×EU)(b:List (Tb×Gc))=>if x.2==Tv then(cellOf env x.1>>=λc=>pure (DR ((x.1,c)::b)))else pure (DR b)):Bh (List (Tb×Gc)))=pure f/\
   (∀x c,f.lookup x=Ga c->env.cells.lookup x=Ga c)/\(∀x,(∃c,b.lookup x=Ga c)\/(x,Tv)∈names->∃c,f.lookup x=Ga c)
 |[],b,_,g=>{b,Xb,g,λx h=>h.elim id λz=>nomatch z}
 |(n,k)::r,b,l,g=>by
  rw[List.forIn_cons];by_cases m:k=.free
  .subst m;obtain⟨c,o⟩:=l n List.mem_cons_self;have e:cellOf env n=pure c:=by unfold cellOf;rw[o]
   obtain⟨f,h,i,j⟩:=Rx r ((n,c)::b) (λx a=>l x (List.mem_cons_of_mem _ a)) (λx d a=>by
    rw[List.lookup_cons]at a;cases q:x==n with
    |true=>
     rw[q]at a;have p:x=n:=by simpa using q
     rw[p,o];exact a
    |false=>rw[q]at a;exact g x d a)
   refine{f,?_,i,λx a=>j x ?_}
   .simp only[Ev,Sq,e,pure_bind];exact h
   .rcases a with⟨d,p⟩|a
    .left;rw[List.lookup_cons];cases q:x==n with
     |true=>exact{_,Xb}
     |false=>exact⟨d,p⟩
    .rcases List.mem_cons.mp a with z|z
     .left;have:x=n:=congrArg Prod.fst z;subst this;exact{c,by simp[List.lookup_cons]}
     .exact .inr z
  .have e:(k==Tv)=Gs:=by simpa using m
   obtain⟨f,h,i,j⟩:=Rx r b (λx a=>l x (List.mem_cons_of_mem _ a)) g;refine{f,?_,i,λx a=>j x ?_}
   .simp only[e,TH,Do,pure_bind];exact h
   .rcases a with z|z
    .exact .inl z
    .rcases List.mem_cons.mp z with z|z
     .exact absurd (congrArg Prod.snd z).symm m
     .exact .inr z
theorem Kn{env:Fd}(i:∀x,(x,Tv)∈scope.names->∃c,env.cells.lookup x=Ga c):
  ∃a:List (Tb×Gc),closureFor scope env=pure a/\(∀x c,a.lookup x=Ga c->env.cells.lookup x=Ga c)/\(∀x,(x,Tv)∈scope.names->∃c,a.lookup x=Ga c):=by
 obtain⟨a,d,f,g⟩:=Rx (env:=env) scope.names [] i (λx c h=>by simp at h);refine{a,?_,f,λx j=>g x (.inr j)};have e:closureFor scope env=((forIn scope.names ([]:List (Tb×Gc)) (λ(x:Tb×EU)(b:List (Tb×Gc))=>if x.2==Tv then(cellOf env x.1>>=λc=>pure (DR ((x.1,c)::b)))else pure (DR b)):Bh (List (Tb×Gc)))>>=λb=>pure b):=rfl;rw[e,d];rfl
def Jk(n:Nat)(a:List (Nat×Tb))(σ:St):St:=List.replicate n Gh++a.map λq=>(σ[q.1]?).join
theorem C0{o:Hp}{s:Gk}{B:List (Tb×Gc)}{C:List Gc}{t:Heap}{ob:Ef}{K:Tb->Option Value}{t':Nat}
  (d:zv X zq σ o s)(Q:scope.kind=.function)(F:FV X scope fv)(l:∀x c,B.lookup x=Ga c->X.env.cells.lookup x=Ga c)(G:∀x,(x,Tv)∈scope.names->∃c,B.lookup x=Ga c)
  (U:∀y∈scope.names,y.2≠.cell)(v:∀b∈C,gT X zq o b)(S:∀b∈C,b<s.heap.objs.size)
  (T:t.Ns s.heap.objs.size K)(W:Heap.SameBut s.heap.objs.size (s.heap.push ob) t):
  zv (ccx X (own++fv.map (·.2)) scope B s.heap.objs.size C s o) [] (Jk own.length fv σ) o {s with heap:=t,toks:=t'}:=by
 have A:∀b u,s.heap.get? b=Ga u->t.get? b=Ga u:=λb u e=>(W.2 b (Tf (Heap.lt_size e))).trans (Heap.get?_push_of_some _ e);have O:∀x,(scope.names.lookup x=Ga .cell\/scope.names.lookup x=Ga .free)->(x,Tv)∈scope.names:=λx g=>by
  rcases g with g|g
  .exact absurd rfl (U _ (Di g))
  .exact Di g
 exists ⟨d.ok.mod,Q,d.ok.glob,d.ok.blt,Gm _,λx y c f a=>d.ok.inj x y c (l x c f) (l y c a),λx g=>G x (O x (Uv (env:=X.env) g)),λ_ _ g _=>(GJ g).elim,
   d.ok.hd,d.ok.frames,.inl Xb,λb h=>{Tf (S b h),λx c e=>(v b h).2.2.2.2.1 x c (l x c e)},d.bs,Tw d.ok.bsz d.sz,λb n e h=>?_,λb h P=>?_,d.stack,d.su⟩,
  Xb,d.bare,Un.kept A,{K,T,λi x k f a e3=>?_},λx c e=>?_,d.Z3.fresh (Gm _),λx c e=>d.Jx x c (l x c e),λp V=>absurd (show p∈([]:List (Gc×Ef))from V) (by simp),d.Z3.kept A
 .rcases(v b h).2.2.2.1 with z|z
  .exact d.ok.Qsl b n e z
  .exact absurd (Te (Heap.lt_size e) (Tw d.ok.bsz z)) (Dq _)
 .rcases List.mem_cons.mp (d.lF b P)with z|z
  .exact(v b h).2.1 z
  .exact(v b h).2.2.1 z
 .have f:(own++fv.map (·.2))[i]?=Ga x:=f;by_cases J:i<own.length
  .have a:(Jk own.length fv σ)[i]?=Ga (Ga k):=a;unfold Jk at a;rw[List.getElem?_append_left (by simpa using J),List.getElem?_replicate]at a;split at a<;>cases a
  .have a:(Jk own.length fv σ)[i]?=Ga (Ga k):=a;unfold Jk at a;rw[List.getElem?_append_right (by simpa using J),List.length_replicate,List.getElem?_map]at a;rw[List.getElem?_append_right (by lia),List.getElem?_map]at f;cases q:fv[i - own.length]? with
   |none=>rw[q]at f;cases f
   |some p=>
    obtain⟨j,y⟩:=p;rw[q]at f a;have f:Ga y=Ga x:=f;cases f;have a:Ga (σ[j]?).join=Ga (Ga k):=a;have a:=Ti a;obtain⟨N,m,H⟩:=F.get q;have M:σ[j]?=Ga (Ga k):=by
     cases r:σ[j]? with
     |none=>rw[r]at a;cases a
     |some z=>rw[r]at a;exact congrArg Ga a
    obtain⟨m0,aa,R⟩:=d.loc;obtain⟨u,ru,lk⟩:=R j x k N M (.inr m);exists u,ru;rcases lk with⟨w,_⟩|⟨w,c,Y,Z⟩
    .exfalso;have w:X.env.scope.names.lookup x=Ga .local:=w;rcases m with m|m<;>(rw[w]at m;cases m)
    .obtain⟨L,I⟩:=G x (Di H);have:=l x L I;rw[Y]at this;cases this;refine .inr {V3 (env:=X.env) H,c,I,?_};obtain⟨n,E,D⟩:=Z;exact{n,A _ _ E,D}
 .obtain⟨k,n,E,D⟩:=d.cell x c (l x c e);exact{k,n,A _ _ E,D}
 .show(Jk own.length fv σ).length=(own++fv.map (·.2)).length;unfold Jk;simp
def iY(X:Cx)(ifs:List TZ)(t:TT):Prop:=
 ∀(zq:List (Gc×Ef))(s:Gk)(σ:St)(H:Hp)(Q:Bool->Hp->Prop),zv X zq σ H s->t σ H Q->
  wpAny (Tc X.prog X.w) X.A (forIn ifs Gf λc r=>if r=Gf then do let ok<-isTrue c X.env (eval c X.env);pure (DR ok)else pure (DR r)) (TP X zq σ Q) X.xe s
def lj:TT:=λ_ H Q=>Q Gf H
theorem Wb:iY X [] lj:=λa s b H Q I h=>wpAny_tests_nil ⟨H,I,h⟩
theorem Ox{c:TZ}{t:TT}(h:PT X c t):iY X [c] t:=λa s b H Q I hw=>wpAny_tests_one (h a s b H Q I hw)
section
variable{prog:Gg}{w:Gu}{A:TQ}{R:MU->Gk->Prop}{s:Gk}
theorem Ak{p a iter:TZ}{q:List TZ}{z:SV}{B o:Value}{d:Fd}(I:Nat->Gk->Prop)
  (turn:∀n s,I n s->wpAny (Tc prog w) A (pyNext B) (λr b=>match r with
   |none=>R (.ok .next) b
   |some v=>wpAny (Tc prog w) A (letOwnedTupleGo a B v) (λ_ b=>wpAny (Tc prog w) A (assign a d v) (λ_ j=>
     wpAny (Tc prog w) A (forIn q Gf λc r=>if r=Gf then do let ok<-isTrue c d (eval c d);pure (DR ok)else pure (DR r)) (λok g=>
      if ok=Gf then wpAny (Tc prog w) A (eval p d) (λx k=>wpAny (Tc prog w) A (call (.builtin "list.append") [o,x]) (λ_ l=>∃m,m<n/\I m l) (λ_ _=>False) k) (λ_ _=>False) g
      else∃m,m<n/\I m g) (λ_ _=>False) j) (λ_ _=>False) b) (λ_ _=>False) b) (λ_ _=>False) s)
  (n:Nat)(h:I n s):
  codeAny (Tc prog w) A (.compLoop (.ListComp p [{a,iter,q,0}] scope z) 0 B o d) R s:=by
 refine codeAny_loop rfl I (λn s C=>?_) n h;show wpAny _ A ((compTurn (.ListComp p [{a,iter,q,0}] scope z) 0 B o d).onRaise (λx=>do noteFrame x d;theTreesLotGoes x)) _ _ s;refine wpAny_noted ?_;rw[compTurn_list];refine Gb (Ly (Gb (DE (turn n s C) (λr b e=>?_) λ_ _ f=>f.elim)));cases r with
 |none=>exact Ge e
 |some v=>
  refine Gb (DE e (λ_ b e=>?_) λ_ _ f=>f.elim);refine Gb (DE e (λ_ j t=>Gb (DE t (λok g i=>?_) λ_ _ f=>f.elim)) λ_ _ f=>f.elim);cases ok with
  |false=>exact Ge ⟨Xb,i⟩
  |true=>exact Gb (Gb (DE i (λx k u=>Gb (DE u (λ_ l y=>Ge (Ge ⟨Xb,y⟩)) λ_ _ f=>f.elim)) λ_ _ f=>f.elim))
end
def i0(p:Gc)(J:It)(g:TG)(tt:TT)(te:TE)(Q:Hp->Prop)(e:St)(j:Hp):Prop:=
 ∃W:Nat->Nat->St->Hp->Prop,(∃m,W 0 m e j)/\∀i m σ H,W i m σ H->
  (J.stop i H/\Q H)\/(J.go i H/\∃(N:V->St->Hp->Prop)(h:St->Hp->Prop),(∀v a H',N v a H'->∃ys,H' p=Ga (.lst ys)/\ys.length<Gj/\∃d,d<m/\W (i+1) d a (zj H' p (.lst (ys++[v]))))/\
   (∀a H',h a H'->∃d,d<m/\W (i+1) d a H')/\
   ∀x H',J.yld i H x H'->g x σ H' λc H2=>tt c H2 λb f=>if b=Gf then te c f λv k=>N v c k else h c f)
def wj(n:Nat)(a:List (Nat×Tb))(wi:TI)(g:TG)(tt:TT)(te:TE):TE:=λσ H Q=>wi σ H λJ H1=>∀p,H1 p=Gh->i0 p J g tt te (λH'=>Q (.ref p) H') (Jk n a σ) (zj H1 p (.lst []))
section
variable{X:Cx}{elt tg iter:TZ}{ifs:List TZ}{scope:SE}{pos:SV}{wi:TI}{g:TG}{tt:TT}{te:TE}
structure Xy(esc scope:SE):Prop where
 kind:scope.kind=.function
 Qrz:∀y∈scope.names,y.2≠.cell
 loc:∀x∈scope.names,x.2=.local->scope.names.lookup x.1=Ga .local
 fre:∀y∈scope.names,y.2=.free->esc.names.lookup y.1=Ga .cell\/esc.names.lookup y.1=Ga .free
theorem q9{t:Hp}{e:Gk}{it:Gc}{f:List Gc}{H:Nat->Heap->Prop}{ah:It}{l:List (Tb×Gc)}{Q:VK}{RR:Value->Gc->MU->Gk->Prop}{ag:Value->Gk->Prop}
  (hc:X.calm=Gf)(S:Xy X.env.scope scope)(F:FV X scope fv)(c1:∀x c,l.lookup x=Ga c->X.env.cells.lookup x=Ga c)(c2:∀x,(x,Tv)∈scope.names->∃c,l.lookup x=Ga c)
  (hg:∀l h f s E,PG (ccx X (own++fv.map (·.2)) scope l h f s E) tg g)(ht:∀l h f s E,iY (ccx X (own++fv.map (·.2)) scope l h f s E) ifs tt)(he:∀l h f s E,PE (ccx X (own++fv.map (·.2)) scope l h f s E) elt te)
  (R:zv X zq σ t e)(o:ig X.prog X.w X.K tg ah f it H)(ad:H 0 e.heap)(f2:∀b∈f,gT X zq t b)
  (q:∀p,t p=Gh->i0 p ah g tt te (λH'=>Q (.ref p) H') (Jk own.length fv σ) (zj t p (.lst [])))
  (aw:∀(p h:Gc)(H':Hp)(C:Gk),zv X zq σ H' C->(∃M,C.heap.Ns h M)->gT X zq H' h->Q (.ref p) H'->RR (.ref p) h (.ok .next) C):
  wpAny (Tc X.prog X.w) X.A (newList []) (λai ay=>wpAny (Tc X.prog X.w) X.A (newFunctionEnv scope X.env.globals l [] X.env.qual Gh .none (Ga X.env)) (λaj az=>codeAny (Tc X.prog X.w) X.A (.compStart (.ListComp elt [{tg,iter,ifs,0}] scope pos) 0 (.ref it) ai {aj with scope:=relabel scope X.env}) (RR ai aj.locals) az) ag ay) ag e:=by
 have q:=q e.heap.objs.size (R.Z3.fresh (Gm _));have K:=R.yD (ys:=[]) (its:=[]) (t':=e.toks) .nil (Gz _);have aB:t e.heap.objs.size=Gh:=R.Z3.fresh (Gm _);refine TB (wpAny_newFunctionEnv S.Qrz (by intro y L;simp at L) (λam ax al=>?_) S.kind);have r:∀b∈f,gT X zq (zj t e.heap.objs.size (.lst [])) b:=λb a=>by obtain⟨B,k,_⟩:=o.obj 0 _ ad b a;exact{by rw[Qg (Tf (Heap.lt_size k))];exact(f2 b a).1,(f2 b a).2}
 have ab:∀b∈f,b<(e.heap.push {cls:=.type "list",data:=.seq ([]:List Value).toArray}).objs.size:=λb a=>by obtain⟨B,k,_⟩:=o.obj 0 _ ad b a;exact Heap.lt_size (Heap.get?_push_of_some _ k)
 have ap:H 0 am:=o.keep 0 _ _ ad λb a B k=>(al.2 b (Tf (ab b a))).trans (Heap.get?_push_of_some _ (Heap.get?_push_of_some _ k));have I4:=C0 (own:=own) (fv:=fv) (t':=e.toks+([]:List (Tb×Value)).length) K S.kind F c1 c2 S.Qrz r ab ax al;obtain⟨W,⟨m0,w0⟩,turn⟩:=q;generalize hC:(e.heap.push {cls:=.type "list",data:=.seq ([]:List Value).toArray}).objs.size=h at*;have an:codeAny (Tc X.prog X.w) X.A (.compLoop (.ListComp elt [{tg,iter,ifs,0}] scope pos) 0 (.ref it) (.ref e.heap.objs.size) (compEnvC scope l h X.env)) (RR (.ref e.heap.objs.size) h)
   {e with heap:=am,toks:=e.toks+([]:List (Tb×Value)).length}:=by
  generalize m:ccx X (own++fv.map (·.2)) scope l h f {e with heap:=e.heap.push {cls:=.type "list",data:=.seq ([]:List Value).toArray}} (zj t e.heap.objs.size (.lst []))=j at I4;have af:∀{H':Hp},(∀b∈f,H' b=Gh)->∀b∈f,gT j [] H' b:=λ{H'}hn b a=>by
   subst m;refine{hn b a,Tf (ab b a),λz=>?_,.inl a,λx c k=>(r b a).2.2.2.2.1 x c (c1 x c k),λp hp=>absurd (show p∈([]:List (Gc×Ef))from hp) (by simp)};rcases List.mem_cons.mp (K.lF b z)with z|z
   .exact(r b a).2.1 z
   .exact(r b a).2.2.1 z
  have U:j.prog=X.prog:=by subst m;rfl
  have V:j.w=X.w:=by subst m;rfl
  have eK:j.K=X.K:=by subst m;rfl
  have T:j.A=X.A:=by subst m;rfl
  have eC:j.calm=Gf:=by subst m;exact hc
  have eE:j.env=compEnvC scope l h X.env:=by subst m;rfl
  have ex:j.xe=λ_ _=>False:=by subst m;rfl
  have Z:PG j tg g:=by subst m;exact hg _ _ _ _ _
  have aa:iY j ifs tt:=by subst m;exact ht _ _ _ _ _
  have Y:PE j elt te:=by subst m;exact he _ _ _ _ _
  unfold PG at Z;unfold iY at aa;unfold PE at Y;rw[U,V,T,eE,ex]at Z aa Y;refine Ak (λn C=>∃i I H',zv j [] I H' C/\H i C.heap/\(∀b∈f,H' b=Gh)/\W i n I H') ?_ m0 {0,_,_,I4,ap,λb a=>(r b a).1,w0};rintro n s3 ⟨i,P,v,J3,ao,ak,w3⟩;rcases turn i n P v w3 with⟨stop,qn⟩|⟨go,aA,N',hN,av,step⟩
  .have d:=o.done j U V eK eC i [] s3 P v (λ_ _=>False) J3 (af ak) ao stop;rw[T]at d;refine Yx d λac s4⟨hr,w⟩=>?_;subst hr;show RR _ h (.ok .next) s4;have u:=w.base;have Z3:=w.Z3;have os:=w.os;have ar:=w.bare;obtain⟨m4,n4,_⟩:=w.loc;have fC:=w.free;subst m;have I5:zv X zq σ v s4:=K.Pq (ch:=f) os u Z3 ar λb a=>{(r b a).2.2.2.1,(r b a).2.1,(r b a).2.2.2.2.1,(r b a).2.2.2.2.2};refine aw _ h v s4 I5 ⟨m4,n4⟩ ?_ qn;rw[<-hC];exact K.iK (Gm _) (by show v _=Gh;rw[hC];exact fC)
  .have d:=o.item j U V eK eC i [] s3 P v (λ_ _=>False) J3 (af ak) ao go;rw[T]at d;refine Yx d λac s4⟨u,hr,h4⟩=>?_;subst hr;refine Yx h4 λ_ s5⟨x,H5,J5,r5,y5,ae,au⟩=>?_;have aq:=J5.pinned (af au) (o.obj _ _ ae);refine Yx (Z _ s5 P H5 x u _ aq r5 (step x H5 y5)) λ_ s6⟨J,H6,J6,q6⟩=>?_;refine Yx (aa _ s6 J H6 _ J6 q6) λok s7⟨H7,J7,O⟩=>?_;have again:∀{D:Gk}{G:Hp},zv j ([]++kU f s5.heap) J G D->(∃N,N<n/\W (i+1) N J G)->∃M,M<n/\∃i I H',zv j [] I H' D/\H i D.heap/\(∀b∈f,H' b=Gh)/\W i M I H':=λ{D G}A⟨N,hm,w8⟩=>by refine{N,hm,i+1,J,G,A.Os,o.keep _ _ _ ae λb a B k=>(A.pin (b,B) (List.mem_append_right _ (List.mem_append_right _ (Jm a k)))).1,λb a=>?_,w8};obtain⟨B,k,d⟩:=o.obj _ _ ae b a;exact(A.pin (b,B) (List.mem_append_right _ (List.mem_append_right _ (Jm a k)))).2.1
   cases ok with
   |false=>rw[Gi GJ]at O⊢;exact again J7 (av _ _ O)
   |true=>rw[Gp rfl]at O⊢;refine Yx (Y _ s7 J H7 _ J7 O) λxv D⟨aC,G,A,r8,q8⟩=>?_;obtain⟨ys,L,hz,q8⟩:=hN _ _ _ q8;obtain⟨z,its,n',ac,hl,k⟩:=A.iV L;refine LH GQ {_,k,Xb} FZ (FF _ _) (LY e.heap.objs.size its.toArray n' xv (by rw[List.size_toArray];lia)) {k,?_};refine again (A.l7 (its':=its++[xv]) (t':=D.toks) L k (by simp) (ac.append (.cons r8 .nil)) ?_) q8;rw[List.length_append,List.length_singleton];lia
 exact codeAny_compStart_list an (o.self X.A 0 _ _ _ ap an)
theorem uW{H:Hp}{s:Gk}(S:Xy X.env.scope scope)(I:zv X zq σ H s):
  ∃a:List (Tb×Gc),closureFor scope X.env=pure a/\(∀x c,a.lookup x=Ga c->X.env.cells.lookup x=Ga c)/\(∀x,(x,Tv)∈scope.names->∃c,a.lookup x=Ga c):=
 Kn λx b=>I.ok.has x (S.fre (x,.free) b Xb)
theorem Vs(E:X.calm=Gf)(S:Xy X.env.scope scope)(F:FV X scope fv)(L:PI X tg iter wi)
  (K:∀c C d s H,PG (ccx X (own++fv.map (·.2)) scope c C d s H) tg g)(O:∀c C d s H,iY (ccx X (own++fv.map (·.2)) scope c C d s H) ifs tt)(G:∀c C d s H,PE (ccx X (own++fv.map (·.2)) scope c C d s H) elt te)
  (N:∀x,foldedSetIterable iter X.env x=pure x:=by intro _;rfl):PE X (.ListComp elt [{tg,iter,ifs,0}] scope pos) (wj own.length fv wi g tt te):=by
 intro a s n H Q I h;rw[eval_ListComp];obtain⟨c,i,w,y⟩:=uW S I;refine Sz (use:=Gh) rfl N i S.kind S.loc (Yx (L a s n H _ I h) λv Y A=>Yx A λP Z B=>?_);obtain⟨W,d,tn,J,U,e,u,T,l,z,q⟩:=B;subst e;refine q9 (Q:=Q) (RR:=λb C=>compPost (Tc X.prog X.w) X.A X.xe Gh (EP X a n Q) b C) E S F w y K O G u T l z q λp C r R t j f M=>?_;obtain⟨m,j⟩:=j;refine{m,j,λV k=>{.ref p,r,?_,Xb,M}};exact t.turned (t':=R.toks) (λb o D e=>(k.2 b D).trans e) f.1 f.2.1 f.2.2.2.1 f.2.2.2.2.1 f.2.2.2.2.2
theorem Ue{i:Nat}{y:Tb}{h A:SV}(T:X.N.Nodup)(aa:X.N[i]?=Ga y)(w:X.env.scope.names.lookup y=Ga .local)(V:X.calm=Gf)(S:Xy X.env.scope scope)(F:FV X scope fv)(hi:PI X tg iter wi)
  (Z:∀e b f s c,PG (ccx X (own++fv.map (·.2)) scope e b f s c) tg g)(ht:∀e b f s c,iY (ccx X (own++fv.map (·.2)) scope e b f s c) ifs tt)(Y:∀e b f s c,PE (ccx X (own++fv.map (·.2)) scope e b f s c) elt te)
  (ac:swapsWith (.ListComp elt [{tg,iter,ifs,0}] scope pos) (Ga (.Name y h)) A.line X.env=pure Gf:=by rfl)
  (hs:∀x,foldedSetIterable iter X.env x=pure x:=by intro _;rfl):PS X (.Assign [.Name y h] (.ListComp elt [{tg,iter,ifs,0}] scope pos) A) (lD (wj own.length fv wi g tt te) (V2 i)):=by
 intro r s B c m u O;rw[exec_Assign_Name_used _ _ _ _ ac];obtain⟨e,W,L,M⟩:=uW S u;refine Gb (Ly (Gb ?_));show wpAny _ X.A (do let _<-comprehension (.ListComp elt [{tg,iter,ifs,0}] scope pos) scope X.env _ (newList []) Gs (eval iter X.env) (Ga (assign (.Name y h) X.env))) _ _ s;refine Gb (DE (Sz (use:=Ga (assign (.Name y h) X.env)) (Q:=λ_ l=>SP X r m .next l) rfl hs W S.kind S.loc (Yx (hi r s B c _ u O) λv s1 P=>Yx P λah s2 Q=>?_)) (λ_ l o=>Ge (Ge o)) λ_ _ j=>j);obtain⟨it,f,tn,ag,H2,j,H,I,af,N,q⟩:=Q;subst j;refine q9 (Q:=λx D=>V2 i x B D m.nx) (RR:=λJ b=>compPost (Tc X.prog X.w) X.A X.xe (Ga (assign (.Name y h) X.env)) (λ_ l=>SP X r m .next l) J b) V S F L M Z ht Y H I af N q λp b C l E n d o=>?_;obtain⟨ad,n⟩:=n;show wpAny _ X.A (assign (.Name y h) X.env (.ref p)) _ _ _;refine LO (sv E T aa (.inl w) (v:=.ref p) rfl (λae G t=>?_) (.inr w));obtain⟨a,t,k⟩:=t;have R:b≠a:=by
  rcases k with k|k
  .rw[k];exact d.2.1
  .exactλz=>d.2.2.2.2.1 y a k z.symm
 refine{ad,n.sameBut t R,λh' ab=>{_,C,?_,o}};exact G.turned (t':=ae.toks) (λK ai U j=>(ab.2 K U).trans j) d.1 d.2.1 d.2.2.2.1 d.2.2.2.2.1 d.2.2.2.2.2
end
theorem U7{a p:Gc}{xs:List V}{g:TG}{t:TE}{Q:Hp->Prop}{j:St}{o:Hp}(h:xs.length<=Gj)(d:Nat->List V->St->Hp->Prop)(A:d 0 [] j (zj o p (.lst [])))
  (D:∀i b c H,i<=xs.length->d i b c H->Q9 K H a xs)
  (E:∀i x b c H,xs[i]?=Ga x->b.length=i->d i b c H->H p=Ga (.lst b)->g x c H λk H2=>t k H2 λv r=>r p=Ga (.lst b)/\d (i+1) (b++[v]) k (zj r p (.lst (b++[v]))))
  (B:∀b c H,b.length=xs.length->d xs.length b c H->H p=Ga (.lst b)->Q H):i0 p (iz K a) g lj t Q j (zj o p (.lst [])):=by
 exists λi m c H=>m=xs.length - i/\i<=xs.length/\∃b,b.length=i/\d i b c H/\H p=Ga (.lst b),{xs.length,by simp,Gz _,[],Xb,A,Qb};rintro i m c H ⟨rfl,C,b,n,pv,s⟩;have q:=D i b c H C pv;by_cases f:i<xs.length
 .refine .inr {{xs,xs[i],q,by simp[f]},λv h l=>l p=Ga (.lst b)/\d (i+1) (b++[v]) h (zj l p (.lst (b++[v]))),λ_ _=>False,λv h l⟨u,w⟩=>{b,u,by lia,xs.length - (i+1),by lia,Xb,f,b++[v],by simp[n],w,Qb},λ_ _ z=>z.elim,λx l y=>?_};obtain⟨e,y⟩:=y;subst e;exact E i x b c _ (y xs q) n pv s
 .have e:i=xs.length:=by lia
  subst e;exact .inl {{xs,q,Gm _},B b c H n pv s}
theorem I8{a p:Gc}{xs:List V}{g:TG}{t:TE}{Q:Hp->Prop}{j:St}{o:Hp}(h:xs.length<=Gj)(d:Nat->List V->St->Hp->Prop)(A:d 0 [] j (zj o p (.lst [])))
  (D:∀i b c H,i<=xs.length->d i b c H->Za K H a xs)
  (E:∀i x b c H,xs[i]?=Ga x->b.length=i->d i b c H->H p=Ga (.lst b)->g x c H λk H2=>t k H2 λv r=>r p=Ga (.lst b)/\d (i+1) (b++[v]) k (zj r p (.lst (b++[v]))))
  (B:∀b c H,b.length=xs.length->d xs.length b c H->H p=Ga (.lst b)->Q H):i0 p (hF K a) g lj t Q j (zj o p (.lst [])):=by
 exists λi m c H=>m=xs.length - i/\i<=xs.length/\∃b,b.length=i/\d i b c H/\H p=Ga (.lst b),{xs.length,by simp,Gz _,[],Xb,A,Qb};rintro i m c H ⟨rfl,C,b,n,pv,s⟩;have q:=D i b c H C pv;by_cases f:i<xs.length
 .refine .inr {{xs,xs[i],q,by simp[f]},λv h l=>l p=Ga (.lst b)/\d (i+1) (b++[v]) h (zj l p (.lst (b++[v]))),λ_ _=>False,λv h l⟨u,w⟩=>{b,u,by ext,xs.length - (i+1),by ext,Xb,f,b++[v],by simp[n],w,Qb},λ_ _ z=>z.elim,λx l y=>?_};obtain⟨e,y⟩:=y;subst e;exact E i x b c _ (y xs q) n pv s
 .have e:i=xs.length:=by ext
  subst e;exact .inl {{xs,q,Gm _},B b c H n pv s}
mutual
inductive Dt(H:Hp):V->D4->Prop
 |non:Dt H .non .none
 |bl (b:Bool):Dt H (.bl b) (.bool b)
 |int (i:Int):Dt H (.int i) (.int i)
 |str (x:Tb):Dt H (.str x) (.str x)
 |lst {a:Gc} {xs:List V} {ds:List D4}:H a=Ga (.lst xs)->gz H xs ds->Dt H (.ref a) (.list ds)
 |tup {a:Gc} {xs:List V} {ds:List D4}:H a=Ga (.tup xs)->gz H xs ds->Dt H (.ref a) (.tuple ds)
inductive gz(H:Hp):List V->List D4->Prop
 |nil:gz H [] []
 |cons {x:V} {xs:List V} {d:D4} {ds:List D4}:Dt H x d->gz H xs ds->gz H (x::xs) (d::ds)
end
mutual
theorem Dt.same{H a:Hp}(e:Q6 H a):∀{v:V}{d:D4},Dt H v d->Dt a v d
 |_,_,.non=>.non
 |_,_,.bl b=>.bl b
 |_,_,.int i=>.int i
 |_,_,.str x=>.str x
 |_,_,.lst h t=>.lst (e _ _ h) (gz.same e t)
 |_,_,.tup h t=>.tup (e _ _ h) (gz.same e t)
theorem gz.same{H a:Hp}(e:Q6 H a):∀{c:List V}{b:List D4},gz H c b->gz a c b
 |_,_,.nil=>.nil
 |_,_,.cons h t=>.cons (Dt.same e h) (gz.same e t)
end
theorem gz.length{H:Hp}:∀{b:List V}{a:List D4},gz H b a->b.length=a.length
 |_,_,.nil=>rfl
 |_,_,.cons _ t=>by rw[List.length_cons,List.length_cons,t.length]
mutual
theorem Dt.reads{P:Gg}{w:Gu}{H:Hp}{h:Heap}(ok:Rp P w H h):∀{v:V}{d:D4}{u:Value},Dt H v d->zu v u->∃c,Lz h u d c
 |_,_,u,.non,r=>{[],by cases(show u=Value.none from r);exact .none}
 |_,_,u,.bl b,r=>{[],by cases(show u=Value.bool b from r);exact .bool b}
 |_,_,u,.int i,r=>{[],by obtain⟨t,e⟩:=(show∃t,u=Value.int i t from r);cases e;exact .int i t}
 |_,_,u,.str x,r=>{[],by obtain⟨t,e⟩:=(show∃t,u=Value.str x t from r);cases e;exact .str x t}
 |_,_,u,.lst (a:=a) (xs:=xs) e t,r=>by obtain⟨_,g,n,k,f⟩:=(show Ym P w H h a (.lst xs)from ok a _ e);obtain⟨c,j⟩:=gz.reads ok t k;cases(show u=Value.ref a from r);exact{a::c,.list f rfl rfl (by simpa using j)}
 |_,_,u,.tup (a:=a) (xs:=xs) e t,r=>by obtain⟨_,g,k,o,f,b,n,l⟩:=(show Ym P w H h a (.tup xs)from ok a _ e);obtain⟨c,j⟩:=gz.reads ok t k;cases(show u=Value.ref a from r);exact{c,.tuple f b l (by simpa using j)}
theorem gz.reads{P:Gg}{w:Gu}{H:Hp}{h:Heap}(ok:Rp P w H h):∀{e:List V}{b:List D4}{c:List Value},gz H e b->Z2 e c->∃a,EV h c b a
 |_,_,_,.nil,.nil=>{[],.nil}
 |_,_,_,.cons d t,.cons r j=>by obtain⟨a,g⟩:=Dt.reads ok d r;obtain⟨f,i⟩:=gz.reads ok t j;exact{a++f,.cons g i}
end
inductive sx(f:Bool->Bool)(x:V)(y:V)(H:Hp)(Q:VK):Prop
 |mk (dx:_) (dy:_) (h0:Dt H x dx) (h1:Dt H y dy) (h2:dx.canLay0=Gf) (h3:dy.canLay0=Gf) (h4:min dx.depth dy.depth<=64) (h5:Q (.bl (f (Tg dx dy))) H):sx f x y H Q
def jD(f:Bool->Bool):R2:=λx y H Q=>sx f x y H Q
inductive yU(f:Bool->Bool)(x:V)(y:V)(H:Hp)(Q:VK):Prop
 |mk (dx:_) (ds:_) (h0:Dt H x dx) (h1:Dt H y (.list ds)) (h2:dx.canLay0=Gf) (h3:GO ds=Gf) (h4:min (Tu ds) dx.depth<=63) (h5:Q (.bl (f (ds.any λd=>Tg d dx))) H):yU f x y H Q
def zp(f:Bool->Bool):R2:=λx y H Q=>yU f x y H Q
section
variable{X:Cx}
theorem Uq(a:X.A.units+64<DA):Oc X (T6 .Eq) (jD λb=>b):=by intro a s r H x y v u Q I j k h;obtain⟨n,o,e,f,c,d,p,q⟩:=h;obtain⟨l,g⟩:=e.reads I.Z3 j;obtain⟨m,i⟩:=f.reads I.Z3 k;exact Fy g i c d (by lia) {.bl _,H,I,Xb,q}
theorem jq(a:X.A.units+64<DA):Oc X (T6 .NotEq) (jD λb=>!b):=by intro a s r H x y v u Q I j k h;obtain⟨n,o,e,f,c,d,p,q⟩:=h;obtain⟨l,g⟩:=e.reads I.Z3 j;obtain⟨m,i⟩:=f.reads I.Z3 k;exact Fz g i c d (by ext) {.bl _,H,I,Xb,q}
theorem HM(a:X.A.units+64<DA):Oc X (T6 .In) (zp λb=>b):=by intro a s r H x y v u Q I j k h;obtain⟨o,n,e,f,c,d,p,q⟩:=h;obtain⟨l,g⟩:=e.reads I.Z3 j;obtain⟨m,i⟩:=f.reads I.Z3 k;exact F0 i g d c (by ext) {.bl _,H,I,Xb,q}
theorem JS(a:X.A.units+64<DA):Oc X (T6 .NotIn) (zp λb=>!b):=by intro a s r H x y v u Q I j k h;obtain⟨o,n,e,f,c,d,p,q⟩:=h;obtain⟨l,g⟩:=e.reads I.Z3 j;obtain⟨m,i⟩:=f.reads I.Z3 k;exact Ft i g d c (by ext) {.bl _,H,I,Xb,q}
inductive yh(K:Gd)(xs:List V)(H:Hp)(Q:VK):Prop
 |mk (x:_) (n:_) (t:_) (b:_) (h0:xs=[x,.ty n]) (h1:gR K H x t) (h2:DI K t (.type n)=Ga b) (h3:Q (.bl b) H):yh K xs H Q
def Kp(K:Gd):List V->Hp->VK->Prop:=λxs H Q=>yh K xs H Q
theorem Y2:Um X (.builtin "isinstance") (Kp X.K):=by intro a s k H j i Q I r h;obtain⟨x,n,t,b,rfl,ty,e,q⟩:=h;obtain⟨u,g,rfl,c,d⟩:=vals2 r;cases(show g=Value.type n from d);exact IS I c ty e λf=>{.bl b,H,I.tok f,Xb,q}
end
theorem jR:DI K (.type "list") (.type "list")=Ga Gf:=by rfl
theorem Rw:DI K (.type "tuple") (.type "tuple")=Ga Gf:=by rfl
theorem jC:DI K (.type "str") (.type "str")=Ga Gf:=by rfl
theorem jj:DI K (.type "int") (.type "bool")=Ga Gs:=by kernel_rfl
theorem jM:DI K (.type "int") (.type "int")=Ga Gf:=by rfl
end L2
namespace PySem
section
variable{prog:Gg}{w:Gu}{A:TQ}{E:Value->Gk->Prop}{s:Gk}
open PyProof.Rows
def Heap.pF(h:Heap)(a l:Gc)(i:Int):Prop:=∃o,h.get? a=Ga o/\o.cls=.type "reversed"/\o.data=.fields #[.ref l,rawInt i]
theorem Heap.pF.at{h b:Heap}{a l:Gc}{i:Int}(x:h.pF a l i)(e:∀o,h.get? a=Ga o->b.get? a=Ga o):b.pF a l i:=let⟨o,ho,r⟩:=x;{o,e _ ho,r}
end
section
variable{prog:Gg}{w:Gu}{K:Type}[DecidableEq K]{knd:Nr prog w K}{A:TQ}{E:Value->Gk->Prop}{s:Gk}
theorem Us{d a:Gc}{l:List (K×Gc×Value)}{k:K}{dflt:Value}{Q:Value->Gk->Prop}(u:knd.room A)(b:knd.is s.heap k a)(C:s.heap.DictOfH knd d l)
  (c:∀p,atKey l k=Ga p->Q p.2 {s with toks:=s.toks+knd.draws k})
  (n:atKey l k=Gh->∀e,e.DictOfH knd d (l++[(k,a,dflt)])->Heap.SameBut d s.heap e->Q dflt {s with heap:=e,toks:=s.toks+knd.draws k})
  (e:l.length<=Gj):
  wpAny (Tc prog w) A (dictSetDefault d (.ref a) dflt) Q E s:=by
 obtain⟨o,e,z,i,B,h,r,m,t⟩:=C;unfold dictSetDefault;try with_reducible refine T1 ?_
 refine Gb (knd.pyHash u b ?_);refine Gb (wpAny_dictFind_heap (s:={s with toks:=s.toks+knd.draws k}) u b i h r m t ?_ ?_)
 .intro o;have q:k∉l.map (·.1):=not_mem_keys_of_get o;have g:=atKey_none_of_get o;refine Gb (EN (Gb (wpAny_updateDictKeys (hz:=by have e:=size_of_entries r;ext) (s:={s with toks:=s.toks+knd.draws k}) i h (Ge (n g _ ⟨_,_,z+1,Heap.get?_update_self _ i (Obj.isFreed_of_dict (Lh h _)),
   B.mapDictKeys _,Lh h _,?_,?_,?_⟩ (Heap.SameBut.update ..))))))
  .simp[r,entryOfKey]
  .intro x f;rcases List.mem_append.mp f with f|f
   .exact knd.keeps (m x f) i h (Heap.SameBut.update ..)
   .simp only[List.mem_singleton]at f;subst f;exact knd.keeps b i h (Heap.SameBut.update ..)
  .rw[List.map_append,List.nodup_append];exists t,(by simp);intro x f y v;simp only[List.map_cons,List.map_nil,List.mem_singleton]at v;subst v;exactλe=>q (e▸f)
 .intro j p e;have g:=atKey_of_get t e;refine Gb (Dx (s:={s with toks:=s.toks+knd.draws k}) i h ?_);rw[entry_at r j,e];exact Gb (EN (Ge (c p g)))
theorem Wt(b:Nr prog w K)(d a:Gc)(m:(d==T8)=Gs)(dflt:Value):
  MeetsIn prog w (Builtin.«dict.setdefault» {[.ref d,.ref a,dflt],[]}) (λA R s=>b.room A.in1/\∃k c,b.is s.heap k a/\s.heap.DictOfH b d c/\c.length<=Gj/\
   (∀p,atKey c k=Ga p->R (.ok (.ret p.2)) {s with toks:=s.toks+b.draws k})/\
   (atKey c k=Gh->∀e,e.DictOfH b d (c++[(k,a,dflt)])->Heap.SameBut d s.heap e->R (.ok (.ret dflt)) {s with heap:=e,toks:=s.toks+b.draws k})):=
 .of_wp λA R s⟨o,k,c,f,i,q,j,l⟩=>by unfold Builtin.«dict.setdefault»;refine Gb ?_;unfold Builtin.Dict.keyAndDefault;refine Gb (EK i.typeIs ?_);show wpAny _ _ (pure (d,Value.ref a,Ga dflt)) _ _ s;refine Ge ?_;show wpAny _ _ (if(d==T8)=Gf then _ else(dictSetDefault d (.ref a) dflt>>=_)) _ _ s;rw[Gi (by rw[m];exact GJ)];exact Gb (Us o f i (λp g=>Ge {p.2,Xb,j p g}) (λn e g h=>Ge {dflt,Xb,l n e g h}) q)
end
end PySem
namespace L2
open PySem PySem.Spec PyProof.Rows
section
variable{X:Cx}{tg:TZ}
inductive wA(x:V)(vs:List V)(H:Hp)(Q:VK):Prop
 |mk (d:_) (b:_) (dv:_) (zw:_) (k:_) (h0:x=.ref d) (h1:vs=[.ref b,dv]) (h2:H d=Ga (.dT zw)) (h3:H b=Ga (.tup (k.map kV))) (h4:zw.length<Gj) (h5:(∀v,Xh zw k=Ga v->Q v H)) (h6:(Xh zw k=Gh->Q dv (zj H d (.dT (zw++[(k,dv)]))))):wA x vs H Q
def Pw:V->List V->Hp->VK->Prop:=λx a H Q=>wA x a H Q
theorem PU(O:X.A.units+1<DA):hH X "dict.setdefault" Pw:=by
 intro w s aa H x vs v us Q I V U h;obtain⟨d,b,l,a,k,rfl,rfl,e,o,Z,R,S⟩:=h;cases(show v=Value.ref d from V);obtain⟨W,B,rfl,T,A⟩:=vals2 U;cases(show W=Value.ref b from T);obtain⟨z,t,m,f,n⟩:=vE I.Z3 e;have P:a.length=m.length:=Gq f;refine SU F.slot_dict_setdefault n.typeIs F.entry_dict_setdefault (F.args_dict_setdefault_3 _ _ _) (Wt (tupleKind (Yt X.prog X.w)) d b t B) {Ei O,k,m,je I.Z3 o,n,by lia,λp M=>?_,λL Y j N=>?_}
 .have g:=f.val k;rw[M]at g;cases q:Xh a k with
  |none=>rw[q]at g;exact(show False from g).elim
  |some y=>rw[q]at g;exact{y,H,I.tok _,g,R y q}
 .have g:=f.val k;rw[L]at g;cases q:Xh a k with
  |some y=>rw[q]at g;exact(show False from g).elim
  |none=>obtain⟨ob,D,C,u,E,G,J,_,K⟩:=j;have i:KT H (a++[(k,l)]) (m++[(k,b,B)]):=DU f ⟨Xb,o,A⟩;refine{l,_,I9 (ob:=.dT (a++[(k,l)])) I (by rw[e];exact T9) N ⟨ob,u⟩ {by rw[List.length_append,List.length_singleton];lia,t,_,i.keeps λc ys r=>?_,ob,D,C,u,E,G,J,K},A,S q};rw[Qg (Zo r e nofun)];exact r
end
theorem Qf{H:Hp}{p:Gc}(h:H p=Gh)(o:HO):Q6 H (zj H p o):=λb u q=>by rw[Qg (Qd q h)];exact q
theorem nd1(x:Tb):[x].Nodup:=by simp
theorem small{n:Nat}(h:n<=16000000):n<=Gj:=by rw[GV];ext
end L2
namespace Sb
open PySem
inductive Th where
 |mk (w:Tb) (ps:List Th)
mutual
def Th.size:Th->Nat
 |.mk _ ps=>Qx ps+1
def Qx:List Th->Nat
 |[]=>0
 |p::r=>p.size+Qx r
end
mutual
def Th.depth:Th->Nat
 |.mk _ ps=>Wz ps+1
def Wz:List Th->Nat
 |[]=>0
 |p::r=>max p.depth (Wz r)
end
mutual
def Th.inside:Th->List Th
 |.mk w ps=>Zf ps++[.mk w ps]
def Zf:List Th->List Th
 |[]=>[]
 |p::r=>p.inside++Zf r
end
mutual
def Th.toD:Th->D4
 |.mk w ps=>.tuple (.str w::Wa ps)
def Wa:List Th->List D4
 |[]=>[]
 |p::r=>p.toD::Wa r
end
mutual
def Th.ok:Th->Bool
 |.mk w ps=>TR w&&okL ps
def okL:List Th->Bool
 |[]=>Gf
 |p::r=>p.ok&&okL r
end
def Ro(w:Tb):Bool:=TR w&&decide (w.length<=200)
theorem Ro.str{w:Tb}(h:Ro w=Gf):TR w=Gf:=(DG.mp h).1
theorem Ro.len{w:Tb}(h:Ro w=Gf):w.length<=200:=TC (DG.mp h).2
mutual
def Th.short:Th->Bool
 |.mk w ps=>decide (w.length<=200)&&jI ps
def jI:List Th->Bool
 |[]=>Gf
 |p::r=>p.short&&jI r
end
def Th.word:Th->Tb
 |.mk w _=>w
def Th.parts:Th->List Th
 |.mk _ ps=>ps
theorem V4:∀a:List Th,okL a=a.all Th.ok
 |[]=>by simp[okL]
 |t::r=>by simp[okL,V4 r]
mutual
theorem JL:∀t:Th,t.inside.length=t.size
 |.mk w a=>by simp[Th.inside,Th.size,Uy a]
theorem Uy:∀a:List Th,(Zf a).length=Qx a
 |[]=>by simp[Zf,Qx]
 |p::r=>by simp[Zf,Qx,JL p,Uy r]
end
theorem Ig(t:Th):1<=t.size:=by cases t;simp[Th.size]
theorem oO(t:Th):1<=t.depth:=by cases t;simp[Th.depth]
theorem y8:∀{a:List Th}{t:Th},t∈a->t.size<=Qx a
 |p::r,t,h=>by
  rcases List.mem_cons.mp h with rfl|h
  .simp[Qx]
  .have:=y8 h;simp only[Qx];ext
theorem Wd:∀{a:List Th}{t:Th},t∈a->t.depth<=Wz a
 |p::r,t,h=>by
  rcases List.mem_cons.mp h with rfl|h
  .simp only[Wz];lia
  .have:=Wd h;simp only[Wz];lia
theorem Ze:∀a:List Th,a.length<=Qx a
 |[]=>by simp[Qx]
 |p::r=>by have:=Ig p;have:=Ze r;simp only[Qx,List.length_cons];lia
mutual
theorem zV:∀(t:Th){s:Th},s∈t.inside->s.size<=t.size
 |.mk w a,s,h=>by
  simp only[Th.inside,List.mem_append,List.mem_singleton]at h;rcases h with h|rfl
  .have:=O3 a h;simp only[Th.size];ext
  .exact Gm _
theorem O3:∀(a:List Th){s:Th},s∈Zf a->s.size<=Qx a
 |p::r,s,h=>by
  simp only[Zf,List.mem_append]at h;rcases h with h|h
  .have:=zV p h;simp only[Qx];ext
  .have:=O3 r h;simp only[Qx];ext
 |[],s,h=>by simp[Zf]at h
end
theorem yf(t:Th):t∈t.inside:=by cases t;simp[Th.inside]
theorem Xz:∀a:List Th,Zf a=a.flatMap Th.inside
 |[]=>by simp[Zf]
 |p::r=>by simp[Zf,Xz r]
theorem HV{x y:Tb}:(x==y)=decide (x=y):=by
 by_cases h:x=y
 .subst h;simp
 .simp[h]
mutual
theorem Jq:∀s t:Th,Tg s.toD t.toD=Gf↔s=t
 |.mk w a,.mk v b=>by simp only[Th.toD,Tg,Ts,Tn,Th.mk.injEq];rw[yL a b,HV,decide_eq_true_iff]
theorem yL:∀a b:List Th,Ts (Wa a) (Wa b)=Gf↔a=b
 |[],[]=>by simp[Wa,Ts]
 |[],t::r=>by simp[Wa,Ts]
 |s::r,[]=>by simp[Wa,Ts]
 |s::r,t::q=>by simp only[Wa,Ts,Tn,List.cons.injEq];rw[Jq s t,yL r q]
end
instance:DecidableEq Th:=λs t=>if h:Tg s.toD t.toD=Gf then .isTrue ((Jq s t).mp h)else .isFalse λe=>h ((Jq s t).mpr e)
theorem O1(s t:Th):Tg s.toD t.toD=decide (s=t):=by
 by_cases h:s=t
 .rw[Gw h];exact(Jq s t).mpr h
 .rw[Gr h];exact Sr.mpr λe=>h ((Jq s t).mp e)
mutual
theorem Wi:∀t:Th,t.ok=Gf->t.toD.canLay0=Gf
 |.mk w a,h=>by simp only[Th.ok,Tn]at h;simp only[Th.toD,Td,GO,Tn];exact{h.1,Od a h.2}
theorem Od:∀a:List Th,okL a=Gf->GO (Wa a)=Gf
 |[],_=>by simp[Wa,GO]
 |t::r,h=>by simp only[okL,Tn]at h;simp only[Wa,GO,Tn];exact{Wi t h.1,Od r h.2}
end
mutual
theorem Xl:∀t:Th,t.toD.depth=t.depth
 |.mk w a=>by simp only[Th.toD,T5,Tu,Th.depth,rV a];lia
theorem rV:∀a:List Th,Tu (Wa a)=Wz a
 |[]=>by simp[Wa,Tu,Wz]
 |t::r=>by simp[Wa,Tu,Wz,Xl t,rV r]
end
def Yy(a:List Th)(xs:List Th):List Th:=xs.foldl (λa x=>if x∈a then a else a++[x]) a
theorem Iv(a:List Th):Yy a []=a:=rfl
theorem Re(a:List Th)(x:Th)(r:List Th):Yy a (x::r)=Yy (if x∈a then a else a++[x]) r:=rfl
theorem Uz(a b c:List Th):Yy a (b++c)=Yy (Yy a b) c:=by unfold Yy;rw[List.foldl_append]
theorem HH(a b:List Th)(y:Th):Yy a (b++[y])=if y∈Yy a b then Yy a b else Yy a b++[y]:=by rw[Uz];rfl
theorem oy:∀(c b:List Th)(y:Th),y∈Yy b c↔y∈b\/y∈c
 |[],b,y=>by simp[Iv]
 |x::r,b,y=>by
  rw[Re,oy r];by_cases h:x∈b
  .rw[Gp h];constructor
   .rintro(a|a)
    .exact .inl a
    .exact .inr (List.mem_cons_of_mem _ a)
   .rintro(a|a)
    .exact .inl a
    .rcases List.mem_cons.mp a with rfl|a
     .exact .inl h
     .exact .inr a
  .rw[Gi h];simp only[List.mem_append,List.mem_cons,List.not_mem_nil,Sg];constructor
   .rintro((a|a)|a)
    .exact .inl a
    .exact .inr (.inl a)
    .exact .inr (.inr a)
   .rintro(a|a|a)
    .exact .inl (.inl a)
    .exact .inl (.inr a)
    .exact .inr a
theorem ri:∀(b a:List Th),(∀x∈b,x∈a)->Yy a b=a
 |[],_,_=>rfl
 |x::r,a,h=>by rw[Re,Gp (h x List.mem_cons_self)];exact ri r a λy c=>h y (List.mem_cons_of_mem _ c)
theorem pT:∀(b a:List Th),(Yy a b).length<=a.length+b.length
 |[],a=>by simp[Iv]
 |x::r,a=>by
  rw[Re];have:=pT r (if x∈a then a else a++[x]);split at this
  .rename_i h
   rw[Gp h];simp only[List.length_cons];lia
  .rename_i h
   rw[Gi h];simp only[List.length_append,List.length_cons,List.length_nil]at this⊢;lia
def Ui(ts:List Th):Prop:=∀t∈ts,∀s∈t.inside,s∈ts
theorem Hc:Ui []:=λ_ h=>by simp at h
theorem vZ{a:List Th}{t:Th}(h:Ui a)(b:t∈a):Yy a t.inside=a:=ri _ _ λx c=>h t b x c
theorem Vw:∀(b a:List Th),∃m,Yy a b=a++m
 |[],a=>{[],by simp[Iv]}
 |x::r,a=>by
  rw[Re];split
  .exact Vw r a
  .obtain⟨m,e⟩:=Vw r (a++[x]);exact{x::m,by rw[e];simp}
def qj(t:Th):List Tb:=t.word::t.parts.map Th.word
end Sb
namespace L2
open PySem PySem.Spec PyProof.Rows
theorem gX(x:V)(a:List V):Ja (x::a) (Ga 1) Gh=a:=by
 have e:HT.Wq (x::a).length 0 (Ga 1)=1:=by have q:=HT.Ra (x::a).length 0 1;rw[List.length_cons]at q⊢;refine q.trans ?_;lia
 unfold Ja;rw[e,HT.Ol];simp
theorem Wc(x:V)(a:List V):¬(HT.Wq (x::a).length 0 (Ga 1)=0/\HT.Wq (x::a).length (x::a).length Gh=(x::a).length):=by
 have e:HT.Wq (x::a).length 0 (Ga 1)=1:=by have q:=HT.Ra (x::a).length 0 1;rw[List.length_cons]at q⊢;refine q.trans ?_;ext
 rw[e];rintro⟨h,_⟩;exact absurd h (by decide)
end L2
namespace Sb
open PySem PySem.Spec PyProof.Rows L2
variable{H H':Hp}{v:V}{t:Th}
mutual
inductive Zv(H:Hp):V->Th->Prop
 |mk {a:Gc} {w:Tb} {vs:List V} {ps:List Th}:H a=Ga (.tup (.str w::vs))->Zr H vs ps->Zv H (.ref a) (.mk w ps)
inductive Zr(H:Hp):List V->List Th->Prop
 |nil:Zr H [] []
 |cons {v:V} {vs:List V} {t:Th} {ts:List Th}:Zv H v t->Zr H vs ts->Zr H (v::vs) (t::ts)
end
def Q4(H H':Hp):Prop:=∀b xs,H b=Ga (.tup xs)->H' b=Ga (.tup xs)
theorem Q4.of(e:Q6 H H'):Q4 H H':=λb a h=>e b _ h
theorem Q4.trans{d e:Hp}(a:Q4 H d)(b:Q4 d e):Q4 H e:=λc f h=>b c f (a c f h)
theorem Z0{a:Gc}{o:HO}(h:∀c,H a≠Ga (.tup c)):Q4 H (zj H a o):=λb c e=>by
 by_cases d:b=a
 .subst d;exact absurd e (h c)
 .rw[Qg d];exact e
mutual
theorem Zv.Qs{H a:Hp}(e:Q4 H a):∀{v:V}{t:Th},Zv H v t->Zv a v t
 |_,_,.mk h r=>.mk (e _ _ h) (Zr.Qs e r)
theorem Zr.Qs{H a:Hp}(e:Q4 H a):∀{c:List V}{b:List Th},Zr H c b->Zr a c b
 |_,_,.nil=>.nil
 |_,_,.cons h r=>.cons (Zv.Qs e h) (Zr.Qs e r)
end
theorem Zv.same(e:Q6 H H')(h:Zv H v t):Zv H' v t:=h.Qs (Q4.of e)
theorem Zr.same(e:Q6 H H'){b:List V}{a:List Th}(h:Zr H b a):Zr H' b a:=h.Qs (Q4.of e)
mutual
theorem Zv.dt{H:Hp}:∀{v:V}{t:Th},Zv H v t->Dt H v t.toD
 |_,_,.mk (w:=w) (ps:=ps) h r=>by
  have e:(Th.mk w ps).toD=.tuple (.str w::Wa ps):=by simp[Th.toD]
  rw[e];exact .tup h (.cons (.str w) (Zr.dts r))
theorem Zr.dts{H:Hp}:∀{b:List V}{a:List Th},Zr H b a->gz H b (Wa a)
 |_,_,.nil=>by simp only[Wa];exact .nil
 |_,_,.cons h r=>by simp only[Wa];exact .cons (Zv.dt h) (Zr.dts r)
end
theorem Zv.inv(h:Zv H v t):∃a w c b,v=.ref a/\t=.mk w b/\H a=Ga (.tup (.str w::c))/\Zr H c b:=by
 cases h with
 |mk h r=>exact{_,_,_,_,Xb,Xb,h,r}
theorem Zr.length{H:Hp}:∀{b:List V}{a:List Th},Zr H b a->b.length=a.length
 |_,_,.nil=>rfl
 |_,_,.cons _ t=>by rw[List.length_cons,List.length_cons,t.length]
theorem Zr.append{H:Hp}:∀{d c:List V}{b a:List Th},Zr H d b->Zr H c a->Zr H (d++c) (b++a)
 |_,_,_,_,.nil,t=>t
 |_,_,_,_,.cons h r,t=>.cons h (r.append t)
theorem Zr.one(h:Zv H v t):Zr H [v] [t]:=.cons h .nil
theorem Zr.get{H:Hp}:∀{b:List V}{a:List Th}{i:Nat}{v:V},Zr H b a->b[i]?=Ga v->∃t,a[i]?=Ga t/\Zv H v t
 |_,_,_,_,.nil,e=>by simp at e
 |_,_,0,_,.cons h _,e=>by simp at e;subst e;exact{_,Xb,h}
 |_,_,i+1,_,.cons _ t,e=>by obtain⟨d,c,f⟩:=Zr.get (i:=i) t (by simpa using e);exact{d,by simpa using c,f}
theorem Zr.at{H:Hp}{b:List V}{a:List Th}{i:Nat}{t:Th}(h:Zr H b a)(e:a[i]?=Ga t):∃v,b[i]?=Ga v/\Zv H v t:=by
 have g:i<a.length:=(List.getElem?_eq_some_iff.mp e).1;have d:i<b.length:=by rw[h.length];exact g
 obtain⟨j,c,f⟩:=h.get (List.getElem?_eq_getElem d);rw[e]at c;cases c;exact{_,List.getElem?_eq_getElem d,f}
theorem Iq:∀(a:List Th)(n:Nat),(∀t∈a,t.size<=n)->Qx a<=a.length*n
 |[],n,_=>by simp[Qx]
 |t::r,n,h=>by have c:=h t List.mem_cons_self;have d:=Iq r n λs b=>h s (List.mem_cons_of_mem _ b);simp only[Qx,List.length_cons];rw[Eg];lia
structure Drawn(ts:List Th)(m:Nat):Prop where
 len:ts.length=3+m
 ok:∀t∈ts,t.ok=Gf
 dep:∀(j:Nat)t,ts[j]?=Ga t->t.depth<=j+1
 one:∀(j:Nat)t,ts[j]?=Ga t->j<=2->t.size<=1
 two:∀(j:Nat)t,ts[j]?=Ga t->j<=3->t.size<=4
 tri:∀(j:Nat)t,ts[j]?=Ga t->j<=4->t.size<=10
 any:∀(j:Nat)t,ts[j]?=Ga t->t.size<=12*j+1
 sh:∀t∈ts,t.short=Gf
 tab:ts[1]?=Ga (.mk "tab" [])
 cl:∀t∈ts,∀p∈t.parts,p∈ts
inductive vV(K:Gd)(vs:List V)(H:Hp)(Q:VK):Prop
 |mk (a:Gc) (ns:List Int) (h0:vs=[.ref a]) (h1:Za K H a (ns.map V.int)) (h2:ns.length<=63) (h3:∀(r:Gc)(us:List V)(ts:List Th)(H':Hp),Q6 H H'->H r=Gh->H' r=Ga (.lst us)->Zr H' us ts->Drawn ts ns.length->Q (.ref r) H'):vV K vs H Q
def vg(K:Gd):Sp:=λa H Q _=>vV K a H Q
inductive rz(vs:List V)(H:Hp)(Q:VK):Prop
 |mk (n:Int) (h0:vs=[.int n]) (h1:∀(x:Tb),Ro x=Gf->Q (.str x) H):rz vs H Q
def sj:Sp:=λa H Q _=>rz a H Q
inductive qH(K:Gd)(vs:List V)(H:Hp)(Q:VK):Prop
 |mk (a:Gc) (ns:List Int) (h0:vs=[.ref a]) (h1:Za K H a (ns.map V.int)) (h2:ns.length<=63) (h3:∀H',Q (.bl Gf) H'):qH K vs H Q
def lr(K:Gd):Sp:=λa H Q _=>qH K a H Q
end Sb
namespace L2
open PySem PySem.Spec PyProof.Rows
inductive KD where
 |int (i:Int)
 |str (x:Tb)
 |tup (xs:List KD)
mutual
def KD.toD:KD->D4
 |.int i=>.int i
 |.str x=>.str x
 |.tup xs=>.tuple (U2 xs)
def U2:List KD->List D4
 |[]=>[]
 |x::r=>x.toD::U2 r
end
mutual
def KD.depth:KD->Nat
 |.int _=>0
 |.str _=>0
 |.tup xs=>Ie xs+1
def Ie:List KD->Nat
 |[]=>0
 |x::r=>max x.depth (Ie r)
end
mutual
def KD.hash(w:Gu):KD->Int
 |.int i=>hashInt i
 |.str x=>hashStr w x
 |.tup xs=>reduceHash (Builtin.Tuple.tupleHashOf (Up w xs))
def Up(w:Gu):List KD->List Int
 |[]=>[]
 |x::r=>x.hash w::Up w r
end
mutual
def KD.draws:KD->Nat
 |.int _=>1
 |.str _=>1
 |.tup xs=>X9 xs+1
def X9:List KD->Nat
 |[]=>0
 |x::r=>x.draws+X9 r
end
theorem KP:∀a:List KD,U2 a=a.map KD.toD
 |[]=>by simp[U2]
 |x::r=>by simp[U2,KP r]
theorem xQ(w:Gu):∀a:List KD,Up w a=a.map (KD.hash w)
 |[]=>by simp[Up]
 |x::r=>by simp[Up,xQ w r]
theorem Ih:∀b a:List KD,X9 (b++a)=X9 b+X9 a
 |[],a=>by simp[X9]
 |x::r,a=>by simp only[List.cons_append,X9,Ih r a];lia
theorem p8:∀{xs:List KD}{x:KD},x∈xs->x.depth<=Ie xs
 |y::r,x,h=>by
  simp only[Ie];rcases List.mem_cons.mp h with rfl|h
  .lia
  .have:=p8 h;lia
mutual
theorem kz:∀a b:KD,Tg a.toD b.toD=Gf↔a=b
 |.int i,.int j=>by simp[KD.toD,Tg]
 |.int i,.str y=>by simp[KD.toD,Tg]
 |.int i,.tup d=>by simp[KD.toD,Tg]
 |.str x,.int j=>by simp[KD.toD,Tg]
 |.str x,.str y=>by simp[KD.toD,Tg]
 |.str x,.tup d=>by simp[KD.toD,Tg]
 |.tup c,.int j=>by simp[KD.toD,Tg]
 |.tup c,.str y=>by simp[KD.toD,Tg]
 |.tup c,.tup d=>by simp only[KD.toD,Tg,KD.tup.injEq];exact t8 c d
theorem t8:∀a b:List KD,Ts (U2 a) (U2 b)=Gf↔a=b
 |[],[]=>by simp[U2,Ts]
 |[],_::_=>by simp[U2,Ts]
 |_::_,[]=>by simp[U2,Ts]
 |x::r,y::q=>by simp only[U2,Ts,Tn,List.cons.injEq];rw[kz x y,t8 r q]
end
instance:DecidableEq KD:=λa b=>if h:Tg a.toD b.toD=Gf then .isTrue ((kz a b).mp h)else .isFalse λe=>h ((kz a b).mpr e)
theorem KC(a b:KD):Tg a.toD b.toD=decide (a=b):=by
 by_cases h:a=b
 .rw[Gw h];exact(kz a b).mpr h
 .rw[Gr h];exact Sr.mpr λe=>h ((kz a b).mp e)
mutual
theorem Oq:∀a:KD,a.toD.depth=a.depth
 |.int _=>by simp[KD.toD,T5,KD.depth]
 |.str _=>by simp[KD.toD,T5,KD.depth]
 |.tup b=>by simp only[KD.toD,T5,KD.depth,xr b]
theorem xr:∀a:List KD,Tu (U2 a)=Ie a
 |[]=>by simp[U2,Tu,Ie]
 |x::r=>by simp only[U2,Tu,Ie,Oq x,xr r]
end
theorem Iz{h:Heap}{v:Value}{d:List D4}{b:List Gc}(r:Lz h v (.tuple d) b):∃a o c n,v=.ref a/\h.get? a=Ga o/\o.cls=.type "tuple"/\o.data=.seq c n/\EV h c.toList d b:=by
 cases r with
 |tuple e f g i=>exact{_,_,_,_,Xb,e,f,g,i}
mutual
theorem wo{h p:Heap}{d:Gc}{o:Ef}{r:Array Eo}{q:Nat}(j:h.get? d=Ga o)(g:o.data=.dict r q)(k:Heap.SameBut d h p):∀{v:Value}{x:D4}{n:List Gc},Lz h v x n->x.canLay0=Gf->Lz p v x n
 |_,_,_,.none,_=>.none
 |_,_,_,.bool b,_=>.bool b
 |_,_,_,.int i t,_=>.int i t
 |_,_,_,.str x t,_=>.str x t
 |_,_,_,.list (a:=a) c l e m,f=>by simp only[Td]at f;refine .list ((k.2 a ?_).trans c) l e (Jj j g k m f);rintro rfl;rw[j]at c;cases c;rw[g]at e;cases e
 |_,_,_,.tuple (a:=a) c l e m,f=>by simp only[Td]at f;refine .tuple ((k.2 a ?_).trans c) l e (Jj j g k m f);rintro rfl;rw[j]at c;cases c;rw[g]at e;cases e
 |_,_,_,.dict _ _ _ _ _,f=>by simp[Td]at f
theorem Jj{h e:Heap}{d:Gc}{o:Ef}{l:Array Eo}{k:Nat}(g:h.get? d=Ga o)(f:o.data=.dict l k)(i:Heap.SameBut d h e):∀{j:List Value}{b:List D4}{c:List Gc},EV h j b c->GO b=Gf->EV e j b c
 |_,_,_,.nil,_=>.nil
 |_,_,_,.cons m n,a=>by simp only[GO,Tn]at a;exact .cons (wo g f i m a.1) (Jj g f i n a.2)
end
mutual
theorem uh{h:Heap}:∀(a b:KD){v:Value}{k l:List Gc},Lz h v a.toD k->Lz h v b.toD l->a=b
 |.int i,.int j,_,_,_,r,q=>by simp only[KD.toD]at r q;cases r;cases q;rfl
 |.int i,.str y,_,_,_,r,q=>by simp only[KD.toD]at r q;cases r;cases q
 |.int i,.tup d,_,_,_,r,q=>by simp only[KD.toD]at r q;cases r;cases q
 |.str x,.int j,_,_,_,r,q=>by simp only[KD.toD]at r q;cases r;cases q
 |.str x,.str y,_,_,_,r,q=>by simp only[KD.toD]at r q;cases r;cases q;rfl
 |.str x,.tup d,_,_,_,r,q=>by simp only[KD.toD]at r q;cases r;cases q
 |.tup c,.int j,_,_,_,r,q=>by simp only[KD.toD]at r q;cases q;cases r
 |.tup c,.str y,_,_,_,r,q=>by simp only[KD.toD]at r q;cases q;cases r
 |.tup c,.tup d,_,_,_,r,q=>by simp only[KD.toD]at r q;obtain⟨a,o,D,n,rfl,m,z,p,s⟩:=Iz r;obtain⟨w,C,u,B,e,f,A,g,t⟩:=Iz q;cases e;rw[m]at f;cases f;rw[p]at g;cases g;rw[O6 c d s t]
theorem O6{h:Heap}:∀(c d:List KD){b:List Value}{e f:List Gc},EV h b (U2 c) e->EV h b (U2 d) f->c=d
 |[],[],_,_,_,_,_=>rfl
 |[],y::q,_,_,_,r,t=>by simp only[U2]at r t;cases r;cases t
 |x::a,[],_,_,_,r,t=>by simp only[U2]at r t;cases t;cases r
 |x::a,y::q,_,_,_,r,t=>by
  simp only[U2]at r t;cases r with
  |cons g i=>
   cases t with
   |cons j k=>rw[uh x y g j,O6 a q i k]
end
section
variable{prog:Gg}{w:Gu}
mutual
theorem rW:∀(k:KD){A:TQ}{E:Value->Gk->Prop}{s:Gk}{v:Value}{j:List Gc}{Q:Int->Gk->Prop},A.units+k.depth<DA->Lz s.heap v k.toD j->Q (k.hash w) {s with toks:=s.toks+k.draws}->
  wpAny (Tc prog w) A (pyHash v) Q E s
 |.int i,A,E,s,v,j,Q,_,r,h=>by simp only[KD.toD]at r;cases r;simp only[KD.hash,KD.draws]at h;exact Fa h
 |.str x,A,E,s,v,j,Q,_,r,h=>by simp only[KD.toD]at r;cases r;simp only[KD.hash,KD.draws]at h;exact Fc h
 |.tup xs,A,E,s,v,j,Q,K,r,h=>by
  simp only[KD.toD]at r;simp only[KD.depth]at K;simp only[KD.hash,KD.draws]at h;obtain⟨a,o,y,n,rfl,C,H,I,J⟩:=Iz r;have q:s.TypeIs (.ref a) "tuple":=⟨o,C,H⟩;have m:=λ(k:KD)(B:k∈xs)=>@sg xs k B;unfold pyHash;first|unfold pyHashByItsType|skip
  first|refine Gb (wpAny_cRoomFor_or (.inr (by lia)) ?_)|skip
  refine Gb (DQ q F.slot_tuple_hash.lookup ?_);show wpAny _ _ (if(Ga (Value.builtin "tuple.__hash__")==Ga Value.none)=Gf then _ else _) Q E s;rw[Gi (by rw[beq_builtin_none];exact GJ)];refine Gb (DQ q F.slot_tuple_hash.lookup ?_);show wpAny _ _ (callSpecialIfBoundUnlessNone? (.ref a) "__hash__" _>>=_) Q E s;refine Gb (wpAny_callSpecialIfBoundUnlessNone?_slot q F.slot_tuple_hash (Tz F.slot_tuple_hash q F.entry_tuple_hash ?_ (F.args_tuple_hash_1 _)));show wpAny _ _ (Builtin.Tuple.tupleItemsOf (.ref a)>>=_) _ _ s;refine Gb (wpAny_tupleItemsOf C I ?_);refine Gb ?_;rw[<-ED];refine Fl _
   (λXx(b:Array Int)z=>∃done left f,xs=done++left/\EV s.heap Xx (U2 left) f/\b.toList=Up w done/\z={s with toks:=s.toks+X9 done})
   _ ?_ ?_ _ _ {[],xs,j,Xb,J,Xb,Xb}
  .rintro x Xx b z ⟨done,left,f,rfl,g,t,rfl⟩;cases left with
   |nil=>simp only[U2]at g;cases g
   |cons k e=>
    simp only[U2]at g;cases g with
    |cons G u=>
     have B:=p8 (xs:=done++k::e) (x:=k) (by simp);refine Gb (m k (by simp) (A:=A.in1) (s:={s with toks:=s.toks+X9 done}) (by show A.units+1+k.depth<DA;lia) G ?_);have D:s.toks+X9 done+k.draws=s.toks+X9 (done++[k]):=by rw[Ih];simp only[X9];lia
     have p:∃c d l,done++k::e=c++d/\EV s.heap Xx (U2 d) l/\(b.push (k.hash w)).toList=Up w c/\({s with toks:=s.toks+X9 done+k.draws}:Gk)={s with toks:=s.toks+X9 c}:=
      {done++[k],e,_,by simp,u,by simp[t,xQ],by rw[D]}
     first
      |exact Ge p
      |exact Gb (Ge (Ge p))
  .rintro b z ⟨done,left,f,rfl,g,t,rfl⟩;cases left with
   |cons k e=>simp only[U2]at g;cases g
   |nil=>
    rw[List.append_nil]at h;show wpAny _ _ (retInt (Builtin.Tuple.tupleHashOf b.toList)) _ _ _;rw[t];refine Fu ?_;show wpAny _ _ (if(decide (-(2:Int)^63<=Builtin.Tuple.tupleHashOf (Up w done))&&decide (Builtin.Tuple.tupleHashOf (Up w done)<2^63))=Gf then _ else _) Q E _;unfold reduceHash at h;by_cases c:(decide (-(2:Int)^63<=Builtin.Tuple.tupleHashOf (Up w done))&&decide (Builtin.Tuple.tupleHashOf (Up w done)<2^63))=Gf
    .rw[Gp c];rw[Gp c]at h;exact Ge (by simpa[My]using h)
    .rw[Gi c];rw[Gi c]at h;exact Gb (EN (Ge (by simpa[My]using h)))
theorem sg:∀(f:List KD)(k:KD),k∈f->∀{A:TQ}{E:Value->Gk->Prop}{s:Gk}{v:Value}{d:List Gc}{Q:Int->Gk->Prop},A.units+k.depth<DA->Lz s.heap v k.toD d->Q (k.hash w) {s with toks:=s.toks+k.draws}->
  wpAny (Tc prog w) A (pyHash v) Q E s
 |[],_,h=>by simp at h
 |x::r,k,h=>by
  intro a b c;by_cases e:k=x
  .rw[e]at a b c;exact rW x a b c
  .exact sg r k ((List.mem_cons.mp h).resolve_left e) a b c
end
mutual
theorem yQ:∀(k:KD)(n:Nat){A:TQ}{E:Value->Gk->Prop}{s:Gk}{v:Value}{d:List Gc}{Q:Bool->Gk->Prop},k.depth<=n->Lz s.heap v k.toD d->Q Gf s->wpAny (Tc prog w) A (eqIsQuiet n v) Q E s
 |.int i,n,A,E,s,v,d,Q,_,r,h=>by simp only[KD.toD]at r;cases r;rw[L3 n rfl];exact Ge h
 |.str x,n,A,E,s,v,d,Q,_,r,h=>by simp only[KD.toD]at r;cases r;rw[L3 n rfl];exact Ge h
 |.tup g,0,A,E,s,v,d,Q,p,r,h=>by simp[KD.depth]at p
 |.tup g,n+1,A,E,s,v,d,Q,p,r,h=>by
  simp only[KD.toD]at r;simp only[KD.depth]at p;obtain⟨a,o,c,m,rfl,C,G,H,I⟩:=Iz r;have y:s.TypeIs (.ref a) "tuple":=⟨o,C,G⟩;have f:=λ(k:KD)(B:k∈g)(n:Nat)=>@zA g k B n;unfold eqIsQuiet;refine Gb (DQ y F.slot_tuple_eq.lookup ?_);show wpAny _ _ (isInstance (.ref a) (.type "tuple")>>=_) _ _ s;refine Gb (Ew y isSubtype_tuple_tuple ?_);simp only[Mz,TH,Do];refine Gb (Dc C H ?_);refine Gb ?_;show wpAny _ _ (forIn c _ _) _ _ s;rw[<-ED];refine Fl _ (λXx r u=>r.1=Gh/\u=s/\∃left e,(∀k∈left,k∈g)/\EV s.heap Xx (U2 left) e) _ ?_ ?_ _ _ {Xb,Xb,g,d,λ_ z=>z,I}
  .rintro v Xx r u ⟨q,rfl,left,e,b,j⟩;cases left with
   |nil=>simp only[U2]at j;cases j
   |cons k t=>
    simp only[U2]at j;cases j with
    |cons D l=>have B:=p8 (b k (by simp));refine Gb (f k (b k (by simp)) n (by lia) D ?_);simp only[Mz,TH,Do];exact Ge {Xb,Xb,t,_,λz J=>b z (List.mem_cons_of_mem _ J),l}
  .rintro⟨b,j⟩ u ⟨q,rfl,_⟩;simp only at q;subst q;exact Ge h
theorem zA:∀(f:List KD)(k:KD),k∈f->∀(n:Nat){A:TQ}{E:Value->Gk->Prop}{s:Gk}{v:Value}{d:List Gc}{Q:Bool->Gk->Prop},k.depth<=n->Lz s.heap v k.toD d->Q Gf s->wpAny (Tc prog w) A (eqIsQuiet n v) Q E s
 |[],_,h=>by simp at h
 |x::r,k,h=>by
  intro n _ _ _ _ _ _ a b c;by_cases e:k=x
  .rw[e]at a b;exact yQ x n a b c
  .exact zA r k ((List.mem_cons.mp h).resolve_left e) n a b c
end
def Vp(prog:Gg)(w:Gu):Nr prog w KD where
 is:=λh k a=>(∃c,Lz h (.ref a) k.toD c)/\k.toD.canLay0=Gf/\k.depth<=8
 hash:=KD.hash w
 draws:=KD.draws
 room:=λA=>A.units+10<DA
 inj:=λ⟨⟨_,h1⟩,_⟩⟨⟨_,h2⟩,_⟩=>uh _ _ h1 h2
 keeps:=λ⟨⟨c,h1⟩,h2,d⟩f e g=>{{c,wo f e g h1 h2},h2,d}
 pyHash:=λ{A E s k a Q}i⟨⟨c,h1⟩,_,d⟩h=>rW k (by ext) h1 h
 eqBool:=λ{A E s x y a b Q}i⟨⟨c,h1⟩,h2,d⟩⟨⟨m,j⟩,l,n⟩h=>M3 x.toD y.toD A s _ _ _ _ h1 j h2 l (by rw[Oq,Oq];ext) prog w E Q (by rw[KC];exact h)
 quiet:=λ{A E s k a Q}⟨⟨c,h1⟩,_,d⟩h=>yQ k 8 d h1 h
end
end L2
namespace PySem
def Heap.J1(h:Heap)(d:Gc)(es:Array Eo)(ep:Nat):Prop:=∃o,h.get? d=Ga o/\o.ExactDict/\o.data=.dict es ep
section
variable{prog:Gg}{w:Gu}{A:TQ}{E:Value->Gk->Prop}{s:Gk}{d:Gc}{es:Array Eo}{ep:Nat}
theorem Heap.J1.typeIs(x:s.heap.J1 d es ep):s.TypeIs (.ref d) "dict":=let⟨o,ho,hc,_⟩:=x;{o,ho,hc.1}
theorem Heap.J1.at{h a:Heap}(x:h.J1 d es ep)(e:∀o,h.get? d=Ga o->a.get? d=Ga o):a.J1 d es ep:=let⟨o,ho,r⟩:=x;{o,e _ ho,r}
theorem Heap.J1.lt{h:Heap}(x:h.J1 d es ep):d<h.objs.size:=let⟨_,ho,_⟩:=x;Heap.lt_size ho
theorem KG{Q:Value->Gk->Prop}(e:(d==T8)=Gs)(b:s.heap.J1 d es ep)(c:(es.size:Int)<2^63)
  (h:Q (.int es.size (s.toks+1)) {s with toks:=s.toks+1+1}):wpAny (Tc prog w) A (call (.builtin "len") [.ref d]) Q E s:=by
 obtain⟨o,f,c,a⟩:=id b;refine Sk kind_len plain_len entry_len (args_len1 _) ?_;unfold Builtin.«len»;refine Gb (m:=oneArg "len" _) (Ge ?_);refine Gb (m:=callSpecial? (.ref d) (Dw "__len__")) (TL (name:=Dw "__len__") b.typeIs F.slot_dict_len
  (Tz F.slot_dict_len b.typeIs F.entry_dict_len ?_ (F.args_dict_len_1 _)))
 show wpAny _ _ (dictSize d>>=_) _ _ s;unfold dictSize;refine Gb (Gb (Dx f a (Ge ?_)));show wpAny _ _ (Builtin.Dict.pendingCount d>>=_) _ _ s;refine Gb (wpAny_pendingCount_other e ?_);refine Fu ?_;rw[L4];show wpAny _ _ _ _ _ {s with toks:=s.toks+1};refine Gb (T1 (Ge ?_));refine Gb (Ss ?_);show wpAny _ _ (if((es.size:Nat):Int)<0 then _ else _) _ _ _;rw[Gi (by lia)];show wpAny _ _ (if((es.size:Nat):Int)>=2^63 then _ else _) _ _ _;rw[Gi (by lia)];exact Gb (wpAny_mkInt (Ge {_,Xb,h}))
theorem JB{Q:Value->Gk->Prop}(g:(d==T8)=Gs)(c:s.heap.J1 d es ep)
  (f:Q (.ref s.heap.objs.size) {s with heap:=s.heap.push {cls:=.type "dict_keyiterator",data:=.fields #[.ref d,.int 0 0,.int es.size 0,.int ep 0]}}):
  wpAny (Tc prog w) A (pyIter (.ref d)) Q E s:=by
 obtain⟨o,e,h,a⟩:=id c;have b:=c.typeIs;refine Su b F.slot_dict_iter (Tz F.slot_dict_iter b F.entry_dict_iter ?_ (F.args_dict_iter_1 _));unfold Builtin.«dict.__iter__»;refine Gb ?_;unfold Builtin.Dict.dictSlotNone;refine Gb (EK b ?_);show wpAny _ _ (pure (Value.ref d)) _ _ s;refine Ge ?_;show wpAny _ _ (Builtin.Dict.showsAll d>>=_) _ _ s;unfold Builtin.Dict.showsAll;rw[Gi (by rw[g];exact GJ)];refine Gb (Ge ?_);refine Gb (Dx e a ?_);refine Gb (Ej e a ?_);refine Gb (TB (Ge {_,Xb,"dict_keyiterator",_,{_,Heap.get?_push_size _ Xb,Xb},F.slot_dict_keyiterator_next.lookup,?_}));simpa[rawInt]using f
theorem AR{f:Gc}{i:Nat}{e:Eo}{Q:Option Value->Gk->Prop}(a:s.heap.IsKeyIter f d i es.size ep)(u:s.heap.J1 d es ep)(m:es[i]?=Ga e)
  (p:∀h,h.IsKeyIter f d (i+1) es.size ep->Heap.SameBut f s.heap h->Q (Ga e.key) {s with heap:=h}):
  wpAny (Tc prog w) A (pyNext (.ref f)) Q E s:=by
 obtain⟨o,n,q,l⟩:=id a;obtain⟨v,j,r,g⟩:=id u;unfold pyNext;refine Gb (ES (TL (name:=Dw "__next__") a.typeIs F.slot_dict_keyiterator_next
  (Tz F.slot_dict_keyiterator_next a.typeIs F.entry_dict_keyiterator_next ?_ (F.args_dict_keyiterator_next_1 _))))
 refine Gb (Ge ?_);refine Gb ?_;refine Gb ?_;first|refine Gb (DK a.typeIs (Ge ?_))|refine Gb (D9 a.typeIs (Ge ?_))
 refine Gb (Sh n l ?_);have k:Builtin.Dict_items.ownsTuple "dict_keyiterator"=Gs:=by decide
 simp only[k,TH,Do];show wpAny _ _ (if(Value.ref d==Value.none)=Gf then _ else _) _ _ s;rw[Gi (show¬((Value.ref d==Value.none)=Gf)from GJ)];refine Gb (Ge ?_);refine Gb (Dx j g ?_);rw[Gi (by simp)];refine Gb (Ge ?_);refine Gb (Ej j g ?_);rw[Gi (by simp)];refine Ge ?_;have c:i<es.size:=by
  rcases Tp i es.size with h|h
  .exact h
  .rw[Dh h]at m;cases m
 have t:es[i]=e:=by rw[Tk c]at m;exact Ti m
 simp only[show¬((i:Int)<0)from by ext,Do,Dk,Tk c];refine Gb ?_;first|refine Gb (DK a.typeIs (Ge ?_))|refine Gb (D9 a.typeIs (Ge ?_))
 refine Gb (S8 a.typeIs ?_);show wpAny _ _ (setField (.ref f) 1 (rawInt ((i:Int)+1))>>=_) _ _ s;refine Gb (Eu n l (by simp) ?_);have b:(s.heap.update f (ET (·.setIfInBounds 1 (rawInt ((i:Int)+1))))).IsKeyIter f d (i+1) es.size ep:=
  {_,Heap.get?_update_self _ n (EL (DW l _)),(Sw ..).trans q,by rw[DW l];simp[rawInt]}
 refine Gb (T1 ?_);refine Gb (S8 (s:={s with heap:=s.heap.update f (ET (·.setIfInBounds 1 (rawInt ((i:Int)+1))))}) b.typeIs ?_);show wpAny _ _ (pure es[i].key) _ _ _;rw[t];exact Ge (Ge {_,Xb,Ge (p _ b (Heap.SameBut.update ..))})
theorem Kf{f:Gc}{i:Nat}{Q:Option Value->Gk->Prop}(n:A.handled=Gh)(a:s.heap.IsKeyIter f d i es.size ep)(p:s.heap.J1 d es ep)(g:es.size<=i)
  (l:∀h,Heap.ExtBut f s.heap h->Q Gh {s with heap:=h}):wpAny (Tc prog w) A (pyNext (.ref f)) Q E s:=by
 obtain⟨o,k,h,j⟩:=id a;obtain⟨q,c,m,b⟩:=id p;unfold pyNext;refine Gb (ES (TL (name:=Dw "__next__") a.typeIs F.slot_dict_keyiterator_next
  (Tz F.slot_dict_keyiterator_next a.typeIs F.entry_dict_keyiterator_next ?_ (F.args_dict_keyiterator_next_1 _))))
 refine Gb (Ge ?_);refine Gb ?_;refine Gb ?_;first|refine Gb (DK a.typeIs (Ge ?_))|refine Gb (D9 a.typeIs (Ge ?_))
 refine Gb (Sh k j ?_);have e:Builtin.Dict_items.ownsTuple "dict_keyiterator"=Gs:=by decide
 simp only[e,TH,Do];show wpAny _ _ (if(Value.ref d==Value.none)=Gf then _ else _) _ _ s;rw[Gi (show¬((Value.ref d==Value.none)=Gf)from GJ)];refine Gb (Ge ?_);refine Gb (Dx c b ?_);rw[Gi (by simp)];refine Gb (Ge ?_);refine Gb (Ej c b ?_);rw[Gi (by simp)];refine Ge ?_;simp only[show¬((i:Int)<0)from by ext,Do,Dk,Dh g];refine Gb ?_;first|refine Gb (DK a.typeIs (Ge ?_))|refine Gb (D9 a.typeIs (Ge ?_))
 show wpAny _ _ (setField (.ref f) 0 .none>>=_) _ _ s;refine Gb (Eu k j (by simp) ?_);show wpAny _ _ (newExc (.type "StopIteration") []>>=_) _ _ _;refine Gb ?_;simp only[newExc,newTuple];refine Gb (TB ?_ (by size_fits));refine Gb (m:=firstArgMember _ _) (Fp (a:=Value.none) (by first|rfl|(simp only[firstArgMember];rfl)) ?_);refine TB ?_ (by size_fits);simp only[raiseNew];refine Gb (LA ?_);rw[show A.in1.handled=Gh from n];refine Gb (Ge (Fq ?_));refine Gb (Ew (T:="StopIteration") (b:=Gf) {_,Heap.get?_push_size _ Xb,Xb} Lj ?_);exact Ge (l _ (((Heap.SameBut.update ..).extBut.push _).push _))
theorem Walks.Pe(t:A.handled=Gh)(I d:Gc)(n:d≠I)(c:Array Eo)(p:Nat):
  Walks prog w A I [I,d] [I] c.size (λi v=>∃e,c[i]?=Ga e/\v=e.key) (λi h=>h.IsKeyIter I d i c.size p/\h.J1 d c p) where
 sub:=λb f=>by simp at f;simp[f]
 frame:=λ_ _ _ a q=>{a.1.at λo e=>q I (by simp) o e,a.2.at λo e=>q d (by simp) o e}
 item:=λi s Q E u a g=>by have r:c[i]?=Ga c[i]:=Tk u;refine AR a.1 a.2 r λl j k=>?_;exact g _ l s.toks {_,r,Xb} {j,a.2.at λo e=>(k.2 d n).trans e} λb o f e=>k.extBut b o (λh=>f (by simp[h])) e
 done:=λs Q E a g=>Kf t a.1 a.2 (Gm _) λl m=>g l s.toks λb o f e=>m b o (λh=>f (by simp[h])) e
 self:=λ_ _ _ _ a g=>Ll a.1 g
theorem Ac(g:(d==T8)=Gs):FG prog w "dict" d d es.size (λi v=>∃e,es[i]?=Ga e/\v=e.key) (λh=>h.J1 d es ep) where
 type:=λ_ a=>a.typeIs
 there:=λ_ a=>{a.lt,a.lt}
 keep:=λ_ _ a f=>a.at λo e=>f d (.inl Xb) o e
 notList:=by decide
 notTuple:=by decide
 hint:=λ_ _ _ _ a b=>M9 a.typeIs b
 iter:=λ_ _ c a=>{_,_,(λ_ _ b=>JB g a b),Walks.Pe c _ d (Tf a.lt) es ep,{{_,Heap.get?_push_size _ Xb,Xb,Xb},a.at λo e=>Heap.get?_push_of_some _ e}}
end
end PySem
namespace L2
open PySem PySem.Spec PyProof.Rows
variable{k:KD}
abbrev KE:=KD×Gc×V
variable{zw:List KE}
def Yh(zw:List KE)(k:KD):Option V:=(zw.find? λp=>decide (p.1=k)).map (·.2.2)
def Ww(zw:List KE)(k:KD)(b:Gc)(v:V):List KE:=if(Yh zw k).isSome=Gf then zw.map (λp=>if p.1=k then(p.1,p.2.1,v)else p)else zw++[(k,b,v)]
abbrev KX:List KE->List (KD×Gc×Value)->Prop:=Paired λp q=>p.1=q.1/\p.2.1=q.2.1/\zu p.2.2 q.2.2
def oC(P:Gg)(w:Gu)(a:Gc)(zw:List KE)(h:Heap):Prop:=
 zw.length<=Gj/\(a==T8)=Gs/\∃xs,KX zw xs/\∃o es ep,h.get? a=Ga o/\o.ExactDict/\o.data=.dict es ep/\es.toList=xs.map (entryOfKey (Vp P w))/\(xs.map (·.1)).Nodup
def V5(P:Gg)(w:Gu)(a:Gc)(zw:List KE):HO:=.ext (oC P w a zw)
def V9(H:Hp)(zw:List KE):Prop:=∀p∈zw,Dt H (.ref p.2.1) p.1.toD/\p.1.toD.canLay0=Gf/\p.1.depth<=8
def Og(H:Hp)(b:Gc)(k:KD):Prop:=Dt H (.ref b) k.toD/\k.toD.canLay0=Gf/\k.depth<=8
theorem p6{P:Gg}{w:Gu}{H:Hp}{h:Heap}{a:Gc}(x:oC P w a zw h):Ym P w H h a (V5 P w a zw):=by
 exists x,?_
 .obtain⟨_,_,_,_,o,_,_,e,_⟩:=x;exact⟨o,e⟩
 .rintro i j ⟨f,g,d,r,o,c,b,e,q⟩ k;exact{f,g,d,r,o,c,b,k o e,q}
theorem KX.val{i:List (KD×Gc×Value)}(r:KX zw i)(k:KD):Ib (Yh zw k) ((atKey i k).map (·.2)):=by
 induction r with
 |nil=>exact T9
 |@cons p q d f h t l=>
  obtain⟨g,_,j⟩:=h;by_cases e:p.1=k
  .have a:q.1=k:=g.symm.trans e;have b:atKey (q::f) k=Ga q.2:=by simp[atKey,List.find?_cons,a]
   have c:Yh (p::d) k=Ga p.2.2:=by simp[Yh,List.find?_cons,e]
   rw[c,b];exact j
  .have a:¬q.1=k:=λz=>e (g.trans z);have b:atKey (q::f) k=atKey f k:=by simp[atKey,List.find?_cons,a]
   have c:Yh (p::d) k=Yh d k:=by simp[Yh,List.find?_cons,e]
   rw[c,b];exact l
theorem KX.put{c:List (KD×Gc×Value)}(r:KX zw c)(k:KD)(b:Gc){v:V}{u:Value}(f:zu v u):KX (Ww zw k b v) (storedH c k b u):=by
 have e:(Yh zw k).isSome=(atKey c k).isSome:=by rw[(r.val k).Wn,DZ]
 unfold Ww storedH;rw[e];by_cases q:(atKey c k).isSome=Gf
 .rw[Gp q,Gp q];clear q e;induction r with
  |nil=>exact .nil
  |@cons p q j l h t i=>
   rw[List.map_cons,List.map_cons];refine .cons ?_ i;obtain⟨a,d,g⟩:=h;unfold putAt;by_cases e:p.1=k
   .rw[Gp e,Gp (a.symm.trans e)];exact⟨a,d,f⟩
   .rw[Gi e,Gi (λz=>e (a.trans z))];exact⟨a,d,g⟩
 .rw[Gi q,Gi q];exact DU r ⟨Xb,Xb,f⟩
theorem O7(a:List KE)(k:KD)(b:Gc)(v:V):(Ww a k b v).length<=a.length+1:=by
 unfold Ww;split
 .rw[List.length_map];ext
 .rw[List.length_append,List.length_singleton];ext
theorem rQ(b:Gc)(v:V)(h:Yh zw k=Gh):Ww zw k b v=zw++[(k,b,v)]:=by unfold Ww;rw[h];exact Gi (by decide)
theorem xu{u:V}(b:Gc)(v:V)(h:Yh zw k=Ga u):Ww zw k b v=zw.map (λp=>if p.1=k then(p.1,p.2.1,v)else p):=by unfold Ww;rw[h];exact Gp rfl
theorem Yr{p:KE}{r:List KE}(e:p.1=k):Yh (p::r) k=Ga p.2.2:=by simp[Yh,List.find?_cons,e]
theorem Ys{p:KE}{r:List KE}(e:¬p.1=k):Yh (p::r) k=Yh r k:=by simp[Yh,List.find?_cons,e]
theorem pO(k j:KD)(b:Gc)(y:V):∀a:List KE,Yh a k=Gh->Yh (a++[(k,b,y)]) j=if j=k then Ga y else Yh a j
 |[],_=>by
  by_cases e:k=j
  .rw[Gp e.symm];exact Yr (p:=(k,b,y)) e
  .rw[Gi (λz=>e z.symm)];exact Ys (p:=(k,b,y)) e
 |p::r,c=>by
  rw[List.cons_append];have d:¬p.1=k:=λz=>by rw[Yr z]at c;cases c
  rw[Ys d]at c;have f:=pO k j b y r c;by_cases e:p.1=j
  .rw[Yr e,Yr e,Gi (λz=>d (e.trans z))]
  .rw[Ys e,Ys e,f]
theorem uE(k j:KD)(y:V):∀a:List KE,Yh (a.map λp=>if p.1=k then(p.1,p.2.1,y)else p) j=(Yh a j).map λx=>if j=k then y else x
 |[]=>rfl
 |p::r=>by
  have b:=uE k j y r;rw[List.map_cons];by_cases h:p.1=k
  .rw[Gp h];by_cases e:p.1=j
   .rw[Yr (p:=(p.1,p.2.1,y)) e,Yr e,TV,Gp (e.symm.trans h)]
   .rw[Ys (p:=(p.1,p.2.1,y)) e,Ys e,b]
  .rw[Gi h];by_cases e:p.1=j
   .rw[Yr (p:=p) e,Yr e,TV,Gi (λz=>h (e.trans z))]
   .rw[Ys (p:=p) e,Ys e,b]
theorem U3(a:List KE)(k j:KD)(b:Gc)(y:V):Yh (Ww a k b y) j=if j=k then Ga y else Yh a j:=by
 cases q:Yh a k with
 |none=>rw[rQ b y q,pO k j b y a q]
 |some u=>
  rw[xu b y q,uE];by_cases e:j=k
  .rw[Gp e,e,q,TV,Gp rfl]
  .rw[Gi e];cases Yh a j with
   |none=>rfl
   |some x=>rw[TV,Gi e]
theorem OJ(a:List KE)(k:KD)(b:Gc)(v:V):∀p∈Ww a k b v,(p.1=k/\p.2.1=b)\/∃u,(p.1,p.2.1,u)∈a:=λp c=>by
 unfold Ww at c;split at c
 .obtain⟨q,d,e⟩:=List.mem_map.mp c;right;split at e
  .subst e;exact{q.2.2,d}
  .subst e;exact{q.2.2,d}
 .rcases List.mem_append.mp c with h|h
  .exact .inr {p.2.2,h}
  .rw[List.mem_singleton]at h;subst h;exact .inl ⟨Xb,Xb⟩
theorem V9.put{H:Hp}{b:Gc}{v:V}(h:V9 H zw)(d:Og H b k):V9 H (Ww zw k b v):=λp e=>by
 rcases OJ zw k b v p e with⟨a,c⟩|⟨u,f⟩
 .rw[a,c];exact d
 .exact h (p.1,p.2.1,u) f
section
variable{X:Cx}{zq:List (Gc×Ef)}{σ:St}{H:Hp}{s:Gk}{a b:Gc}{zw:List KE}{k:KD}
theorem Og.is(I:zv X zq σ H s)(h:Og H b k):(Vp X.prog X.w).is s.heap k b:=by obtain⟨c,d,e⟩:=h;obtain⟨a,r⟩:=c.reads I.Z3 (u:=.ref b) rfl;exact{⟨a,r⟩,d,e}
theorem jt(I:zv X zq σ H s)(e:H a=Ga (V5 X.prog X.w a zw)):oC X.prog X.w a zw s.heap:=(I.Z3 a _ e).1
theorem jy(I:zv X zq σ H s)(e:H a=Ga (V5 X.prog X.w a zw))(v:V9 H zw):zw.length<=Gj/\(a==T8)=Gs/\∃c,KX zw c/\s.heap.DictOfH (Vp X.prog X.w) a c:=by
 obtain⟨z,y,c,r,o,g,f,i,j,k,n,u⟩:=jt I e;refine{z,y,c,r,o,g,f,i,j,k,n,λx b=>?_,u};have all:∀{l:List KE}{m:List (KD×Gc×Value)},KX l m->(∀p∈l,p∈zw)->∀x∈m,(Vp X.prog X.w).is s.heap x.1 x.2.1:=by
  intro l m q;induction q with
  |nil=>intro _ x b;exact nomatch b
  |@cons p q A B d t w=>
   intro sub x b;rcases List.mem_cons.mp b with e|b
   .subst e;rw[<-d.1,<-d.2.1];exact Og.is I (v p (sub p (by simp)))
   .exact w (λp h=>sub p (List.mem_cons_of_mem _ h)) x b
 exact all r (λ_ h=>h) x b
end
def nU(P:Gg)(w:Gu):TE:=λ_ H Q=>∀p,H p=Gh->Q (.ref p) (zj H p (V5 P w p []))
structure DH(P:Gg)(w:Gu)(H:Hp)(d:Gc)(zw:List KE):Prop where
 at_:H d=Ga (V5 P w d zw)
 keys:V9 H zw
section
variable{X:Cx}
theorem Ii{a:SV}:PE X (.Dict [] [] a) (nU X.prog X.w):=λb s c H Q I h=>
 SG ⟨.ref s.heap.objs.size,_,I.laid (a:=s.heap.objs.size) (o:=V5 X.prog X.w s.heap.objs.size []) (t':=s.toks) (λ_ _ q=>Heap.get?_push_of_some _ q) (Gm _)
  (p6 {Gz _,Dy.mpr (Gn (Tf I.big)),[],.nil,_,#[],0,Heap.get?_push_size _ Xb,⟨Xb,Xb,Xb⟩,Xb,Xb,List.nodup_nil}),Xb,h _ (I.Z3.fresh (Gm _))⟩
inductive xT(P:Gg)(w:Gu)(f:Bool->Bool)(x:V)(y:V)(H:Hp)(Q:VK):Prop
 |mk (b:_) (d:_) (k:_) (zw:_) (h0:x=.ref b) (h1:y=.ref d) (h2:DH P w H d zw) (h3:Og H b k) (h4:Q (.bl (f (Yh zw k).isSome)) H):xT P w f x y H Q
def qq(P:Gg)(w:Gu)(f:Bool->Bool):R2:=λx y H Q=>xT P w f x y H Q
theorem P7(a:X.A.units+64<DA):Oc X (T6 .In) (qq X.prog X.w λb=>b):=by intro c s o H x y v u Q I l m h;obtain⟨b,d,k,j,rfl,rfl,D,i,q⟩:=h;cases(show v=Value.ref b from l);cases(show u=Value.ref d from m);obtain⟨z,g,n,a,f⟩:=jy I D.at_ D.keys;refine Mw (knd:=Vp X.prog X.w) (show X.A.units+1+10<DA by ext) (i.is I) g f ?_;have e:=(a.val k).Wn;rw[DZ]at e;rw[<-e];exact{.bl _,H,I.tok _,Xb,q}
theorem uD(a:X.A.units+64<DA):Oc X (T6 .NotIn) (qq X.prog X.w λb=>!b):=by intro c s o H x y v u Q I l m h;obtain⟨b,d,k,j,rfl,rfl,D,i,q⟩:=h;cases(show v=Value.ref b from l);cases(show u=Value.ref d from m);obtain⟨z,g,n,a,f⟩:=jy I D.at_ D.keys;refine Fj (knd:=Vp X.prog X.w) (show X.A.units+1+10<DA by ext) (i.is I) g f ?_;have e:=(a.val k).Wn;rw[DZ]at e;rw[<-e];exact{.bl _,H,I.tok _,Xb,q}
inductive qW(P:Gg)(w:Gu)(x:V)(y:V)(H:Hp)(Q:VK):Prop
 |mk (d:_) (b:_) (k:_) (zw:_) (v:_) (h0:x=.ref d) (h1:y=.ref b) (h2:DH P w H d zw) (h3:Og H b k) (h4:Yh zw k=Ga v) (h5:Q v H):qW P w x y H Q
def j8(P:Gg)(w:Gu):R2:=λx y H Q=>qW P w x y H Q
theorem iq(a:X.A.units+64<DA):jX X (j8 X.prog X.w):=by
 intro g f j s C H x y v u Q I t w h m;obtain⟨d,b,k,o,r,rfl,rfl,D,l,n,q⟩:=h;cases(show v=Value.ref d from t);cases(show u=Value.ref b from w);obtain⟨z,B,A,c,i⟩:=jy I D.at_ D.keys;have a:=c.val k;rw[n]at a;cases e:atKey A k with
 |none=>rw[e]at a;exact(show False from a).elim
 |some p=>rw[e]at a;refine EH (x:=p.2) i.typeIs Sj.lookup ?_ m;exact LJ (knd:=Vp X.prog X.w) (show X.A.units+1+10<DA by ext) (l.is I) i e {Xb,r,H,I.tok _,a,q}
inductive xf(P:Gg)(w:Gu)(o:V)(i:V)(v:V)(H:Hp)(Q:Hp->Prop):Prop
 |mk (d:_) (b:_) (k:_) (zw:_) (h0:o=.ref d) (h1:i=.ref b) (h2:DH P w H d zw) (h3:Og H b k) (h4:zw.length<Gj) (h5:Q (zj H d (V5 P w d (Ww zw k b v)))):xf P w o i v H Q
def lC(P:Gg)(w:Gu):l8:=λo i v H Q=>xf P w o i v H Q
theorem jA(a:X.A.units+64<DA):xb X (lC X.prog X.w):=by
 intro g s L H o i v ov B u Q I E C F h;obtain⟨d,b,k,a,rfl,rfl,D,x,J,q⟩:=h;cases(show ov=Value.ref d from E);cases(show B=Value.ref b from C);obtain⟨z,w,K,c,j⟩:=jy I D.at_ D.keys;have y:(Ww a k b v).length<=Gj:=by have:=O7 a k b v;ext
 refine LK (knd:=Vp X.prog X.w) (hsz:=by rw[<-Gq c];exact z) (show X.A.units+1+10<DA by ext) (x.is I) j λG e A=>?_;obtain⟨ob,m,l,f,n,p,r,_,t⟩:=e;refine{_,I9 (ob:=V5 X.prog X.w d (Ww a k b v)) I (by rw[D.at_];exact T9) A ⟨ob,f⟩ (p6 {y,w,_,c.put k b F,ob,m,l,f,n,p,r,t}),q}
theorem Ax:Um X (.builtin "len") (λxs H Q=>∃d a,xs=[.ref d]/\DH X.prog X.w H d a/\Q (.int a.length) H):=by
 intro c s w H xs t Q I r h;obtain⟨d,a,rfl,D,q⟩:=h;obtain⟨u,rfl,m⟩:=vals1 r;cases(show u=Value.ref d from m);obtain⟨z,l,v,b,o,f,n,g,i,j,k,_⟩:=jt I D.at_;have p:=Ob;have e:f.size=a.length:=by rw[Gq b,<-List.length_map (f:=entryOfKey (Vp X.prog X.w)),<-k,TD]
 refine KG l ⟨o,g,i,j⟩ (by lia) ?_;rw[e];exact{.int a.length,H,I.tok _,{_,Xb},q}
theorem z0(J:X.calm=Gf):Um X (.type "list") (λxs H Q=>∃d b,xs=[.ref d]/\DH X.prog X.w H d b/\∀l,H l=Gh->Q (.ref l) (zj H l (.lst (b.map λp=>.ref p.2.1)))):=by
 intro l s P H xs T Q I r h;obtain⟨d,b,rfl,D,q⟩:=h;obtain⟨u,rfl,N⟩:=vals1 r;cases(show u=Value.ref d from N);obtain⟨z,K,O,m,o,es,ep,C,E,F,n,j⟩:=jt I D.at_;have e:es.size=b.length:=by rw[Gq m,<-List.length_map (f:=entryOfKey (Vp X.prog X.w)),<-n,TD]
 refine Fn (Ac (es:=es) (ep:=ep) K) (I.ok.hd J) ⟨o,C,E,F⟩ (by rw[e];exact z) λw y a B M G c=>?_;have g:(b.map λp=>V.ref p.2.1).length<=Gj:=by rw[List.length_map];exact z
 have v:Z2 (b.map λp=>V.ref p.2.1) a.toList:=by
  have k:es.toList.map (·.key)=O.map λq=>Value.ref q.2.1:=by rw[n,List.map_map];rfl
  have f:a.toList=es.toList.map (·.key):=by
   refine List.ext_getElem? λi=>?_;by_cases x:i<a.size
   .obtain⟨R,L,v⟩:=c.2 i a[i] (Tk x);rw[T4,Tk x,List.getElem?_map,T4,L,v];rfl
   .have L:=c.1;rw[List.getElem?_eq_none (by simp;lia),List.getElem?_eq_none (by simp;lia)]
  rw[f,k];clear q z n k f g e c D j;induction m with
  |nil=>exact .nil
  |@cons p q R S x t L=>rw[List.map_cons,List.map_cons];refine .cons ?_ L;show Value.ref q.2.1=Value.ref p.2.1;rw[x.2.1]
 have A:zv X l P (zj H s.heap.objs.size (.lst (b.map λp=>.ref p.2.1))) {s with heap:=w,toks:=y}:=
  I.laid (t':=y) M (Gm _) (show Ym X.prog X.w _ w _ (.lst _)from{g,a.toList,B,v,by rw[D0];exact G})
 exact{.ref s.heap.objs.size,_,A,Xb,q _ (I.Z3.fresh (Gm _))}
end
end L2
namespace Sb
open PySem
variable{S:List Th}{L:Th->Int}{x y t:Th}{b d:Gc}{H H':Hp}{P:Gg}{w:Gu}
abbrev Tl:=List (Bool×Th×Th)
variable{tl:Tl}
mutual
inductive Cg(tl:Tl):Th->Th->Prop
 |refl (t:Th):Cg tl t t
 |symm {s t:Th}:Cg tl s t->Cg tl t s
 |trans {r s t:Th}:Cg tl r s->Cg tl s t->Cg tl r t
 |told {s t:Th}:(Gf,s,t)∈tl->Cg tl s t
 |cong {w:Tb} {ps qs:List Th}:gC tl ps qs->Cg tl (.mk w ps) (.mk w qs)
inductive gC(tl:Tl):List Th->List Th->Prop
 |nil:gC tl [] []
 |cons {p q:Th} {ps qs:List Th}:Cg tl p q->gC tl ps qs->gC tl (p::ps) (q::qs)
end
theorem gC.of{e:Tl}:∀{c d:List Th},c.length=d.length->(∀(i:Nat)p q,c[i]?=Ga p->d[i]?=Ga q->Cg e p q)->gC e c d
 |[],[],_,_=>.nil
 |[],_::_,h,_=>by simp at h
 |_::_,[],h,_=>by simp at h
 |p::c,q::d,h,f=>.cons (f 0 p q rfl rfl) (gC.of (by simpa using h) λi a b g j=>f (i+1) a b (by simpa using g) (by simpa using j))
mutual
theorem Cg.mono{f e:Tl}(h:∀a b,(Gf,a,b)∈f->(Gf,a,b)∈e):∀{s t:Th},Cg f s t->Cg e s t
 |_,_,.refl t=>.refl t
 |_,_,.symm c=>.symm (Cg.mono h c)
 |_,_,.trans c d=>.trans (Cg.mono h c) (Cg.mono h d)
 |_,_,.told m=>.told (h _ _ m)
 |_,_,.cong c=>.cong (gC.mono h c)
theorem gC.mono{f e:Tl}(h:∀a b,(Gf,a,b)∈f->(Gf,a,b)∈e):∀{s t:List Th},gC f s t->gC e s t
 |_,_,.nil=>.nil
 |_,_,.cons c d=>.cons (Cg.mono h c) (gC.mono h d)
end
inductive Dv where
 |cls (i:Int)
 |node (w:Tb) (ds:List Dv)
open Classical in
noncomputable def act(S:List Th)(L:Th->Int)(w:Tb)(ds:List Dv):Dv:=
 if h:∃a,Th.mk w a∈S/\a.map (λq=>Dv.cls (L q))=ds then .cls (L (.mk w (EO h)))else .node w ds
mutual
noncomputable def ev(S:List Th)(L:Th->Int):Th->Dv
 |.mk w ps=>act S L w (evL S L ps)
noncomputable def evL(S:List Th)(L:Th->Int):List Th->List Dv
 |[]=>[]
 |p::r=>ev S L p::evL S L r
end
structure Rr(tl:Tl)(S:List Th)(L:Th->Int):Prop where
 closed:∀w ps,Th.mk w ps∈S->∀p∈ps,p∈S
 told:∀a b,(Gf,a,b)∈tl->a∈S/\b∈S/\L a=L b
 cong:∀w ps qs,Th.mk w ps∈S->Th.mk w qs∈S->ps.map L=qs.map L->L (.mk w ps)=L (.mk w qs)
theorem yH{L:Th->Int}:∀{a b:List Th},a.map (λq=>Dv.cls (L q))=b.map (λq=>Dv.cls (L q))->a.map L=b.map L
 |[],[],_=>rfl
 |[],_::_,h=>by simp at h
 |_::_,[],h=>by simp at h
 |p::a,q::b,h=>by simp only[List.map_cons,List.cons.injEq,Dv.cls.injEq]at h⊢;exact{h.1,yH h.2}
mutual
theorem j6{g:Tl}{S:List Th}{L:Th->Int}(T:Rr g S L):∀t:Th,t∈S->ev S L t=.cls (L t)
 |.mk w a,h=>by
  have e:evL S L a=a.map (λq=>Dv.cls (L q)):=zl T a (T.closed w a h);have b:∃d,Th.mk w d∈S/\d.map (λq=>Dv.cls (L q))=a.map (λq=>Dv.cls (L q)):=⟨a,h,Xb⟩;have f:ev S L (.mk w a)=act S L w (evL S L a):=by simp only[ev]
  rw[f,e];unfold act;rw[dif_pos b];have c:=S9 b;rw[T.cong w _ a c.1 h (yH c.2)]
theorem zl{c:Tl}{S:List Th}{L:Th->Int}(T:Rr c S L):∀a:List Th,(∀p∈a,p∈S)->evL S L a=a.map (λq=>Dv.cls (L q))
 |[],_=>by simp[evL]
 |p::r,h=>by simp only[evL,List.map_cons];rw[j6 T p (h p List.mem_cons_self),zl T r λq b=>h q (List.mem_cons_of_mem _ b)]
end
mutual
theorem kg{a:Tl}{S:List Th}{L:Th->Int}(T:Rr a S L):∀{s t:Th},Cg a s t->ev S L s=ev S L t
 |_,_,.refl _=>rfl
 |_,_,.symm c=>(kg T c).symm
 |_,_,.trans c d=>(kg T c).trans (kg T d)
 |_,_,.told m=>by obtain⟨b,e,f⟩:=T.told _ _ m;rw[j6 T _ b,j6 T _ e,f]
 |_,_,.cong c=>by simp only[ev,qG T c]
theorem qG{a:Tl}{S:List Th}{L:Th->Int}(T:Rr a S L):∀{s t:List Th},gC a s t->evL S L s=evL S L t
 |_,_,.nil=>rfl
 |_,_,.cons c d=>by simp only[evL,kg T c,qG T d]
end
theorem Rr.complete(T:Rr tl S L)(a:x∈S)(b:y∈S)(c:Cg tl x y):L x=L y:=by have e:=kg T c;rw[j6 T x a,j6 T y b]at e;injection e
structure Tells(tl:Tl)(S:List Th)(L:Th->Int):Prop where
 tab:Rr tl S L
 sound:∀x∈S,∀y∈S,L x=L y->Cg tl x y
theorem Tells.iff(T:Tells tl S L)(a:x∈S)(b:y∈S):L x=L y↔Cg tl x y:={T.sound x a y b,T.tab.complete a b}
def mrg(L:Th->Int)(o n:Int):Th->Int:=λt=>if L t=o then n else L t
theorem uT{o n:Int}(h:L x=L y):mrg L o n x=mrg L o n y:=by unfold mrg;rw[h]
theorem Kj{a b:Th}(i:a∈S)(j:b∈S)(s:∀x∈S,∀y∈S,L x=L y->Cg tl x y)(c:Cg tl a b):∀x∈S,∀y∈S,mrg L (L a) (L b) x=mrg L (L a) (L b) y->Cg tl x y:=by
 intro x g y h e;unfold mrg at e;by_cases f:L x=L a
 .by_cases d:L y=L a
  .exact s x g y h (f.trans d.symm)
  .rw[Gp f,Gi d]at e;exact .trans (s x g a i f) (.trans c (s b j y h e))
 .by_cases d:L y=L a
  .rw[Gi f,Gp d]at e;exact .trans (s x g b j e) (.trans (.symm c) (.symm (s y h a i d)))
  .rw[Gi f,Gi d]at e;exact s x g y h e
open PySem PySem.Spec PyProof.Rows L2
mutual
def kd:Th->KD
 |.mk w ps=>.tup (.str w::kds ps)
def kds:List Th->List KD
 |[]=>[]
 |p::r=>kd p::kds r
end
mutual
theorem Oa:∀t:Th,(kd t).toD=t.toD
 |.mk w a=>by simp only[kd,KD.toD,U2,Th.toD,zg a]
theorem zg:∀a:List Th,U2 (kds a)=Wa a
 |[]=>by simp[kds,U2,Wa]
 |t::r=>by simp only[kds,U2,Wa,Oa t,zg r]
end
theorem OG(t:Th):(kd t).depth=t.depth:=by rw[<-Oq,Oa,Xl]
theorem Oh{s:Th}(h:kd s=kd t):s=t:=by
 have e:s.toD=t.toD:=by rw[<-Oa,<-Oa,h]
 exact(Jq s t).mp (by rw[e];exact(Jq t t).mpr Xb)
mutual
theorem wg{H:Hp}:∀(t:Th){v:V},Dt H v t.toD->Zv H v t
 |.mk w c,v,h=>by
  simp only[Th.toD]at h;cases h with
  |tup e r=>
   cases r with
   |cons a b=>cases a;exact .mk e (rM c b)
theorem rM{H:Hp}:∀(b:List Th){a:List V},gz H a (Wa b)->Zr H a b
 |[],a,h=>by simp only[Wa]at h;cases h;exact .nil
 |t::r,a,h=>by
  simp only[Wa]at h;cases h with
  |cons c d=>exact .cons (wg t c) (rM r d)
end
theorem R8(h:Zv H (.ref b) t)(ok:t.ok=Gf)(a:t.depth<=8):Og H b (kd t):={by rw[Oa];exact h.dt,by rw[Oa];exact Wi t ok,by rw[OG];exact a}
mutual
theorem ux{H a:Hp}(e:Q4 H a):∀(k:KD){v:V},Dt H v k.toD->Dt a v k.toD
 |.int i,v,h=>by simp only[KD.toD]at h⊢;cases h;exact .int i
 |.str x,v,h=>by simp only[KD.toD]at h⊢;cases h;exact .str x
 |.tup d,v,h=>by
  simp only[KD.toD]at h⊢;cases h with
  |tup b c=>exact .tup (e _ _ b) (uZ e d c)
theorem uZ{H b:Hp}(e:Q4 H b):∀(c:List KD){a:List V},gz H a (U2 c)->gz b a (U2 c)
 |[],a,h=>by simp only[U2]at h⊢;cases h;exact .nil
 |k::r,a,h=>by
  simp only[U2]at h⊢;cases h with
  |cons d f=>exact .cons (ux e k d) (uZ e r f)
end
theorem Zi(e:Q4 H H'){a:List KE}(h:V9 H a):V9 H' a:=λp b=>{ux e p.1 (h p b).1,(h p b).2}
structure Num(P:Gg)(w:Gu)(H:Hp)(d:Gc)(S:List Th)(L:Th->Int):Prop where
 ex:∃zw:List KE,H d=Ga (V5 P w d zw)/\V9 H zw/\zw.map (·.1)=S.map kd/\∀t∈S,Yh zw (kd t)=Ga (.int (L t))
 ok:∀t∈S,t.ok=Gf/\t.depth<=8
theorem Num.at(N:Num P w H d S L):∃o,H d=Ga (.ext o):=by obtain⟨a,h,_⟩:=N.ex;exact{_,h}
theorem Num.keep(N:Num P w H d S L)(h:∀o,H d=Ga o->H' d=Ga o)(e:Q4 H H'):Num P w H' d S L:=by obtain⟨a,b,c,f,g⟩:=N.ex;exact{{a,h _ b,Zi e c,f,g},N.ok}
theorem Num.same(N:Num P w H d S L)(e:Q6 H H'):Num P w H' d S L:=N.keep (λo h=>e d o h) (Q4.of e)
theorem Num.get{Q:VK}(N:Num P w H d S L)(a:t∈S)(h:Zv H (.ref b) t)(q:Q (.int (L t)) H):j8 P w (.ref d) (.ref b) H Q:=by obtain⟨c,e,f,i,g⟩:=N.ex;exact{d,b,kd t,c,_,Xb,Xb,⟨e,f⟩,R8 h (N.ok t a).1 (N.ok t a).2,g t a,q}
theorem Num.put{P:Gg}{w:Gu}{H:Hp}{d b:Gc}{S:List Th}{L:Th->Int}{t:Th}{i:Int}{Q:Hp->Prop}(N:Num P w H d S L)(f:S.length<=1000000)(g:t∈S)(h:Zv H (.ref b) t)
  (q:∀f,(∀c o,H c=Ga o->c≠d->f c=Ga o)->Num P w f d S (λu=>if u=t then i else L u)->Q f):lC P w (.ref d) (.ref b) (.int i) H Q:=by
 obtain⟨a,j,k,l,m⟩:=N.ex;have v:a.length=S.length:=by have:=congrArg List.length l;simpa using this
 have n:=R8 h (N.ok t g).1 (N.ok t g).2;refine{d,b,kd t,a,Xb,Xb,⟨j,k⟩,n,by rw[GV];ext,q _ (λc o e f=>by rw[Qg f];exact e) ?_};have s:Q4 H (zj H d (V5 P w d (Ww a (kd t) b (.int i)))):=Z0 λx e=>by rw[j]at e;cases e
 refine{{_,Qb,Zi s (k.put n),?_,λu r=>?_},N.ok}
 .rw[xu b _ (m t g),List.map_map];rw[<-l];refine List.map_congr_left λp _=>?_;show(if p.1=kd t then(p.1,p.2.1,V.int i)else p).1=p.1;split<;>rfl
 .rw[U3];by_cases e:u=t
  .subst e;rw[Gp Xb,Gp rfl]
  .rw[Gi (λz=>e (Oh z)),Gi e];exact m u r
theorem Num.add{i:Int}{Q:Hp->Prop}(N:Num P w H d S L)(j:S.length<=1000000)(C:¬t∈S)(ok:t.ok=Gf)(l:t.depth<=8)(h:Zv H (.ref b) t)
  (q:∀j,(∀c o,H c=Ga o->c≠d->j c=Ga o)->Num P w j d (S++[t]) (λu=>if u=t then i else L u)->Q j):lC P w (.ref d) (.ref b) (.int i) H Q:=by
 obtain⟨f,m,n,k,y⟩:=N.ex;have E:f.length=S.length:=by have:=congrArg List.length k;simpa using this
 have s:=R8 h ok l;have g:Yh f (kd t)=Gh:=by
  cases e:Yh f (kd t)with
  |none=>rfl
  |some v=>exfalso;unfold Yh at e;obtain⟨p,r,_⟩:=EI.mp e;have A:=List.find?_some r;have B:p.1=kd t:=TC A;have j:kd t∈f.map (·.1):=List.mem_map.mpr {p,List.mem_of_find?_eq_some r,B};rw[k]at j;obtain⟨u,a,x⟩:=List.mem_map.mp j;exact C (Oh x▸a)
 refine{d,b,kd t,f,Xb,Xb,⟨m,n⟩,s,by rw[GV];ext,q _ (λc o e j=>by rw[Qg j];exact e) ?_};have D:Q4 H (zj H d (V5 P w d (Ww f (kd t) b (.int i)))):=Z0 λF e=>by rw[m]at e;cases e
 refine{{_,Qb,Zi D (n.put s),?_,λu a=>?_},λu a=>?_}
 .rw[rQ b _ g,List.map_append,k,List.map_append];rfl
 .rw[U3];by_cases e:u=t
  .subst e;rw[Gp Xb,Gp rfl]
  .rw[Gi (λz=>e (Oh z)),Gi e];rcases List.mem_append.mp a with a|a
   .exact y u a
   .rw[List.mem_singleton]at a;exact absurd a e
 .rcases List.mem_append.mp a with a|a
  .exact N.ok u a
  .rw[List.mem_singleton]at a;subst a;exact⟨ok,l⟩
theorem Num.Aj{Q:VK}(N:Num P w H d S L)(ok:t.ok=Gf)(i:t.depth<=8)(h:Zv H (.ref b) t)(q:Q (.bl (!decide (t∈S))) H):qq P w (λb=>!b) (.ref b) (.ref d) H Q:=by
 obtain⟨a,k,l,m,n⟩:=N.ex;exists b,d,kd t,a,Xb,Xb,⟨k,l⟩,R8 h ok i;have e:(Yh a (kd t)).isSome=decide (t∈S):=by
  by_cases c:t∈S
  .rw[Gw c,n t c];rfl
  .rw[Gr c];cases e:Yh a (kd t)with
   |none=>rfl
   |some v=>exfalso;unfold Yh at e;obtain⟨p,g,_⟩:=EI.mp e;have o:=List.find?_some g;have r:p.1=kd t:=TC o;have f:kd t∈a.map (·.1):=List.mem_map.mpr {p,List.mem_of_find?_eq_some g,r};rw[m]at f;obtain⟨u,s,j⟩:=List.mem_map.mp f;exact c (Oh j▸s)
 rw[e];exact q
theorem Num.names(N:Num P w H d S L):∃a,DH P w H d a/\a.length=S.length/\Zr H (a.map λp=>V.ref p.2.1) S:=by
 obtain⟨a,f,b,c,j⟩:=N.ex;have i:a.length=S.length:=by have:=congrArg List.length c;simpa using this
 exists a,⟨f,b⟩,i;have all:∀(l:List KE)(S:List Th),(∀p∈l,p∈a)->l.map (·.1)=S.map kd->Zr H (l.map λp=>V.ref p.2.1) S:=by
  intro l;induction l with
  |nil=>intro S _ e;cases S with
   |nil=>exact .nil
   |cons t r=>simp at e
  |cons p l h=>intro S sub e;cases S with
   |nil=>simp at e
   |cons t r=>simp only[List.map_cons,List.cons.injEq]at e;refine .cons (wg t ?_) (h r (λq g=>sub q (List.mem_cons_of_mem _ g)) e.2);have:=(b p (sub p List.mem_cons_self)).1;rw[e.1,Oa]at this;exact this
 exact all a S (λ_ h=>h) c
def tw(b:Bool):Tb:=if b then"same"else"unlike"
def Rl(H:Hp):List V->Tl->Prop:=Paired λx p=>∃a v u,x=.ref a/\H a=Ga (.tup [.str (tw p.1),v,u])/\Zv H v p.2.1/\Zv H u p.2.2
theorem Rl.Qs{H b:Hp}(e:Q4 H b){d:List V}{c:Tl}(h:Rl H d c):Rl b d c:=L2.Paired.Z8 h λx p⟨a,v,u,f,g,i,j⟩=>{a,v,u,f,e _ _ g,i.Qs e,j.Qs e}
def gV(H:Hp):List V->List (Th×Th)->Prop:=Paired λx p=>∃a v u,x=.ref a/\H a=Ga (.tup [v,u])/\Zv H v p.1/\Zv H u p.2
theorem gV.Qs{H b:Hp}(e:Q4 H b){c:List V}{l:List (Th×Th)}(h:gV H c l):gV b c l:=L2.Paired.Z8 h λx p⟨a,v,u,d,f,g,i⟩=>{a,v,u,d,e _ _ f,g.Qs e,i.Qs e}
theorem Qw{a d:Type}{F:a->d->Prop}:∀{b:List a}{c:List d}{i:Nat}{x:a},Paired F b c->b[i]?=Ga x->∃y,c[i]?=Ga y/\F x y
 |_,_,_,_,.nil,e=>by simp at e
 |_,_,0,_,.cons h _,e=>by simp at e;subst e;exact{_,Xb,h}
 |_,_,i+1,_,.cons _ t,e=>by obtain⟨y,f,g⟩:=Qw (i:=i) t (by simpa using e);exact{y,by simpa using f,g}
theorem Yl{e f:Type}{F:e->f->Prop}:∀{a b:List e}{c d:List f},Paired F a c->Paired F b d->Paired F (a++b) (c++d)
 |_,_,_,_,.nil,t=>t
 |_,_,_,_,.cons h r,t=>.cons h (Yl r t)
def Rn(tl:Tl):List (Th×Th):=(tl.filter (·.1)).map (·.2)
theorem yu{a b:Th}:(a,b)∈Rn tl↔(Gf,a,b)∈tl:=by
 unfold Rn;rw[List.mem_map];constructor
 .rintro⟨⟨c,x⟩,h,e⟩;rw[List.mem_filter]at h;obtain⟨d,f⟩:=h;have:c=Gf:=f;subst this;cases e;exact d
 .intro h;exact{(Gf,a,b),List.mem_filter.mpr ⟨h,Xb⟩,Xb}
inductive wy(P:Gg)(w:Gu)(vs:List V)(H:Hp)(Q:VK):Prop
 |mk (a:Gc) (b:Gc) (us:List V) (vs':List V) (tl:Tl) (ts:List Th) (h0:vs=[.ref a,.ref b]) (h1:H a=Ga (.lst us)) (h2:Rl H us tl) (h3:H b=Ga (.lst vs')) (h4:Zr H vs' ts) (h5:(∀t∈ts,t.ok=Gf/\t.depth<=8)) (h6:(∀p∈tl,(p.2.1.ok=Gf/\p.2.1.depth<=8)/\p.2.2.ok=Gf/\p.2.2.depth<=8)) (h7:Qx ts+Qx (tl.map (·.2.1))+Qx (tl.map (·.2.2))<=3000) (h8:∀(d:Gc)(S:List Th)(L:Th->Int)(H':Hp),Q6 H H'->H d=Gh->Num P w H' d S L->Tells tl S L->(∀t∈ts,t∈S)->(∀p∈tl,p.2.1∈S/\p.2.2∈S)->Q (.ref d) H'):wy P w vs H Q
def xN(P:Gg)(w:Gu):Sp:=λa H Q _=>wy P w a H Q
end Sb
namespace L2
open PySem PySem.Spec PyProof.Rows
variable{d:Gc}{H:Hp}
theorem Ip{K:Gd}{a p:Gc}{xs:List V}{g:TG}{A:TT}{z:TE}{Q:Hp->Prop}{n:St}{t:Hp}(f:xs.length<=Gj)(h:Nat->List V->St->Hp->Prop)(B:h 0 [] n (zj t p (.lst [])))
  (E:∀i c d H,i<=xs.length->h i c d H->Za K H a xs)
  (F:∀i x c d H,xs[i]?=Ga x->h i c d H->H p=Ga (.lst c)->g x d H λj H2=>A j H2 λb o=>if b=Gf then z j o λv u=>u p=Ga (.lst c)/\h (i+1) (c++[v]) j (zj u p (.lst (c++[v])))else o p=Ga (.lst c)/\h (i+1) c j o)
  (C:∀c d H,h xs.length c d H->H p=Ga (.lst c)->Q H):i0 p (hF K a) g A z Q n (zj t p (.lst [])):=by
 exists λi m d H=>m=xs.length - i/\i<=xs.length/\∃c,c.length<=i/\h i c d H/\H p=Ga (.lst c),{xs.length,by simp,Gz _,[],Gm _,B,Qb};rintro i m d H ⟨rfl,D,c,G,pv,w⟩;have q:=E i c d H D pv;by_cases l:i<xs.length
 .refine .inr ⟨{xs,xs[i],q,by simp[l]},λv f k=>k p=Ga (.lst c)/\h (i+1) (c++[v]) f (zj k p (.lst (c++[v]))),λf k=>k p=Ga (.lst c)/\h (i+1) c f k,
   λv f k⟨r,s⟩=>{c,r,by lia,xs.length - (i+1),by lia,Xb,l,c++[v],by simp[G],s,Qb},λf k⟨r,s⟩=>{xs.length - (i+1),by lia,Xb,l,c,by lia,s,r},λx k y=>?_⟩
  obtain⟨e,y⟩:=y;subst e;exact F i x c d _ (y xs q) pv w
 .have e:i=xs.length:=by lia
  subst e;exact .inl {{xs,q,Gm _},C c d H pv w}
def Tr(t:TS)(c a:St->Hp->Prop):Prop:=∀D σ H,c σ H->(∀b H',a b H'->D.nx b H')->t D σ H
def Rf(d:Gc)(H H':Hp):Prop:=∀c o,H c=Ga o->c≠d->H' c=Ga o
theorem Rf.refl:Rf d H H:=λ_ _ e _=>e
theorem Rf.trans{f g:Hp}(a:Rf d H f)(b:Rf d f g):Rf d H g:=λc o e h=>b c o (a c o e h) h
theorem Rf.of{a:Hp}(e:Q6 H a):Rf d H a:=λc o h _=>e c o h
end L2
namespace Sb
open PySem PySem.Spec PyProof.Rows L2
variable{H:Hp}{tl:Tl}
theorem _root_.L2.Rf.Qs{d:Gc}{f:Hp}{o:HO}(b:Rf d H f)(h:H d=Ga o)(g:∀a,o≠.tup a):Q4 H f:=λc a e=>b c _ e λz=>by subst z;rw[h]at e;exact g a (Ti e)
theorem wa{a:Type}{p q:a->Bool}:∀{l:List a},(∀x∈l,p x=Gf->q x=Gf)->l.countP p<=l.countP q
 |[],_=>by simp
 |x::l,h=>by
  have d:=wa (l:=l) λy c=>h y (List.mem_cons_of_mem _ c);have b:=h x List.mem_cons_self;rw[List.countP_cons,List.countP_cons];cases e1:p x with
  |true=>rw[b e1];simp;exact d
  |false=>simp;lia
theorem vx{e:Type}{p q:e->Bool}:∀{l:List e},(∀x∈l,p x=Gf->q x=Gf)->(∃x∈l,q x=Gf/\p x=Gs)->l.countP p<l.countP q
 |[],_,⟨x,a,_⟩=>nomatch a
 |x::l,h,⟨y,a,b,c⟩=>by
  have d:∀y∈l,p y=Gf->q y=Gf:=λy a=>h y (List.mem_cons_of_mem _ a);have i:=wa d;rw[List.countP_cons,List.countP_cons];rcases List.mem_cons.mp a with z|z
  .subst z;rw[b,c];simp;ext
  .have g:=vx d ⟨y,z,b,c⟩;have f:=h x List.mem_cons_self;cases e3:p x with
   |true=>rw[f e3];simp;exact g
   |false=>simp;ext
def dis(S:List Th)(L:Th->Int):Nat:=(S.flatMap λx=>S.map λy=>(x,y)).countP λp=>decide (L p.1≠L p.2)
theorem Hj{S:List Th}{L a:Th->Int}(h:∀x∈S,∀y∈S,L x=L y->a x=a y)(i:∃x∈S,∃y∈S,L x≠L y/\a x=a y):dis S a<dis S L:=by
 obtain⟨x,c,y,d,f,g⟩:=i;refine vx (λp b e=>?_) {(x,y),?_,Gw f,by simp[g]}
 .rw[List.mem_flatMap]at b;obtain⟨x,c,b⟩:=b;obtain⟨y,d,rfl⟩:=List.mem_map.mp b;exact Gw λz=>(TC e) (h x c y d z)
 .rw[List.mem_flatMap];exact{x,c,List.mem_map.mpr ⟨y,d,Xb⟩}
theorem Vb{H:Hp}:∀l:List Int,gz H (l.map V.int) (l.map De)
 |[]=>.nil
 |i::r=>.cons (.int i) (Vb r)
theorem Wr:∀l:List Int,GO (l.map De)=Gf
 |[]=>by simp[GO]
 |i::r=>by simp[GO,Td,Wr r]
theorem Js:∀l:List Int,Tu (l.map De)<=1
 |[]=>by simp[Tu]
 |i::r=>by have:=Js r;simp only[List.map_cons,Tu,T5];ext
theorem mh:∀l m:List Int,Ts (l.map De) (m.map De)=decide (l=m)
 |[],[]=>by simp[Ts]
 |[],_::_=>by simp[Ts]
 |_::_,[]=>by simp[Ts]
 |i::l,j::m=>by
  simp only[List.map_cons,Ts,Tg,mh l m];by_cases h:i=j
  .subst h;simp
  .simp[h]
theorem uI{P:Gg}{w:Gu}{K:Gd}{r p d:Gc}{k:List V}{g S:List Th}{L:Th->Int}{Q:Hp->Prop}(y:H r=Ga (.tup k))(f:Zr H k g)(c:∀t∈g,t∈S)(N:Num P w H d S L)(m:H p=Gh)(b:k.length<=3000)
  (q:∀b,Q6 H b->b p=Ga (.lst ((g.map L).map V.int))->Q b):i0 p (iz K r) (V2 0) lj (tOp (j8 P w) (Vz 1) (Vz 0)) Q [Gh,Ga (.ref d)] (zj H p (.lst [])):=by
 refine U7 (K:=K) (a:=r) (xs:=k) (small (by ext)) (λi h l j=>(∃u,l=[u,Ga (.ref d)])/\h=((g.take i).map L).map V.int/\j=zj H p (.lst h)) {{_,Xb},by simp,Xb} (λi h l j _⟨_,_,e⟩=>Q9.of (by rw[e];exact Qf m _ _ _ y)) ?_ ?_
 .rintro i x h l j v n ⟨⟨u,rfl⟩,rfl,rfl⟩ a;obtain⟨t,e,o⟩:=f.get v;obtain⟨b,_,_,_,rfl,_,_,_⟩:=o.inv;have s:=Qf m (.lst (((g.take i).map L).map V.int));refine{_,Xb,_,Xb,(N.same s).get (c t (List.mem_of_getElem? e)) (o.same s) {a,{_,Xb},?_,?_}}
  .rw[List.take_add_one,e];simp
  .rw[Wu]
 .rintro h l j n ⟨_,rfl,rfl⟩ a;rw[f.length,List.take_length]at a⊢;exact q _ (Qf m _) a
inductive Dd where
 |tell (b:Bool) (x y:Th)
 |ask (x y:Th)
 |back (i:Int)
variable{d:Dd}
def Dd.fits(ts:List Th):Dd->Prop
 |.tell _ x y=>x∈ts/\y∈ts
 |.ask x y=>x∈ts/\y∈ts
 |.back _=>True
def ir(H:Hp)(x:V):Dd->Prop
 |.tell b t u=>∃a c d,x=.ref a/\H a=Ga (.tup [.str (tw b),c,d])/\Zv H c t/\Zv H d u
 |.ask t u=>∃a c d,x=.ref a/\H a=Ga (.tup [.str "ask",c,d])/\Zv H c t/\Zv H d u
 |.back i=>∃a,x=.ref a/\H a=Ga (.tup [.str "back",.int i])
theorem ir.Qs{H j:Hp}(e:Q4 H j){x:V}:∀{d:Dd},ir H x d->ir j x d
 |.tell _ _ _,⟨a,h,i,b,c,f,g⟩=>{a,h,i,b,e _ _ c,f.Qs e,g.Qs e}
 |.ask _ _,⟨a,h,i,b,c,f,g⟩=>{a,h,i,b,e _ _ c,f.Qs e,g.Qs e}
 |.back _,⟨a,b,c⟩=>{a,b,e _ _ c}
def Rq(H:Hp):List V->List Dd->Prop:=Paired λx d=>ir H x d
theorem Rq.Qs{H a:Hp}(e:Q4 H a){c:List V}{b:List Dd}(h:Rq H c b):Rq a c b:=L2.Paired.Z8 h λ_ _ h=>h.Qs e
theorem Rq.same{a:Hp}(e:Q6 H a){c:List V}{b:List Dd}(h:Rq H c b):Rq a c b:=h.Qs (Q4.of e)
inductive rE(K:Gd)(vs:List V)(H:Hp)(Q:VK):Prop
 |mk (a:Gc) (b:Gc) (ns:List Int) (us:List V) (ts:List Th) (h0:vs=[.ref a,.ref b]) (h1:Za K H a (ns.map V.int)) (h2:ns.length<=63) (h3:H b=Ga (.lst us)) (h4:Zr H us ts) (h5:0<ts.length) (h6:ts.length<=1000) (h7:∀(r:Gc)(es:List V)(dl:List Dd)(H':Hp),Q6 H H'->H r=Gh->H' r=Ga (.lst es)->Rq H' es dl->dl.length=ns.length->(∀d∈dl,d.fits ts)->Q (.ref r) H'):rE K vs H Q
def yk(K:Gd):Sp:=λa H Q _=>rE K a H Q
inductive tj(vs:List V)(H:Hp)(Q:VK):Prop
 |mk (n:Int) (h0:vs=[.int n]) (h1:∀(m:Int)(H':Hp),Q6 H H'->Q (.int m) H'):tj vs H Q
def wt:Sp:=λa H Q _=>tj a H Q
inductive uw(K:Gd)(vs:List V)(H:Hp)(Q:VK):Prop
 |mk (a:Gc) (ns:List Int) (m:Int) (b:Int) (h0:vs=[.ref a,.int m,.int b]) (h1:Za K H a (ns.map V.int)) (h2:ns.length<=63) (h3:Q (.int m) H):uw K vs H Q
def sU(K:Gd):Sp:=λa H Q _=>uw K a H Q
inductive Wh(tl:Tl):Prop
 |mk (a:_) (b:_) (h0:(Gs,a,b)∈tl) (h1:Cg tl a b):Wh tl
inductive vb(vs:List V)(H:Hp)(Q:VK):Prop
 |mk (a:Gc) (e:Gc) (us:List V) (tl:Tl) (v1:V) (v2:V) (b:Bool) (x:Th) (y:Th) (h0:vs=[.ref a,.ref e]) (h1:H a=Ga (.lst us)) (h2:Rl H us tl) (h3:H e=Ga (.tup [.str (tw b),v1,v2])) (h4:Zv H v1 x) (h5:Zv H v2 y) (h6:(x.ok=Gf/\x.depth<=8)) (h7:(y.ok=Gf/\y.depth<=8)) (h8:(∀p∈tl,(p.2.1.ok=Gf/\p.2.1.depth<=8)/\p.2.2.ok=Gf/\p.2.2.depth<=8)) (h9:Qx (tl.map (·.2.1))+Qx (tl.map (·.2.2))+x.size+y.size<=3000) (h10:∀(r:Bool)(H':Hp),Q6 H H'->(r=Gf↔Wh (tl++[(b,x,y)]))->Q (.bl r) H'):vb vs H Q
def ur:Sp:=λa H Q _=>vb a H Q
open Classical in
noncomputable def kindOf(tl:Tl)(x y:Th):Tb:=if Cg tl x y then"equal"else if∃a b,(Gs,a,b)∈tl/\Cg (tl++[(Gf,x,y)]) a b then"unlike"else"open"
open Classical in
noncomputable def J9(tl:Tl):Dd->Tl×V
 |.ask x y=>(tl,.str (kindOf tl x y))
 |.back i=>if 0<=i/\i<=(tl.length:Int)then(tl.take i.toNat,.int ((tl.length:Int) - i))else(tl,.str "no moment")
 |.tell b x y=>if Wh (tl++[(b,x,y)])then(tl,.str "clash")else(tl++[(b,x,y)],.int ((tl.length:Int)+1))
noncomputable def after(tl:Tl):List Dd->Tl
 |[]=>tl
 |d::ds=>after (J9 tl d).1 ds
theorem uV(c:Tl):∀(b a:List Dd),after c (b++a)=after (after c b) a
 |[],a=>rfl
 |d::b,a=>uV (J9 c d).1 b a
theorem vv{a:List Dd}{k:Nat}(h:a[k]?=Ga d):after tl (a.take (k+1))=(J9 (after tl (a.take k)) d).1:=by rw[List.take_add_one,h,uV];rfl
def Th.good(t:Th):Prop:=t.ok=Gf/\t.depth<=8/\t.size<=100
def Dd.good:Dd->Prop
 |.tell _ x y=>x.good/\y.good
 |.ask x y=>x.good/\y.good
 |.back _=>True
def iu(tl:Tl):Prop:=∀p∈tl,p.2.1.good/\p.2.2.good
theorem KZ(h:iu tl)(g:d.good):iu (J9 tl d).1:=by
 cases d with
 |ask x y=>exact h
 |back i=>
  simp only[J9];split
  .exactλp a=>h p (List.mem_of_mem_take a)
  .exact h
 |tell b x y=>
  simp only[J9];split
  .exact h
  .intro p a;rcases List.mem_append.mp a with z|z
   .exact h p z
   .rw[List.mem_singleton]at z;subst z;exact g
theorem CF:(J9 tl d).1.length<=tl.length+1:=by
 cases d with
 |ask x y=>exact EE _
 |back i=>
  simp only[J9];split
  .rw[List.length_take];ext
  .exact EE _
 |tell b x y=>
  simp only[J9];split
  .exact EE _
  .rw[List.length_append,List.length_singleton];ext
theorem vy:∀{ds:List Dd}{tl:Tl},iu tl->(∀d∈ds,d.good)->iu (after tl ds)
 |[],_,h,_=>h
 |d::ds,tl,h,g=>by have:=vy (ds:=ds) (tl:=(J9 tl d).1) (KZ h (g d List.mem_cons_self)) λe a=>g e (List.mem_cons_of_mem _ a);simp only[after];exact this
theorem pj:∀{ds:List Dd}{tl:Tl},(after tl ds).length<=tl.length+ds.length
 |[],tl=>Gm _
 |d::ds,tl=>by have a:=pj (ds:=ds) (tl:=(J9 tl d).1);have b:=CF (tl:=tl) (d:=d);simp only[after,List.length_cons];lia
theorem zR(h:iu tl):Qx (tl.map (·.2.1))<=tl.length*100/\Qx (tl.map (·.2.2))<=tl.length*100:=by
 have c:=Iq (tl.map (·.2.1)) 100 λt b=>by obtain⟨p,a,rfl⟩:=List.mem_map.mp b;exact(h p a).1.2.2
 have d:=Iq (tl.map (·.2.2)) 100 λt b=>by obtain⟨p,a,rfl⟩:=List.mem_map.mp b;exact(h p a).2.2.2
 rw[List.length_map]at c d;exact⟨c,d⟩
theorem B4(b:Bool):TR (tw b)=Gf:=by cases b<;>decide+kernel
structure ke(U:List Th):Prop where
 cl:Ui U
 good:∀t∈U,t.good
 len:U.length<=60
theorem ke.CI{U:List Th}(h:ke U)(f:d.fits U):d.good:=by
 cases d with
 |tell b x y=>exact{h.good x f.1,h.good y f.2}
 |ask x y=>exact{h.good x f.1,h.good y f.2}
 |back i=>exact T9
theorem A9{b:List Th}(h:∀t∈b,∀p∈t.parts,p∈b):Ui b:=by
 have d:∀n:Nat,∀t∈b,t.depth<=n->∀s∈t.inside,s∈b:=by
  intro n;induction n with
  |zero=>intro t _ e;have:=oO t;lia
  |succ n g=>
   intro t c e s a;cases t with
   |mk u i=>
    simp only[Th.inside,List.mem_append,List.mem_singleton]at a;rcases a with a|rfl
    .rw[Xz,List.mem_flatMap]at a;obtain⟨p,f,a⟩:=a;have:=Wd f;simp only[Th.depth]at e;exact g p (h _ c p f) (by lia) s a
    .exact c
 exactλt c=>d _ t c (Gm _)
mutual
def Th.ren(a:Tb->Tb):Th->Th
 |.mk w ps=>.mk (a w) (jw a ps)
def jw(a:Tb->Tb):List Th->List Th
 |[]=>[]
 |p::r=>p.ren a::jw a r
end
def sy(a:Tb->Tb)(p:Bool×Th×Th):Bool×Th×Th:=(p.1,p.2.1.ren a,p.2.2.ren a)
mutual
theorem Cg.ren{b:Tl}(a:Tb->Tb):∀{s t:Th},Cg b s t->Cg (b.map (sy a)) (s.ren a) (t.ren a)
 |_,_,.refl t=>.refl _
 |_,_,.symm c=>.symm (Cg.ren a c)
 |_,_,.trans c d=>.trans (Cg.ren a c) (Cg.ren a d)
 |_,_,.told m=>.told (List.mem_map.mpr {_,m,Xb})
 |_,_,.cong c=>by simp only[Th.ren];exact .cong (gC.ren a c)
theorem gC.ren{b:Tl}(a:Tb->Tb):∀{s t:List Th},gC b s t->gC (b.map (sy a)) (jw a s) (jw a t)
 |_,_,.nil=>by simp only[jw];exact .nil
 |_,_,.cons c d=>by simp only[jw];exact .cons (Cg.ren a c) (gC.ren a d)
end
def Sub(tl a:Tl):Prop:=∀b x y,(b,x,y)∈tl->(b,x,y)∈a\/(b,y,x)∈a
mutual
theorem Cg.sub{b a:Tl}(h:Sub b a):∀{s t:Th},Cg b s t->Cg a s t
 |_,_,.refl t=>.refl t
 |_,_,.symm c=>.symm (Cg.sub h c)
 |_,_,.trans c d=>.trans (Cg.sub h c) (Cg.sub h d)
 |_,_,.told m=>by
  rcases h _ _ _ m with z|z
  .exact .told z
  .exact .symm (.told z)
 |_,_,.cong c=>.cong (gC.sub h c)
theorem gC.sub{b a:Tl}(h:Sub b a):∀{s t:List Th},gC b s t->gC a s t
 |_,_,.nil=>.nil
 |_,_,.cons c d=>.cons (Cg.sub h c) (gC.sub h d)
end
theorem AW{a:Tl}(h:Sub tl a)(b:Wh tl):Wh a:=by
 obtain⟨x,y,m,c⟩:=b;rcases h _ _ _ m with z|z
 .exact{x,y,z,c.sub h}
 .exact{y,x,z,.symm (c.sub h)}
theorem Cr(n:Nat):Sub (tl.take n) tl:=λ_ _ _ m=>.inl (List.mem_of_mem_take m)
theorem IB:¬Wh []:=λ⟨_,_,m,_⟩=>nomatch m
theorem BP(h:¬Wh tl):¬Wh (J9 tl d).1:=by
 cases d with
 |ask x y=>exact h
 |back i=>
  simp only[J9];split
  .exactλb=>h (AW (Cr _) b)
  .exact h
 |tell b x y=>
  simp only[J9];split
  .exact h
  .rename_i z;exact z
theorem O0:∀{ds:List Dd}{tl:Tl},¬Wh tl->¬Wh (after tl ds)
 |[],_,h=>h
 |d::ds,tl,h=>by have:=O0 (ds:=ds) (tl:=(J9 tl d).1) (BP h);simp only[after];exact this
end Sb
namespace L2
open PySem PySem.Spec PyProof.Rows
def la(K:Gd)(a:Gc)(n:Nat):It:=
 {λi H=>∃xs,Za K H a xs/\xs.length=n/\i<n,λi H x H'=>H'=H/\∀xs,Za K H a xs->xs[n - 1 - i]?=Ga x,λi _=>i=n}
theorem C2{P:Gg}{Z:Gu}{K:Gd}{tg:TZ}(a j:Gc)(n:Nat):ig P Z K tg (la K a n) [j] j (λi h=>i<=n/\h.IsRevIter j a ((n:Int) - 1 - (i:Int))) where
 mem:=by simp
 obj:=λi h e f g=>by
  have b:f=j:=by simpa using g
  subst b;obtain⟨_,l,b,c,d⟩:=e;exact{l,b,λE z=>by rw[d]at z;cases z}
 keep:=λi h q e k=>{e.1,e.2.at λl b=>k j (by simp) l b}
 item:=by
  intro X D hw C F i I s M v N m r e t;subst D hw C;obtain⟨L,G,hn,T⟩:=t;obtain⟨aa,J,p,hz⟩:=m.list G;have hl:=J.length;have H:L[n - 1 - i]?=Ga (L[n - 1 - i]'(by ext)):=List.getElem?_eq_getElem (by ext);obtain⟨u,U,W⟩:=J.get H;obtain⟨w,x,S,y,A,B⟩:=r j (by simp);have b:(n:Int) - 1 - (i:Int)=((n - 1 - i:Nat):Int):=by ext
  have o:=e.2;rw[b]at o;refine La o p.isList (x:=u) (by simpa using U) λq E Y=>?_;have O:zv X I M v {s with heap:=q}:=m.turned (t':=s.toks) (λf l g b=>(Y.2 f g).trans b) w x y A B;have Q:((n - 1 - i:Nat):Int) - 1=(n:Int) - 1 - ((i+1:Nat):Int):=by ext
  rw[Q]at E;obtain⟨l,R,c,d⟩:=id E;exact{u,Xb,jc (s:={s with heap:=q}) R c d (by decide) {_,v,O,W,{Xb,λys V=>by rw[m.qk V G];exact H},⟨T,E⟩,λf g=>(r f g).1}}
 done:=by intro X D hw C F i I s M v N m r e t;subst D hw C;have t:i=n:=t;obtain⟨w,x,S,y,A,B⟩:=r j (by simp);have o:=e.2;rw[show(n:Int) - 1 - (i:Int)= -1 by ext]at o;exact Lm (m.ok.hd F) o λq E=>{Xb,m.turned (t':=s.toks) (λf l g b=>E f l g b) w x y A B}
 self:=λ_ _ _ _ _ e h=>EW e.2 h
inductive tQ(K:Gd)(R:It->Hp->Prop)(vs:List V)(H1:Hp):Prop
 |mk (a:_) (xs:_) (h0:vs=[.ref a]) (h1:Za K H1 a xs) (h2:R (la K a xs.length) H1):tQ K R vs H1
def Ae(K:Gd)(ta:TA):TI:=λσ H R=>ta σ H λa H1=>tQ K R a H1
section
variable{X:Cx}{tg:TZ}
theorem tD{a:TZ}{n:TA}{p i:SV}(y:Gl X "reversed")(z:X.mg "reversed"=Gh)(w:PA X [a] n)(B:Tj [a] X.env=[(Gs,eval a X.env)]:=by rfl):PI X tg (.Call (.Name "reversed" p) [a] [] i) (Ae X.K n):=by
 intro d s r H R I h;refine Bb (Ur I y z MA (Dp (Yx (w i d s r H _ I h) λL f⟨M,l,j,E,D⟩=>?_) B Xb));obtain⟨b,k,e,A,q⟩:=D;subst e;obtain⟨u,rfl,F⟩:=vals1 E;cases(show u=Value.ref b from F);obtain⟨g,G,C,K⟩:=j.list A;have J:=G.length;refine LL C.isList ?_;have t:zv X d r l {f with heap:=f.heap.push (revObj b ((g.toArray.size:Int) - 1))}:=j.kept (t':=f.toks) λb o e=>Heap.get?_push_of_some _ e;have m:(f.heap.push (revObj b ((g.toArray.size:Int) - 1))).IsRevIter f.heap.objs.size b ((k.length:Int) - 1 - ((0:Nat):Int)):=by
  have v:(k.length:Int) - 1 - ((0:Nat):Int)=(g.toArray.size:Int) - 1:=by rw[List.size_toArray];lia
  rw[v];exact{_,Heap.get?_push_size _ Xb,Xb,Xb}
 refine EW m {f.heap.objs.size,[f.heap.objs.size],_,_,l,Xb,t,C2 b _ k.length,{Gz _,m},λc x=>?_,q};have e:c=f.heap.objs.size:=by simpa using x
 subst e;exact j.iK (Gm _) (j.Z3.fresh (Gm _))
end
theorem zt{K:Gd}{a:Gc}{xs:List V}{g:TG}{l:TS}{D:Ends}{b:St}{H:Hp}(c:Nat->St->Hp->Prop)(n:c 0 b H)(s:∀i b H,i<=xs.length->c i b H->Za K H a xs)
  (t:∀i x b H,xs.reverse[i]?=Ga x->c i b H->g x b H λk H2=>l {D with nx:=c (i+1),ct:=c (i+1),bk:=D.nx} k H2)(o:∀b H,c xs.length b H->D.nx b H):
  ∃W:Nat->Nat->St->Hp->Prop,(∃m,W 0 m b H)/\∀i m b H,W i m b H->
   ((la K a xs.length).stop i H/\D.nx b H)\/((la K a xs.length).go i H/\∃N:St->Hp->Prop,(∀j d,N j d->∃h,h<m/\W (i+1) h j d)/\∀x d,(la K a xs.length).yld i H x d->g x b d λk H2=>l {D with nx:=N,ct:=N,bk:=D.nx} k H2):=by
 exists λi m b H=>m=xs.length - i/\i<=xs.length/\c i b H,{xs.length,by simp,Gz _,n};rintro i m b H ⟨rfl,r,p⟩;have q:=s i b H r p;by_cases f:i<xs.length
 .refine .inr {⟨xs,q,Xb,f⟩,c (i+1),λj d h=>{xs.length - (i+1),by lia,Xb,f,h},λx d y=>?_};obtain⟨e,y⟩:=y;subst e;exact t i x b _ (by rw[List.getElem?_reverse f];exact y xs q) p
 .have e:i=xs.length:=by lia
  subst e;exact .inl {Xb,o b H p}
end L2
namespace Sb
open PySem PySem.Spec PyProof.Rows L2
variable{H:Hp}{d a f:Gc}{ts:List Th}{t:Th}
structure Mp(P:Gg)(w:Gu)(H:Hp)(d:Gc)(S:Th->Prop)(F:Th->Th):Prop where
 ex:∃zw:List KE,H d=Ga (V5 P w d zw)/\V9 H zw/\∀t,S t->∃b,Yh zw (kd t)=Ga (.ref b)/\Zv H (.ref b) (F t)
theorem Mp.at{P:Gg}{w:Gu}{S:Th->Prop}{F:Th->Th}(N:Mp P w H d S F):∃o,H d=Ga (.ext o):=by obtain⟨a,h,_⟩:=N.ex;exact{_,h}
def jv(j:Nat):V:=.int (j:Int)
theorem AO{i j:Nat}(h:jv i=jv j):i=j:=by unfold jv at h;injection h with h;lia
abbrev Fm:=Tb×List Nat
def fm(ts:List Th)(t:Th):Fm:=(t.word,t.parts.map λp=>ts.idxOf p)
def ik(i:Nat):KD:=.int (i:Int)
def Xg(f:Fm):KD:=.tup [.str f.1,.tup (f.2.map ik)]
theorem uM:∀{a b:List Nat},a.map ik=b.map ik->a=b
 |[],[],_=>rfl
 |[],_::_,h=>by simp at h
 |_::_,[],h=>by simp at h
 |x::a,y::b,h=>by
  simp only[List.map_cons,List.cons.injEq]at h;have e:(x:Int)=(y:Int):=by have:=h.1;unfold ik at this;injection this
  have t:=uM h.2;rw[t,show x=y by ext]
theorem U6{f g:Fm}(h:Xg f=Xg g):f=g:=by unfold Xg at h;simp only[KD.tup.injEq,List.cons.injEq,KD.str.injEq,FH]at h;exact LW h.1 (uM h.2)
theorem Iy(h:t∈ts):ts[ts.idxOf t]?=Ga t:=by have a:ts.idxOf t<ts.length:=List.idxOf_lt_length_of_mem h;rw[List.getElem?_eq_getElem a,List.getElem_idxOf a]
theorem R9{j:Nat}(nd:ts.Nodup)(h:ts[j]?=Ga t):ts.idxOf t=j:=by obtain⟨a,e⟩:=List.getElem?_eq_some_iff.mp h;subst e;exact nd.idxOf_getElem j a
theorem pZ{s:Th}(c:s∈ts)(d:t∈ts)(e:ts.idxOf s=ts.idxOf t):s=t:=by have a:=Iy c;have b:=Iy d;rw[e,b]at a;exact(Ti a).symm
theorem BY{a:List Th}(h:t∈ts):(ts++a).idxOf t=ts.idxOf t:=by rw[List.idxOf_append,Gp h]
theorem qN{c:List Th}:∀{a b:List Th},(∀x∈a,x∈c)->(∀x∈b,x∈c)->a.map (λp=>c.idxOf p)=b.map (λp=>c.idxOf p)->a=b
 |[],[],_,_,_=>rfl
 |[],_::_,_,_,h=>by simp at h
 |_::_,[],_,_,h=>by simp at h
 |x::a,y::b,e,f,h=>by simp only[List.map_cons,List.cons.injEq]at h;rw[pZ (e x List.mem_cons_self) (f y List.mem_cons_self) h.1,qN (λz d=>e z (List.mem_cons_of_mem _ d)) (λz d=>f z (List.mem_cons_of_mem _ d)) h.2]
theorem X5(b:Ui ts)(h:t∈ts):∀p∈t.parts,p∈ts:=λp a=>by
 refine b t h p ?_;cases t with
 |mk w c=>simp only[Th.parts]at a;simp only[Th.inside,List.mem_append];left;rw[Xz,List.mem_flatMap];exact{p,a,yf p}
theorem qg{s:Th}(a:∀p∈s.parts,p∈ts)(b:∀p∈t.parts,p∈ts)(e:fm ts s=fm ts t):s=t:=by
 cases s with
 |mk w c=>
  cases t with
  |mk v d=>unfold fm at e;simp only[Th.word,Th.parts,Dg]at e a b;rw[e.1,qN a b e.2]
theorem pM{b:List Th}(h:∀p∈t.parts,p∈ts):fm (ts++b) t=fm ts t:=by unfold fm;refine LW rfl (List.map_congr_left λp a=>BY (h p a))
inductive Rk(H:Hp)(x:V)(f:Fm):Prop
 |mk (c:_) (e:_) (h0:x=.ref c) (h1:H c=Ga (.tup [.str f.1,.ref e])) (h2:H e=Ga (.tup (f.2.map jv))):Rk H x f
theorem Rk.Qs{a:Hp}{x:V}{f:Fm}(e:Q4 H a)(h:Rk H x f):Rk a x f:=by obtain⟨c,d,b,g,i⟩:=h;exact{c,d,b,e _ _ g,e _ _ i}
theorem tG{H:Hp}:∀l:List Nat,gz H (l.map jv) (U2 (l.map ik))
 |[]=>by simp only[List.map_nil,U2];exact .nil
 |i::r=>by simp only[List.map_cons,U2,ik,KD.toD];exact .cons (.int _) (tG r)
theorem rm:∀l:List Nat,GO (U2 (l.map ik))=Gf
 |[]=>by simp[U2,GO]
 |i::r=>by simp only[List.map_cons,U2];simp only[GO,rm r,Ey];simp[ik,KD.toD,Td]
theorem vQ:∀l:List Nat,Ie (l.map ik)=0
 |[]=>by simp[Ie]
 |i::r=>by simp only[List.map_cons,Ie,vQ r];simp[ik,KD.depth]
theorem Rk.key{c:Gc}{f:Fm}(h:Rk H (.ref c) f)(ok:TR f.1=Gf):Og H c (Xg f):=by
 obtain⟨g,e,a,b,d⟩:=h;cases a;unfold Xg;exists ?_,?_
 .simp only[KD.toD,U2];exact .tup b (.cons (.str _) (.cons (.tup d (tG f.2)) .nil))
 .simp only[KD.toD,U2,Td,GO,ok,rm,Ez]
 .simp only[KD.depth,Ie,vQ];decide
def Ij(a f d:Gc):List (Tb×V):=[("things",.ref a),("forms",.ref f),("known",.ref d)]
structure Pl(P:Gg)(w:Gu)(C:Gc)(H:Hp)(p a f d:Gc)(ts:List Th):Prop where
 ob:∃dx,H p=Ga (.ins C dx (Ij a f d))
 th:∃us,H a=Ga (.lst us)/\Zr H us ts
 fo:∃ws,H f=Ga (.lst ws)/\Paired (Rk H) ws (ts.map (fm ts))
 kn:∃zw,DH P w H d zw/\zw.length<=ts.length/\(∀(j:Nat)t,ts[j]?=Ga t->Yh zw (Xg (fm ts t))=Ga (jv j))/\∀k v,Yh zw k=Ga v->∃t∈ts,k=Xg (fm ts t)
 af:a≠f
 nd:ts.Nodup
 cl:Ui ts
 ok:∀t∈ts,t.ok=Gf/\t.depth<=50
structure gE(a f d:Gc)(H H':Hp):Prop where
 keep:∀b o,H b=Ga o->b≠a->b≠f->b≠d->H' b=Ga o
 there:∀b,H' b=Gh->H b=Gh
theorem gE.refl:gE a f d H H:={λ_ _ e _ _ _=>e,λ_ h=>h}
theorem gE.trans{c g:Hp}(x:gE a f d H c)(y:gE a f d c g):gE a f d H g:={λb o e i j k=>y.keep b o (x.keep b o e i j k) i j k,λb h=>x.there b (y.there b h)}
theorem gE.of{c:Hp}(g:Q6 H c):gE a f d H c:={λb o e _ _ _=>g b o e,λb h=>g.free h}
section
variable{P:Gg}{w:Gu}{C:Gc}{H H':Hp}{p a f d:Gc}{ts:List Th}
theorem gE.Qs(x:gE a f d H H')(y:Pl P w C H p a f d ts):Q4 H H':=λb k e=>by obtain⟨i,h,_⟩:=y.th;obtain⟨j,c,_⟩:=y.fo;obtain⟨g,n1,_⟩:=y.kn;exact x.keep b _ e (Zo e h (by intro z;cases z)) (Zo e c (by intro z;cases z)) (Zo e n1.at_ (by intro z;cases z))
theorem Pl.keep(x:Pl P w C H p a f d ts)(m:∀o,H p=Ga o->H' p=Ga o)(j:∀o,H a=Ga o->H' a=Ga o)(l:∀o,H f=Ga o->H' f=Ga o)(k:∀o,H d=Ga o->H' d=Ga o)(c:Q4 H H'):Pl P w C H' p a f d ts:=by obtain⟨e,q⟩:=x.ob;obtain⟨t,r,s⟩:=x.th;obtain⟨u,g,i⟩:=x.fo;obtain⟨b,n1,n2,n3,n⟩:=x.kn;exact{{e,m _ q},{t,j _ r,s.Qs c},{u,l _ g,L2.Paired.Z8 i λ_ _ h=>h.Qs c},{b,{k _ n1.at_,Zi c n1.keys},n2,n3,n},x.af,x.nd,x.cl,x.ok}
theorem Pl.same(g:Q6 H H')(x:Pl P w C H p a f d ts):Pl P w C H' p a f d ts:=x.keep (g _) (g _) (g _) (g _) (Q4.of g)
theorem Pl.but{b:Gc}{l g:List V}(x:Pl P w C H p a f d ts)(c:H b=Ga (.lst l))(h:b≠a)(i:b≠f):Pl P w C (zj H b (.lst g)) p a f d ts:=by
 obtain⟨m,k⟩:=x.ob;obtain⟨j,n1,_⟩:=x.kn;refine x.keep (λo e=>?_) (λo e=>by rw[Qg (Gn h)];exact e) (λo e=>by rw[Qg (Gn i)];exact e) (λo e=>?_) (Z0 λn e=>by rw[c]at e;cases e)
 .rw[Qg (Zo k c (by intro z;cases z))];exact e
 .rw[Qg (Zo n1.at_ c (by intro z;cases z))];exact e
end
structure mj(a f d dn:Gc)(S S':List Gc)(H H':Hp):Prop where
 keep:∀b o,H b=Ga o->b≠a->b≠f->b≠d->b≠dn->b∉S->H' b=Ga o
 own:∀b∈S',b∈S\/H b=Gh
 sub:∀b∈S,b∈S'
 there:∀b,H' b=Gh->H b=Gh
theorem mj.trans{c:Gc}{S j k:List Gc}{g i:Hp}(x:mj a f d c S j H g)(y:mj a f d c j k g i):mj a f d c S k H i:=by
 refine{λb o e l m n p q=>y.keep b o (x.keep b o e l m n p q) l m n p λz=>?_,λb r=>?_,λb h=>y.sub b (x.sub b h),λb h=>x.there b (y.there b h)}
 .rcases x.own b z with z|z
  .exact q z
  .rw[e]at z;cases z
 .rcases y.own b r with h|h
  .exact x.own b h
  .exact .inr (x.there b h)
inductive rC(P:Gg)(w:Gu)(C:Gc)(vs:List V)(H:Hp)(Q:VK):Prop
 |mk (p:Gc) (dx:Gc) (h0:vs=[.ref p]) (h1:H p=Ga (.ins C dx [])) (h2:∀(a f d:Gc)(H':Hp),Pl P w C H' p a f d []->(∀b o,H b=Ga o->b≠p->H' b=Ga o)->H a=Gh->H f=Gh->H d=Gh->Q .non H'):rC P w C vs H Q
def uA(P:Gg)(w:Gu)(C:Gc):Sp:=λa H Q _=>rC P w C a H Q
inductive yp(P:Gg)(w:Gu)(C:Gc)(vs:List V)(H:Hp)(Q:VK):Prop
 |mk (p:Gc) (c:Gc) (v:V) (t:Th) (a:Gc) (f:Gc) (d:Gc) (ts:List Th) (h0:vs=[.ref p,v,.ref c]) (h1:Pl P w C H p a f d ts) (h2:Zv H v t) (h3:t.ok=Gf) (h4:t.depth<=50) (h5:(∀q∈t.parts,q∈ts)) (h6:Rk H (.ref c) (fm ts t)) (h7:ts.length<1000000) (h8:∀(j:Nat)(H':Hp),Pl P w C H' p a f d (if t∈ts then ts else ts++[t])->(if t∈ts then ts else ts++[t])[j]?=Ga t->gE a f d H H'->Q (jv j) H'):yp P w C vs H Q
def nj(P:Gg)(w:Gu)(C:Gc):Sp:=λa H Q _=>yp P w C a H Q
inductive uo(P:Gg)(w:Gu)(C:Gc)(vs:List V)(H:Hp)(Q:VK):Prop
 |mk (p:Gc) (v:V) (t:Th) (a:Gc) (f:Gc) (d:Gc) (ts:List Th) (h0:vs=[.ref p,v]) (h1:Pl P w C H p a f d ts) (h2:Zv H v t) (h3:t.ok=Gf) (h4:t.depth<=50) (h5:ts.length+t.size<=500000) (h6:∀(j:Nat)(H':Hp),Pl P w C H' p a f d (Yy ts t.inside)->(Yy ts t.inside)[j]?=Ga t->gE a f d H H'->Q (jv j) H'):uo P w C vs H Q
def wH(P:Gg)(w:Gu)(C:Gc):Sp:=λa H Q _=>uo P w C a H Q
end Sb
namespace L2
open PySem PySem.Spec PyProof.Rows
variable{G:Prop}
theorem Hf{K:Gd}{a p:Gc}{xs:List V}{g:TG}{B:TT}{A:TE}{Q:Hp->Prop}{n:St}{t:Hp}(h:Nat->List V->St->Hp->Prop)(f:xs.length<=Gj)(C:h 0 [] n (zj t p (.lst [])))
  (F:∀i c d H,i<=xs.length->h i c d H->Q9 K H a xs)
  (G:∀i x c d H,xs[i]?=Ga x->h i c d H->H p=Ga (.lst c)->g x d H λj H2=>B j H2 λb o=>if b=Gf then A j o λv u=>u p=Ga (.lst c)/\h (i+1) (c++[v]) j (zj u p (.lst (c++[v])))else o p=Ga (.lst c)/\h (i+1) c j o)
  (D:∀c d H,c.length<=xs.length->h xs.length c d H->H p=Ga (.lst c)->Q H):i0 p (iz K a) g B A Q n (zj t p (.lst [])):=by
 exists λi m d H=>m=xs.length - i/\i<=xs.length/\∃c,c.length<=i/\h i c d H/\H p=Ga (.lst c),{xs.length,by simp,Gz _,[],Gm _,C,Qb};rintro i m d H ⟨rfl,E,c,z,pv,w⟩;have q:=F i c d H E pv;by_cases l:i<xs.length
 .refine .inr ⟨{xs,xs[i],q,by simp[l]},λv f k=>k p=Ga (.lst c)/\h (i+1) (c++[v]) f (zj k p (.lst (c++[v]))),λf k=>k p=Ga (.lst c)/\h (i+1) c f k,
   λv f k⟨r,s⟩=>{c,r,by lia,xs.length - (i+1),by lia,Xb,l,c++[v],by simp[z],s,Qb},λf k⟨r,s⟩=>{xs.length - (i+1),by lia,Xb,l,c,by lia,s,r},λx k y=>?_⟩
  obtain⟨e,y⟩:=y;subst e;exact G i x c d _ (y xs q) pv w
 .have e:i=xs.length:=by lia
  subst e;exact .inl {{xs,q,Gm _},D c d H z pv w}
theorem OZ{X:Cx}{a b:TZ}{l:SV}{i j:Nat}(w:PE X a (Vz i))(A:PE X b (Vz j)):PE X (.BoolOp .Or [a,b] l) (λσ H Q=>∃x y,σ[i]?=Ga (Ga (.int x))/\σ[j]?=Ga (Ga (.int y))/\∀z:Int,Q (.int z) H):=by
 intro d s σ H Q I h;obtain⟨x,y,t,u,q⟩:=h;refine BoolOp_or (Yx (w d s σ H (λv f=>v=.int x/\f=H) I {_,t,Xb,Xb}) λv B⟨D,f,o,n,p,r⟩=>?_);subst p r;refine Yx (yi d B σ f (.int x) v (λk g=>g=f) o n {_,Xb,Xb}) λc C⟨g,m,e⟩=>?_;subst e;cases c with
 |true=>exact{.int x,g,m,n,q x}
 |false=>exact lW A d C σ g Q m {_,u,q y}
theorem BH{T:Int->Prop}(k:(∀i,T i)->G)(h:∀i,T i):G:=k h
theorem Hl{F T:Gc->Hp->Prop}(k:(∀a H,F a H->T a H)->G)(h:∀a H,F a H->T a H):G:=k h
theorem AL{A B:Prop}(k:A->B->G)(a:A)(b:B):G:=k a b
theorem IH(a:List V)(h:0<a.length):∃v,atI a (-1)=Ga v/\a[a.length - 1]?=Ga v:=by
 have b:a.length - 1<a.length:=by ext
 refine{_,?_,List.getElem?_eq_getElem b};unfold atI ixN;rw[Gi (by decide),Gp (by ext)];have e:((-1:Int)+(a.length:Int)).toNat=a.length - 1:=by ext
 rw[e];show a[a.length - 1]?=_;exact List.getElem?_eq_getElem b
end L2
namespace Sb
open PySem PySem.Spec PyProof.Rows L2
variable{a f d wk:Gc}{H H':Hp}{D S:List Gc}{m:Nat}{ts:List Th}
def wfl(p:Gc)(n:Int):List (Tb×V):=[("places",.ref p),("steps",.int n)]
theorem Av(p:Gc)(n k:Int):Yo "steps" (.int k) (wfl p n)=wfl p k:=by
 have h:¬(("places":Tb)="steps"):=by decide+kernel
 simp only[wfl,Yo,Gi h,Sq]
theorem Bv(p:Gc):Yo "steps" (.int 0) (Yo "places" (.ref p) [])=wfl p 0:=by
 have h:¬(("places":Tb)="steps"):=by decide+kernel
 simp only[wfl,Yo,Gi h]
inductive Rv(CW:Gc)(H:Hp)(wk p:Gc):Prop
 |mk (dx:_) (n:_) (h0:H wk=Ga (.ins CW dx (wfl p n))):Rv CW H wk p
theorem I7{C b e c p:Gc}{n:Int}:HO.ins C e (Ij a f d)≠HO.ins b c (wfl p n):=by intro z;injection z with _ _ z;have:=congrArg List.length z;simp[Ij,wfl]at this
structure gD(H:Hp)(D S:List Gc)(m:Nat)(ts:List Th):Prop where
 at_:∀dn∈D,∃zw,H dn=Ga (.dT zw)/\zw.length<=m/\∀k v,Xh zw k=Ga v->∃l∈S,v=.ref l
 ls:∀l∈S,∃es,H l=Ga (.lst es)/\es.length<=m/\∀e∈es,∃c v,∃(j:Nat)(t:Th),e=.ref c/\H c=Ga (.tup [v,jv j])/\Zv H v t/\ts[j]?=Ga t
theorem gD.keep{i:Nat}{a:List Th}(x:gD H D S m ts)(r:∀d∈D,∀o,H d=Ga o->H' d=Ga o)(u:∀l∈S,∀o,H l=Ga o->H' l=Ga o)(k:Q4 H H')(b:∀(j:Nat)t,ts[j]?=Ga t->a[j]?=Ga t)(e:m<=i):gD H' D S i a:=by
 refine{λf g=>?_,λl h=>?_}
 .obtain⟨e,n,q,p⟩:=x.at_ f g;exact{e,r f g _ n,by ext,p}
 .obtain⟨q,n,B,p⟩:=x.ls l h;refine{q,u l h _ n,by ext,λe s=>?_};obtain⟨c,v,j,t,w,y,z,A⟩:=p e s;exact{c,v,j,t,w,k _ _ y,z.Qs k,b j t A}
theorem gD.same(g:Q6 H H')(x:gD H D S m ts):gD H' D S m ts:=x.keep (λd _=>g d) (λl _=>g l) (Q4.of g) (λ_ _ h=>h) (Gm _)
theorem gD.mono{a:Nat}(x:gD H D S m ts)(h:m<=a):gD H D S a ts:=x.keep (λ_ _ _ h=>h) (λ_ _ _ h=>h) (λ_ _ h=>h) (λ_ _ h=>h) h
theorem gD.more{c:Gc}(x:gD H D S m ts)(d:H c=Gh):gD (zj H c (.dT [])) (c::D) S m ts:=by
 have y:=x.same (Qf d (.dT []));refine{λb a=>?_,y.ls};rcases List.mem_cons.mp a with rfl|a
 .exact{[],Qb,Gz _,λk v e=>by rw[m8]at e;cases e}
 .exact y.at_ b a
structure gH(a f d wk:Gc)(D D' S S':List Gc)(H H':Hp):Prop where
 keep:∀b o,H b=Ga o->b≠a->b≠f->b≠d->b≠wk->b∉D->b∉S->H' b=Ga o
 Qmc:∀b∈D',b∈D\/H b=Gh
 Qg5:∀b∈S',b∈S\/H b=Gh
 Qo8:∀b∈D,b∈D'
 Qq5:∀b∈S,b∈S'
 there:∀b,H' b=Gh->H b=Gh
theorem gH.of(g:Q6 H H'):gH a f d wk D D S S H H':={λb o e _ _ _ _ _ _=>g b o e,λ_ h=>.inl h,λ_ h=>.inl h,λ_ h=>h,λ_ h=>h,λb h=>g.free h}
theorem gH.trans{g i l m:List Gc}{j k:Hp}(x:gH a f d wk D g S l H j)(y:gH a f d wk g i l m j k):gH a f d wk D i S m H k:=by
 refine{λb o e n p q r s t=>y.keep b o (x.keep b o e n p q r s t) n p q r (λz=>?_) (λz=>?_),λb c=>?_,λb c=>?_,λb h=>y.Qo8 b (x.Qo8 b h),λb h=>y.Qq5 b (x.Qq5 b h),λb h=>x.there b (y.there b h)}
 .rcases x.Qmc b z with z|z
  .exact s z
  .rw[e]at z;cases z
 .rcases x.Qg5 b z with z|z
  .exact t z
  .rw[e]at z;cases z
 .rcases y.Qmc b c with h|h
  .exact x.Qmc b h
  .exact .inr (x.there b h)
 .rcases y.Qg5 b c with h|h
  .exact x.Qg5 b h
  .exact .inr (x.there b h)
theorem gH.Qs{P:Gg}{w:Gu}{C g:Gc}{p:Gc}{i j:List Gc}(x:gH a f d wk D i S j H H')(W:Rv g H wk p)(y:Pl P w C H p a f d ts)(z:gD H D S m ts):Q4 H H':=λb v e=>by
 obtain⟨t,q,_⟩:=y.th;obtain⟨u,k,_⟩:=y.fo;obtain⟨l,n1,_⟩:=y.kn;obtain⟨r,n,o⟩:=W;refine x.keep b _ e (Zo e q (by intro z;cases z)) (Zo e k (by intro z;cases z)) (Zo e n1.at_ (by intro z;cases z)) (Zo e o (by intro z;cases z)) (λc=>?_) λc=>?_
 .obtain⟨s,h,_⟩:=z.at_ b c;rw[e]at h;cases h
 .obtain⟨s,h,_⟩:=z.ls b c;rw[e]at h;cases h
theorem Ke{l o:Hp}{h q:Gc}{k:List X7}{n:List (List X7×V)}{y:V}(x:gD H D S m ts)(M:h∈D)(w:H h=Ga (.dT n))(C:Q6 H l)(F:l q=Gh)
  (P:(Xh n k=Ga y/\o=zj l q (.lst []))\/(Xh n k=Gh/\y=.ref q/\o=zj (zj l q (.lst [])) h (.dT (n++[(k,.ref q)])))):
  ∃f r,y=.ref f/\f∈r/\gD o D r (m+1) ts/\(∀b∈S,b∈r)/\(∀b∈r,b∈S\/H b=Gh)/\(∀b u,H b=Ga u->b≠h->o b=Ga u)/\(∀b,o b=Gh->H b=Gh):=by
 have g:=C.trans (Qf F (.lst []));have R:H q=Gh:=C.free F;obtain⟨aa,n1,n2,n3⟩:=x.at_ h M;rw[w]at n1;cases n1;rcases P with⟨T,rfl⟩|⟨O,rfl,rfl⟩
 .obtain⟨f,i,rfl⟩:=n3 _ _ T;exact{f,S,Xb,i,x.keep (λd _=>g d) (λf _=>g f) (Q4.of g) (λ_ _ e=>e) (EE _),λ_ e=>e,λ_ e=>.inl e,λb u a _=>g _ _ a,λb e=>g.free e}
 .have E:=g _ _ w;have G:(zj l q (.lst [])) q=Ga (.lst []):=Qb;have Q:q≠h:=Zo G E (by intro z;cases z);have Y:Q4 (zj l q (.lst [])) (zj (zj l q (.lst [])) h (.dT (n++[(k,.ref q)]))):=Z0 λJ a=>by rw[E]at a;cases a
  have I:Q4 H (zj (zj l q (.lst [])) h (.dT (n++[(k,.ref q)]))):=λb J a=>Y b J (g _ _ a);refine{q,q::S,Xb,List.mem_cons_self,{λA N=>?_,λf i=>?_},λb e=>List.mem_cons_of_mem _ e,λb e=>?_,λb u a e=>by rw[Qg e];exact g _ _ a,λb e=>?_}
  .by_cases v:A=h
   .subst v;refine{_,Qb,by rw[List.length_append,List.length_singleton];lia,λp U a=>?_};rw[nO (κ:=List X7) k p _ n O]at a;by_cases B:p=k
    .rw[Gp B]at a;cases a;exact{q,List.mem_cons_self,Xb}
    .rw[Gi B]at a;obtain⟨f,i,s⟩:=n3 _ _ a;exact{f,List.mem_cons_of_mem _ i,s}
   .obtain⟨L,B,W,K⟩:=x.at_ A N;refine{L,by rw[Qg v];exact g _ _ B,by lia,λp U a=>?_};obtain⟨f,i,s⟩:=K _ _ a;exact{f,List.mem_cons_of_mem _ i,s}
  .rcases List.mem_cons.mp i with rfl|i
   .exact{[],by rw[Qg Q];exact G,Gz _,λa v=>nomatch v}
   .obtain⟨L,B,s,K⟩:=x.ls f i;refine{L,?_,by lia,λa v=>?_}
    .rw[Qg (Zo B w (by intro z;cases z))];exact g _ _ B
    .obtain⟨c,Z,j,t,U,p,W,X⟩:=K a v;exact{c,Z,j,t,U,I _ _ p,W.Qs I,X}
  .rcases List.mem_cons.mp e with rfl|e
   .exact .inr R
   .exact .inl e
  .by_cases v:b=h
   .subst v;rw[Qb]at e;cases e
   .rw[Qg v]at e;exact g.free e
inductive tV(CW:Gc)(vs:List V)(H:Hp)(Q:VK):Prop
 |mk (wk:Gc) (dx:Gc) (p:Gc) (h0:vs=[.ref wk,.ref p]) (h1:H wk=Ga (.ins CW dx [])) (h2:∀H',Rv CW H' wk p->(∀b o,H b=Ga o->b≠wk->H' b=Ga o)->(∀b,H' b=Gh->H b=Gh)->Q .non H'):tV CW vs H Q
def qI(a:Gc):Sp:=λb H Q _=>tV a b H Q
inductive rL(vs:List V)(H:Hp)(Q:VK):Prop
 |mk (l:Gc) (v:V) (t:Th) (es:List V) (ts:List Th) (h0:vs=[.ref l,v]) (h1:H l=Ga (.lst es)) (h2:(∀e∈es,∃c v,∃(j:Nat)(t:Th),e=.ref c/\H c=Ga (.tup [v,jv j])/\Zv H v t/\ts[j]?=Ga t)) (h3:(∀t∈ts,t.ok=Gf/\t.depth<=50)) (h4:Zv H v t) (h5:t.ok=Gf) (h6:t.depth<=50) (h7:(∀j:Nat,ts[j]?=Ga t->Q (jv j) H)) (h8:Q .non H):rL vs H Q
def pC:Sp:=λa H Q _=>rL a H Q
inductive zi(vs:List V)(H:Hp)(Q:VK):Prop
 |mk (i:Int) (j:Int) (h0:vs=[.int i,.int j]) (h1:j<1000000) (h2:∀r:Int,Q (.int r) H):zi vs H Q
def oq:Sp:=λa H Q _=>zi a H Q
inductive sF(P:Gg)(w:Gu)(C:Gc)(CW:Gc)(n:Nat)(vs:List V)(H:Hp)(Q:VK):Prop
 |mk (wk:Gc) (p:Gc) (dn:Gc) (v:V) (sp:Int) (t:Th) (a:Gc) (f:Gc) (d:Gc) (D:List Gc) (S:List Gc) (m:Nat) (ts:List Th) (h0:vs=[.ref wk,v,.ref dn,.int sp]) (h1:Rv CW H wk p) (h2:Pl P w C H p a f d ts) (h3:gD H D S m ts) (h4:dn∈D) (h5:a∉S) (h6:f∉S) (h7:Zv H v t) (h8:t.ok=Gf) (h9:t.depth<=n) (h10:t.depth<=50) (h11:m+2*t.size<=1000000) (h12:ts.length+t.size<=1000000) (h13:∀(j:Nat)(D' S':List Gc)(H':Hp),Rv CW H' wk p->Pl P w C H' p a f d (Yy ts t.inside)->gD H' D' S' (m+2*t.size) (Yy ts t.inside)->(Yy ts t.inside)[j]?=Ga t->gH a f d wk D D' S S' H H'->Q (jv j) H'):sF P w C CW n vs H Q
def jL(P:Gg)(w:Gu)(C a:Gc)(n:Nat):Sp:=λb H Q _=>sF P w C a n b H Q
theorem Vj:∀(l:List Th)(i:Nat),Qx (l.take i)<=Qx l
 |[],_=>by simp
 |x::l,0=>by simp[Qx]
 |x::l,i+1=>by have:=Vj l i;simp only[List.take_succ_cons,Qx];lia
theorem CV(a:List Th)(i:Nat)(t:Th)(h:a[i]?=Ga t):Zf (a.take (i+1))=Zf (a.take i)++t.inside:=by rw[List.take_add_one,h,Xz,List.flatMap_append,<-Xz];simp
theorem R4:∀(a:List Th)(i:Nat)(t:Th),a[i]?=Ga t->Qx (a.take (i+1))=Qx (a.take i)+t.size
 |[],_,_,h=>by simp at h
 |x::r,0,t,h=>by simp at h;subst h;simp[Qx]
 |x::r,i+1,t,h=>by have:=R4 r i t (by simpa using h);simp only[List.take_succ_cons,Qx]at this⊢;lia
theorem nI{a b:List Th}{j:Nat}{t:Th}(h:a[j]?=Ga t):(Yy a b)[j]?=Ga t:=by obtain⟨m,e⟩:=Vw b a;rw[e,List.getElem?_append_left (List.getElem?_eq_some_iff.mp h).1];exact h
end Sb
namespace L2
open PySem PySem.Spec PyProof.Rows
inductive yd(x:V)(vs:List V)(H:Hp)(Q:VK):Prop
 |mk (d:_) (b:_) (dv:_) (zw:_) (k:_) (h0:x=.ref d) (h1:vs=[.ref b,dv]) (h2:H d=Ga (.dT zw)) (h3:H b=Ga (.tup (k.map kV))) (h4:zw.length<Gj) (h5:∀v H',((Xh zw k=Ga v/\H'=H)\/(Xh zw k=Gh/\v=dv/\H'=zj H d (.dT (zw++[(k,dv)]))))->Q v H'):yd x vs H Q
def BM:V->List V->Hp->VK->Prop:=λx a H Q=>yd x a H Q
theorem OM{X:Cx}(n:X.A.units+1<DA):hH X "dict.setdefault" BM:=by intro a s w H x u v t Q I r p h;obtain⟨d,b,e,c,k,f,g,i,j,l,q⟩:=h;exact PU n a s w H x u v t Q I r p {d,b,e,c,k,f,g,i,j,l,λv o=>q v H (.inl ⟨o,Xb⟩),λm=>q e _ (.inr ⟨m,Xb,Xb⟩)}
end L2
namespace Sb
open PySem L2
abbrev KI(K:Gd)(f:Gc):Prop:=TU K (.ref f)=Gf
abbrev MG(mg:Tb->Option Value)(x:Tb)(f:Gc):Prop:=mg x=Ga (.ref f)
abbrev Xk(X:Cx)(s:TY)(n:Nat):=Subtype (Ia X ((X8 s).drop n))
end Sb
namespace K03
open PySem L2 Sb
variable{f C f0 CW:Gc}{fd:Tq}
structure J2(mg:Tb->Option Value):Prop where
 len:mg "len"=Gh
 list:mg "list"=Gh
 tuple:mg "tuple"=Gh
 range:mg "range"=Gh
 reversed:mg "reversed"=Gh
 enumerate:mg "enumerate"=Gh
 zip:mg "zip"=Gh
 sorted:mg "sorted"=Gh
theorem Rz(x:V)(a:List V):atI (x::a) (0:Int)=Ga x:=Qj (xs:=x::a) (j:=0) rfl
def lq(t:Th):List X7:=(qj t).map SJ
theorem C8(t:Th):(lq t).map kV=(qj t).map V.str:=by unfold lq;rw[List.map_map];rfl
inductive xF(vs:List V)(H:Hp)(Q:VK):Prop
 |mk (v:V) (t:Th) (h0:vs=[v]) (h1:Zv H v t) (h2:t.size<=1000000) (h3:∀(r:Gc)(H':Hp),Q6 H H'->H' r=Ga (.tup ((lq t).map kV))->Q (.ref r) H'):xF vs H Q
def nX:Sp:=λa H Q _=>xF a H Q
section
variable{P:Gg}{w:Gu}{K:Gd}{mg:Tb->Option Value}{base:Heap}
theorem Cs:Q3 ["thing"] ["thing"] (Ql lU):=by eq_refl
theorem JC(F:We K "top_words" "top_words" lU f fd)(E:J2 mg):Qy P w K mg base Z5 1 f fd ["thing"] nX:=by
 refine F.ok Cs (λb v H G e=>?_) (λZ Y ac s v b H G hr e=>?_)
 .obtain⟨W,t,rfl,_⟩:=e;rfl
 subst_vars;obtain⟨W,t,rfl,Q,O,q⟩:=e;obtain⟨a,n,b,k,rfl,rfl,z,B⟩:=Q.inv;and_intros;exists _,Qh (Qt (Xm Vt rfl E.tuple TM (Qa (Zt V0 (Zu (Qa (Qm Qo (pv 0) Qi) Qe))
  (Vs (own:=["part"]) (fv:=[]) rfl (S:=(by eq_refl:Xy (Ql lU) _)) .nil (Uj (Yc Vy (pv 0) (Yk Qi) Xo))
   (λ_ _ _ _ _=>Xc (i:=0) (nd1 _) rfl (T3 Xb) (DJ Xb)) (λ_ _ _ _ _=>Wb) (λ_ _ _ _ _=>Qm (r:=iW K) Qo (pv 0) Qi (λ_ _=>rfl)))) Qe)))
 simp only[Th.size]at O;have aa:=Ze k;have U:=B.length;refine{_,Xb,a,_,_,.str n,Xb,Xb,Q9.of z,Rz _ _,by show 1<=Gj;decide,λy M=>?_};have l:=Qf M (.lst [.str n]);refine{_,Xb,_,Xb,a,_,Xb,Q9.of (l _ _ z),Wc _ _,λr N=>?_};rw[gX];have m:=Qf N (.tup b);refine{r,Xb,{_,Q9.of Qb},λp A=>?_};have C:=Qf A (.lst []);have ad:=(l.trans m).trans C;refine U7 (K:=K) (a:=r) (xs:=b) (small (by lia)) (λi o u g=>(∃D,u=[D])/\Q6 (zj (zj v y (.lst [.str n])) r (.tup b)) g/\o=(k.take i).map λt=>V.str t.word)
  {{_,Xb},C,by simp} (λi o u g _ e=>Q9.of (e.2.1 _ _ Qb)) ?_ ?_
 .rintro i x o u g L T ⟨⟨D,rfl⟩,d,rfl⟩ j;subst_vars;obtain⟨t,R,S⟩:=B.get L;obtain⟨I,X,us,qs,rfl,rfl,J,_⟩:=S.inv;and_intros;exists _,Xb,I,_,_,.str X,Xb,Xb,Q9.of (d _ _ (m _ _ (l _ _ J))),Rz _ _,j,{_,Xb},λc ab h=>?_
  .rw[Qg (Qd h A)];exact d _ _ h
  .rw[List.take_add_one,R,List.map_append];rfl
 .rintro o u g T ⟨_,d,rfl⟩ j;have h:k.take b.length=k:=by rw[U,List.take_length]
  rw[h]at j;have I:=d _ _ (m _ _ (@Qb v y (.lst [.str n])));refine{y,p,_,_,Xb,Xb,I,j,small (by rw[List.length_map,List.length_singleton];lia),λc J=>?_};refine{c,_,Xb,.inl {Za.of Qb,λR L=>?_}};refine q R _ ((((l.trans m).trans d).trans (Qf J _)).trans (Qf L _)) ?_;rw[Qb,C8];simp[qj,Th.word,Th.parts]
end
theorem n1:¬(("things":Tb)="forms"):=by decide+kernel
theorem n2:¬(("things":Tb)="known"):=by decide+kernel
theorem n3:¬(("forms":Tb)="known"):=by decide+kernel
theorem AM(a f d:Gc):Yo "known" (.ref d) (Yo "forms" (.ref f) (Yo "things" (.ref a) []))=Ij a f d:=by simp only[Yo,Gi n1,Gi n2,Gi n3,Ij]
theorem vP(a f d:Gc):(Ij a f d).lookup ("things":Tb)=Ga (.ref a):=by rfl
theorem HR(a f d:Gc):(Ij a f d).lookup ("forms":Tb)=Ga (.ref f):=by rfl
theorem Ov(a f d:Gc):(Ij a f d).lookup ("known":Tb)=Ga (.ref d):=by rfl
theorem Kt(a f d:Gc):(Ij a f d).lookup ("place_by_form":Tb)=Gh:=by rfl
structure hJ(K:Gd)(mg:Tb->Option Value)(C:Gc):Prop where
 cl:gJ K C
 nT:Yv K C "things"
 nF:Yv K C "forms"
 nN:Yv K C "known"
 mgC:mg "Places"=Ga (.ref C)
section
variable{P:Gg}{w:Gu}{K:Gd}{mg:Tb->Option Value}{base:Heap}
theorem KO:Q3 ["self"] ["self"] (Ql Oi):=by eq_refl
theorem OL(F:We K "__init__" "Places.__init__" Oi f fd)(T:hJ K mg C):Qy P w K mg base Z5 1 f fd ["self"] (uA P w C):=by
 refine F.ok KO (λO H Q E h=>?_) (λM A L s H O Q E U h=>?_)
 .obtain⟨p,x,rfl,_⟩:=h;rfl
 obtain⟨p,x,rfl,G,q⟩:=h;show∃t,Ia ?my _ t/\_;let S:Xk ?my Oi 2:={_,Qh (Xd (pv 0) Ii Xb)}
 let R:Xk ?my Oi 1:={_,Qc (Xd (pv 0) (Zu Qe) rfl) S.2}
 exists _,Qc (Xd (pv 0) (Zu Qe) rfl) R.2;refine{Gz _,λa I=>?_};have c:p≠a:=Qd G I;refine{_,Xb,p,C,x,[],Xb,(by rw[Qg c];exact G),T.cl,T.nT,by show 0<1000;decide,Gz _,λf u=>?_};have g:p≠f:=Qd Qb u;have i:a≠f:=Qd (o:=.lst []) (by rw[Qg (Gn c),Qb]) u;refine{_,Xb,p,C,x,_,Xb,(by rw[Qg g,Qb]),T.cl,T.nF,by show 1<1000;decide,λd n=>?_};have l:p≠d:=Qd Qb n;have D:f≠d:=Qd (o:=.lst []) (by rw[Qg (Gn g),Qb]) n;have B:a≠d:=Qd (o:=.lst []) (by rw[Qg (Gn c),Qg i,Qg (Gn c),Qb]) n;exists _,Xb,p,C,x,_,Xb,(by rw[Qg l,Qb]),T.cl,T.nN,(by show 2<1000;decide);refine q a f d _ {{x,?_},{[],?_,.nil},{[],?_,.nil},{[],{?_,λp G=>nomatch G},Gm _,λj t e=>?_,λk v e=>?_},i,List.nodup_nil,Hc,λt N=>by simp at N} (λb o e r=>?_) I ?_ ?_
 .rw[Qb,AM]
 .rw[Qg (Gn c),Qg B,Qg (Gn c),Qg i,Qg (Gn c),Qb]
 .rw[Qg (Gn g),Qg D,Qg (Gn g),Qb]
 .rw[Qg (Gn l),Qb];rfl
 .simp at e
 .simp[Yh]at e
 .have m:b≠a:=Qd e I;have y:b≠f:=λz=>by subst z;rw[Qg r,Qg m,e]at u;cases u
  have J:b≠d:=λz=>by subst z;rw[Qg r,Qg y,Qg r,Qg m,e]at n;cases n
  rw[Qg r,Qg J,Qg r,Qg y,Qg r,Qg m];exact e
 .rw[Qg (Gn g),Qg (Gn i)]at u;exact u
 .rw[Qg (Gn l),Qg (Gn D),Qg (Gn l),Qg (Gn B)]at n;exact n
theorem BX:Q3 ["self","thing","form"] ["self","thing","form"] (Ql oT):=by eq_refl
theorem yr{P:Gg}{w:Gu}{H:Hp}{p a d:Gc}{b:List Th}{c:List KE}{t:Th}(x:Pl P w C H p a f d b)(n:∀q∈t.parts,q∈b)(l:∀(j:Nat)t,b[j]?=Ga t->Yh c (Xg (fm b t))=Ga (jv j))(m:∀k v,Yh c k=Ga v->∃t∈b,k=Xg (fm b t)):
  (Yh c (Xg (fm b t))).isSome=decide (t∈b):=by
 by_cases h:t∈b
 .rw[Gw h,l _ t (Iy h)];rfl
 .rw[Gr h];cases e:Yh c (Xg (fm b t))with
  |none=>rfl
  |some v=>exfalso;obtain⟨s,g,i⟩:=m _ _ e;exact h (qg n (X5 x.cl g) (U6 i)▸g)
theorem IJ{P:Gg}{r:Gu}{h:Hp}{p a d c:Gc}{b:List Th}{l:List KE}{B D:List V}{o:V}{t:Th}(x:Pl P r C h p a f d b)(n:DH P r h d l)(i:l.length<=b.length)(H:∀(j:Nat)t,b[j]?=Ga t->Yh l (Xg (fm b t))=Ga (jv j))(I:∀k o,Yh l k=Ga o->∃t∈b,k=Xg (fm b t))
  (m:h a=Ga (.lst B))(M:Zr h B b)(hw:h f=Ga (.lst D))(N:Paired (Rk h) D (b.map (fm b)))(U:Zv h o t)(ok:t.ok=Gf)(R:t.depth<=50)(v:∀q∈t.parts,q∈b)(J:Rk h (.ref c) (fm b t))(E:¬t∈b):
  Pl P r C (zj (zj (zj h d (V5 P r d (Ww l (Xg (fm b t)) c (jv b.length)))) a (.lst (B++[o]))) f (.lst (D++[.ref c]))) p a f d (b++[t]):=by
 obtain⟨S,w⟩:=x.ob;have O:d≠a:=Zo n.at_ m (by intro z;cases z);have Q:d≠f:=Zo n.at_ hw (by intro z;cases z);have Y:p≠d:=Zo w n.at_ (by intro z;cases z);have X:p≠a:=Zo w m (by intro z;cases z);have Z:p≠f:=Zo w hw (by intro z;cases z);have A:Q4 h (zj (zj (zj h d (V5 P r d (Ww l (Xg (fm b t)) c (jv b.length)))) a (.lst (B++[o]))) f (.lst (D++[.ref c]))):=λaa xs g=>by rw[Qg (Zo g hw (by intro z;cases z)),Qg (Zo g m (by intro z;cases z)),Qg (Zo g n.at_ (by intro z;cases z))];exact g
 have hn:Yh l (Xg (fm b t))=Gh:=by
  have:=yr x v H I;rw[Gr E]at this;cases g:Yh l (Xg (fm b t))with
  |none=>rfl
  |some u=>rw[g]at this;cases this
 have W:Og h c (Xg (fm b t)):=J.key (by cases t;simp only[Th.ok,Tn]at ok;exact ok.1);have G:∀s∈b,fm (b++[t]) s=fm b s:=λs e=>pM (X5 x.cl e);have F:fm (b++[t]) t=fm b t:=pM v;exists {S,?_},{_,?_,(M.append (.one U)).Qs A},{_,Qb,?_},{Ww l (Xg (fm b t)) c (jv b.length),{?_,Zi A (n.keys.put W)},?_,λj s g=>?_,λk y g=>?_},x.af,?_,?_
 .rw[Qg Z,Qg X,Qg Y];exact w
 .rw[Qg x.af,Qb]
 .have i:(b++[t]).map (fm (b++[t]))=b.map (fm b)++[fm b t]:=by rw[List.map_append,List.map_congr_left G,List.map_cons,List.map_nil,F]
  rw[i];exact Yl (L2.Paired.Z8 N λ_ _ K=>K.Qs A) (.cons (J.Qs A) .nil)
 .rw[Qg Q,Qg O,Qb]
 .have:=O7 l (Xg (fm b t)) c (jv b.length);rw[List.length_append,List.length_singleton];lia
 .rw[U3];rcases Tp j b.length with i|i
  .rw[List.getElem?_append_left i]at g;have e:=List.mem_of_getElem? g;rw[G s e,Gi (λz=>E (qg (X5 x.cl e) v (U6 z)▸e))];exact H j s g
  .rw[List.getElem?_append_right i]at g;have K:j - b.length=0:=by have:=(List.getElem?_eq_some_iff.mp g).1;simp at this;lia
   rw[K]at g;simp at g;subst g;have:j=b.length:=by lia
   subst this;rw[F,Gp rfl]
 .rw[U3]at g;by_cases i:k=Xg (fm b t)
  .exact{t,by simp,by rw[F];exact i}
  .rw[Gi i]at g;obtain⟨s,e,K⟩:=I _ _ g;exact{s,List.mem_append_left _ e,by rw[G s e];exact K}
 .rw[List.nodup_append];refine{x.nd,by simp,λs e u m=>?_};simp at m;subst m;exactλz=>E (z▸e)
 .intro s e L i;rcases List.mem_append.mp e with e|e
  .exact List.mem_append_left _ (x.cl s e L i)
  .simp at e;subst e;cases s with
   |mk w0 ps=>
    simp only[Th.inside,List.mem_append,List.mem_singleton]at i;rcases i with i|i
    .rw[Xz,List.mem_flatMap]at i;obtain⟨K,T,i⟩:=i;exact List.mem_append_left _ (x.cl K (v K T) L i)
    .subst i;simp
 .intro s e;rcases List.mem_append.mp e with e|e
  .exact x.ok s e
  .simp at e;subst e;exact⟨ok,R⟩
theorem Ay(F:We K "place_by_form" "Places.place_by_form" oT f0 fd)(e:hJ K mg C)(ac:J2 mg):Qy P w K mg base Z5 1 f0 fd ["self","thing","form"] (nj P w C):=by
 refine F.ok BX (λvs h ae ad L=>?_) (λai ah ak s h vs ae ad hr L=>?_)
 .obtain⟨p,c,D,t,a,f,d,b,rfl,_⟩:=L;rfl
 obtain⟨p,c,D,t,a,f,d,b,rfl,x,hv,ok,dp,N,M,hl,q⟩:=L;have O:=hr.units;exists _,Qc (Q8 (Qn (uD O) (pv 2) (Qu (pv 0) rfl) rfl)
   (Qc (Rt (Qp Zs rfl ac.len Gx (Qa (Qu (pv 0) rfl) Qe)) (jJ (Qu (pv 0) rfl) (pv 2) (jA O)))
   (Qc (Zj (X0 Gv GQ GX Zy (Qu (pv 0) rfl) (Qa (pv 1) Qe)))
   (Qh (Zj (X0 Gv GQ GX Zy (Qu (pv 0) rfl) (Qa (pv 2) Qe)))))) Qv)
  (Qh (Qt (Qm (iq O) (Qu (pv 0) rfl) (pv 2))))
 subst_vars;obtain⟨k,m⟩:=x.ob;obtain⟨g,v,u2⟩:=x.th;obtain⟨H,G,w2⟩:=x.fo;obtain⟨l,n,kl,Q,Y⟩:=x.kn;and_intros;have R:Og h c (Xg (fm b t)):=M.key (by cases t;simp only[Th.ok,Tn]at ok;exact ok.1);have ul:=u2.length;have wl:H.length=b.length:=by rw[Gq w2,List.length_map]
 exists _,Xb,_,Xb,p,C,k,_,_,Xb,m,e.cl,e.nN,Ov _ _ _,c,d,Xg (fm b t),l,Xb,Xb,n,R,_,Xb;rw[yr x N Q Y];by_cases j:t∈b
 .rw[Gw j];refine Q5 ?_;have J:=q (b.idxOf t) h (by rw[Gp j];exact x) (by rw[Gp j];exact Iy j) gE.refl;exact{_,Xb,p,C,k,_,_,Xb,m,e.cl,e.nN,Ov _ _ _,_,Xb,d,c,Xg (fm b t),l,_,Xb,Xb,n,R,Q _ t (Iy j),J}
 .rw[Gr j];refine Yp ?_;have T:=IJ (c:=c) x n kl Q Y v u2 G w2 hv ok dp N M j;have da:d≠a:=Zo n.at_ v (by intro z;cases z);have df:d≠f:=Zo n.at_ G (by intro z;cases z);have pd:p≠d:=Zo m n.at_ (by intro z;cases z);have pa:p≠a:=Zo m v (by intro z;cases z);have pf:p≠f:=Zo m G (by intro z;cases z);have e1:(g.length:Int)=((b.length:Nat):Int):=by rw[ul]
  exists _,Xb,p,C,k,_,_,Xb,m,e.cl,e.nT,vP _ _ _,a,g,Xb,.inl (Za.of v),_,Xb,p,C,k,_,_,Xb,m,e.cl,e.nN,Ov _ _ _,_,Xb,d,c,Xg (fm b t),l,Xb,Xb,n,R,(by rw[GV];lia);have aa:(zj h d (V5 P w d (Ww l (Xg (fm b t)) c (.int g.length)))) a=Ga (.lst g):=by rw[Qg (Gn da)];exact v
  have Z:(zj h d (V5 P w d (Ww l (Xg (fm b t)) c (.int g.length)))) p=Ga (.ins C k (Ij a f d)):=by rw[Qg pd];exact m
  exists _,Xb,p,C,k,_,_,Xb,Z,e.cl,e.nT,vP _ _ _,.inl {Xb,_,Za.of aa},_,Xb,a,g,_,Xb,Xb,aa,(by rw[GV];lia);have o2:(zj (zj h d (V5 P w d (Ww l (Xg (fm b t)) c (.int g.length)))) a (.lst (g++[D]))) p=Ga (.ins C k (Ij a f d)):=by rw[Qg pa];exact Z
  have ab:(zj (zj h d (V5 P w d (Ww l (Xg (fm b t)) c (.int g.length)))) a (.lst (g++[D]))) f=Ga (.lst H):=by rw[Qg (Gn x.af),Qg (Gn df)];exact G
  exists _,Xb,p,C,k,_,_,Xb,o2,e.cl,e.nF,HR _ _ _,.inl {Xb,_,Za.of ab},_,Xb,f,H,_,Xb,Xb,ab,(by rw[GV];lia);rw[e1];have B:gE a f d h (zj (zj (zj h d (V5 P w d (Ww l (Xg (fm b t)) c (jv b.length)))) a (.lst (g++[D]))) f (.lst (H++[.ref c]))):=⟨λA aj J h1 h2 h3=>by rw[Qg h2,Qg h1,Qg h3];exact J,λA i=>by
    by_cases W:A=f
    .subst W;rw[Qb]at i;cases i
    .rw[Qg W]at i;by_cases U:A=a
     .subst U;rw[Qb]at i;cases i
     .rw[Qg U]at i;by_cases V:A=d
      .subst V;rw[Qb]at i;cases i
      .rw[Qg V]at i;exact i⟩
  have tn:fm (b++[t]) t=fm b t:=pM N;have X:(b++[t])[b.length]?=Ga t:=by simp
  have af:∀o,Pl P w C o p a f d (b++[t])->gE a f d h o->∃u r,o p=Ga (.ins C u (Ij a f d))/\DH P w o d r/\Og o c (Xg (fm b t))/\Yh r (Xg (fm b t))=Ga (jv b.length):=λo y B=>by obtain⟨u,S⟩:=y.ob;obtain⟨r,I,_,U,_⟩:=y.kn;have E:=U b.length t X;rw[tn]at E;exact{u,r,S,I,(M.Qs (B.Qs x)).key (by cases t;simp only[Th.ok,Tn]at ok;exact ok.1),E}
  subst_vars;obtain⟨u,r,S,I,ag,E⟩:=af _ T B;and_intros;exact{_,Xb,p,C,u,_,_,Xb,S,e.cl,e.nN,Ov _ _ _,_,Xb,d,c,Xg (fm b t),r,_,Xb,Xb,I,ag,E,q b.length _ (by rw[Gi j];exact T) (by rw[Gi j];exact X) B}
end
structure kM(K:Gd)(mg:Tb->Option Value)(CW:Gc):Prop where
 cl:gJ K CW
 nP:Yv K CW "places"
 nS:Yv K CW "steps"
 mgC:mg "Walk"=Ga (.ref CW)
 few:∃u,mg "FEW_PARTS"=Ga u/\zu (.int 4) u
 walks:∃u,mg "WALKS_ANEW"=Ga u/\zu (.int 1024) u
 steps:∃u,mg "STEPS_ANEW"=Ga u/\zu (.int 40000) u
theorem JG(p:Gc)(n:Int):(wfl p n).lookup ("places":Tb)=Ga (.ref p):=by rfl
theorem qp(p:Gc)(n:Int):(wfl p n).lookup ("steps":Tb)=Ga (.int n):=by rfl
theorem xx(p:Gc)(n:Int):(wfl p n).lookup ("place_within":Tb)=Gh:=by rfl
section
variable{P:Gg}{w:Gu}{K:Gd}{mg:Tb->Option Value}{base:Heap}
theorem Pa:Q3 ["spare","inner"] ["spare","inner"] (Ql nr):=by eq_refl
theorem K2(F:We K "share_of" "share_of" nr f0 fd):Qy P w K mg base Z5 1 f0 fd ["spare","inner"] oq:=by
 refine F.ok Pa (λe H Q E h=>?_) (λd A a s H e Q E g h=>?_)
 .obtain⟨i,j,rfl,_⟩:=h;rfl
 obtain⟨i,j,rfl,f,q⟩:=h;exists _,Qc (Q8 (PW.pt (Y1 (Qn Vg (pv 1) Qi (Qr _)) (Xp (Qn Vg (Zt W9 (pv 0) (pv 1)) (Zt jz (pv 1) Qi) (Qr _))))) (Qh (Qt Qi)) Qv)
  (Qh (Qt (Zt W9 (pv 0) (pv 1))))
 exists _,Xb,_,_,Xb,Xb,_,Xb;by_cases b:j<2
 .rw[Gw b];exact Yp (Yp (q 0))
 .rw[Gr b];have c:qJ i j:={by ext,by ext};refine Q5 {_,Xb,_,Xb,_,_,Xb,Xb,c,_,Xb,_,_,Xb,Xb,_,_,Xb,Xb,_,Xb,?_};refine Uu (λ_=>q 0) (λ_=>?_);exact{_,Xb,_,Xb,_,_,Xb,Xb,c,q _}
theorem sV:Q3 ["met","thing","twin","place"] ["met","thing"] (Ql oA):=by eq_refl
theorem Po(F:We K "place_among" "place_among" oA f0 fd)(B:J2 mg):Qy P w K mg base Z5 1 f0 fd ["met","thing"] pC:=by
 refine F.ok sV (λT H Q E h=>?_) (λz A n s H T Q E I h=>?_)
 .obtain⟨l,v,t,g,R,rfl,_⟩:=h;rfl
 obtain⟨l,v,t,g,R,rfl,p,k,m,J,x,D,M,N⟩:=h;have L:=I.units;have q:=sV.nd;exists _,Qc (Z6 Gy rfl (tD rfl B.reversed (Qa (pv 0) Qe)) (Vx rfl (Zn (Zz 2 q) (Zn (Zz 3 q) Wm)))
   (Qh (Q8 (Qn (Uq L) (pv 2) (pv 1) (Qr _)) (Qh (Qt (pv 3))) Qv)))
  (Qh (Qt Uo))
 refine⟨_,Xb,l,g,Xb,Za.of p,zt (K:=K) (a:=l) (xs:=g) (λi f d=>d=H/\∃r u,f=[Ga (.ref l),Ga v,r,u])
  {Xb,_,_,Xb} (by rintro i f d _ ⟨e,_⟩;rw[e];exact Za.of p) ?_ ?_⟩
 .rintro i y f d G ⟨rfl,r,u,rfl⟩;subst_vars;obtain⟨c,S,j,O,rfl,C,e,o⟩:=k y (List.mem_reverse.mp (List.mem_of_getElem? G));and_intros;have b:=m _ (List.mem_of_getElem? o);exists c,_,Xb,Q9.of C,Xb,S,_,Xb,jv j,_,Xb,Xb,_,Xb,_,Xb,_,_,e.dt,J.dt,Wi _ b.1,Wi _ x,?_,_,Xb
  .rw[Xl,Xl];have:=b.2;lia
  rw[O1];by_cases a:O=t
  .subst a;rw[Gw rfl];exact Yp {_,Xb,M j o}
  .rw[Gr a];exact Q5 {Xb,_,_,Xb}
 .rintro f d ⟨rfl,_⟩;exact N
theorem JN:Q3 ["self","places"] ["self","places"] (Ql oM):=by eq_refl
theorem AY(F:We K "__init__" "Walk.__init__" oM f0 fd)(T:kM K mg CW):Qy P w K mg base Z5 1 f0 fd ["self","places"] (qI CW):=by
 refine F.ok JN (λi H Q E h=>?_) (λg A f s H i Q E j h=>?_)
 .obtain⟨d,c,p,rfl,_⟩:=h;rfl
 obtain⟨d,c,p,rfl,hw,q⟩:=h;exists _,Qc (Xd (pv 0) (pv 1) rfl) (Qh (Xd (pv 0) Qi Xb));exists _,Xb,_,Xb,d,CW,c,[],Xb,hw,T.cl,T.nP,(by show 0<1000;decide);exists _,Xb,d,CW,c,_,Xb,Qb,T.cl,T.nS,(by show 1<1000;decide);refine q _ {c,0,by rw[Qb,Bv]} (λb o e a=>by rw[Qg a,Qg a];exact e) λb a=>?_;by_cases h:b=d
 .subst h;rw[Qb]at a;cases a
 .rw[Qg h,Qg h]at a;exact a
end
section
variable{P:Gg}{w:Gu}{K:Gd}{mg:Tb->Option Value}{base:Heap}
theorem qE:Q3 ["self","thing","near","spare","met","place","inner","share","scope","parts","part"] ["self","thing","near","spare"] (Ql Y0):=by eq_refl
theorem Ca{n:Nat}{fT fA fS fB:Gc}{bo bk bn bm:Tq}(F:We K "place_within" "Walk.place_within" Y0 f0 fd)(bR:hJ K mg C)(X:kM K mg CW)(aF:J2 mg)(mP:Ye K CW "place_within" f0)(bP:zk K fd ["self","thing","near","spare"] [])
  (bQ:Qy P w K mg base Z5 (n+1) f0 fd ["self","thing","near","spare"] (jL P w C CW n))(GT:Qy P w K mg base Z5 1 fT bo ["thing"] nX)(kT:KI K fT)(bT:zk K bo ["thing"] [])(mT:MG mg "top_words" fT)
  (GA:Qy P w K mg base Z5 1 fA bk ["met","thing"] pC)(kA:KI K fA)(bA:zk K bk ["met","thing"] [])(mA:MG mg "place_among" fA)
  (GS:Qy P w K mg base Z5 1 fS bn ["spare","inner"] oq)(kS:KI K fS)(bS:zk K bn ["spare","inner"] [])(mS:MG mg "share_of" fS)
  (mB:Ye K C "place_by_form" fB)(GB:Qy P w K mg base Z5 1 fB bm ["self","thing","form"] (nj P w C))(bB:zk K bm ["self","thing","form"] []):
  Qy P w K mg base Z5 (n+2) f0 fd ["self","thing","near","spare"] (jL P w C CW (n+1)):=by
 refine F.ok qE (λE aa aU bO o=>?_) (λcJ cH cU s aa E aU bO hr o=>?_)
 .obtain⟨m,p,dn,ar,sp,t,a,v,d,D,S,aj,u,rfl,_⟩:=o;rfl
 subst_vars;obtain⟨m,p,dn,ar,sp,t,a,v,d,D,S,aj,u,rfl,W,x,xn,hD,aS,fS,ht,Z3,ca,bt,hm,ch,q⟩:=o;have hu:=hr.units;have aN:Yd 1 _:=hr.mono (by ext);have nd:=qE.nd;obtain⟨u1,mF,rF⟩:=X.few;obtain⟨u3,mN,rN⟩:=X.steps;and_intros;show∃t,Ia ?my _ t/\_;let cD:Xk ?my Y0 11:={_,Qh (Qt (pv 5))}
 let cC:Xk ?my Y0 10:={_,Qc (Zj (X0 Gv GQ GX Zy (pv 4) (Qa (Zg (Qa (pv 1) (Qa (pv 5) Qe))) Qe))) cD.2}
 let cB:Xk ?my Y0 9:={_,Qc (Qz 5 nd (Zh (Qu (pv 0) rfl) bR.cl mB GB aN bB .nil Q7 (Qa (pv 1) (Qa (Zg (Qa (Qm Qo (pv 1) Qi) (Qa (Xm Vt rfl aF.tuple TM (Qa (pv 9) Qe)) Qe))) Qe)))) cC.2}
 let w9:Xk ?my Y0 8:=⟨_,Qc (Z6 Gy rfl (Uj (Yc Vy (pv 1) (Yk Qi) Xo)) (Zz 10 nd)
   (Qc (Q8 (PW.pt (Ir (Qn jY (pv 7) Qi (Qr _)) (Jl (PW.pt (Y1 (Qn lK (pv 6) (O5 rfl mF rF) (Qr _)) (Xp (Qn Vg (Qu (pv 0) rfl) (O5 rfl mN rN) (Qr _))))))))
    (Qh (Qz 8 nd Oj))
    (Qh (Q8 (PW.pt (Ir (xB (pv 9) (λ_=>rfl)) (Jl (Qn (Uq hu) (pv 10) (Qm Qo (pv 1) (Qp Zs rfl aF.len Gx (Qa (pv 9) Qe))) (Qr _)))))
     (Qc (Zj (X0 Gv GQ GX Zy (pv 9) (Qa (Qm Zc (pv 9) (Jf Vn Qi)) Qe)))
     (Qh Hm)) Qv)))
   (Qh (Zj (X0 Gv GQ GX Zy (pv 9) (Qa (Zh (pv 0) X.cl mP bQ hr bP .nil Q7 (Qa (pv 10) (Qa (pv 8) (Qa (OZ (pv 7) (pv 3)) Qe)))) Qe)))))) cB.2⟩
 let w8:Xk ?my Y0 7:={_,Qc (Qz 9 nd (Zu Qe)) w9.2}
 let w7:Xk ?my Y0 6:={_,Qc (Qz 8 nd (pv 2)) w8.2}
 let w6:Xk ?my Y0 5:={_,Qc (Qz 7 nd (Ht (Qn Vg (Qu (pv 0) rfl) (O5 rfl mN rN) (Qr _)) (Zl GS aN rfl mS kS bS .nil Q7 (Qa (pv 3) (Qa (pv 6) Qe))) Qi)) w7.2}
 let w5:Xk ?my Y0 4:=⟨_,Qc (Qz 6 nd (Qp Zs rfl aF.len Gx (Qa (Vs (own:=["part"]) (fv:=[]) rfl (S:=(by eq_refl:Xy (Ql Y0) _)) .nil (Uj (Yc Vy (pv 1) (Yk Qi) Xo))
   (λ_ _ _ _ _=>Xc (i:=0) (nd1 _) rfl (T3 Xb) (DJ Xb)) (λ_ _ _ _ _=>Ox (Qn jY (Qp (r:=λxs aa aU=>∃p ys,xs=[.ref p]/\(Za K aa p ys\/Q9 K aa p ys)/\aU (.int ys.length) aa) Zs rfl aF.len Gx (Qa (pv 0) Qe)) Qi (Qr _))) (λ_ _ _ _ _=>pv 0)) Qe))) w6.2⟩
 let w4:Xk ?my Y0 3:={_,Qc (Q8 (jO (II (pv 5))) (Qh (Qt (pv 5))) Qv) w5.2}
 let w3:Xk ?my Y0 2:={_,Qc (Qz 5 nd (Zl GA aN rfl mA kA bA .nil Q7 (Qa (pv 4) (Qa (pv 1) Qe)))) w4.2}
 let w2:Xk ?my Y0 1:={_,Qc (Qz 4 nd (X0 Ee Ek El (OM (Je hr)) (pv 2) (Qa (Zl GT aN rfl mT kT bT .nil Q7 (Qa (pv 1) Qe)) (Qa (Zu Qe) Qe)))) w3.2}
 exists _,Qc (Xd (pv 0) (Zt R7 (Qu (pv 0) rfl) Qi) rfl) w2.2;obtain⟨ax,k0,ow⟩:=W;exists _,Xb,m,CW,ax,_,_,Xb,ow,X.cl,X.nS,qp _ _,_,_,Xb,Xb,_,Xb,m,CW,ax,_,Xb,ow,X.cl,X.nS,(by show 2<1000;decide);rw[Av];subst_vars;obtain⟨cK,op⟩:=x.ob;obtain⟨cW,u1,_⟩:=x.th;obtain⟨cY,w1,_⟩:=x.fo;obtain⟨cQ,D1,_⟩:=x.kn;and_intros;generalize aJ:zj aa m (.ins CW ax (wfl p (k0+1)))=H0;have ai:∀f A,aa f=Ga A->f≠m->H0 f=Ga A:=λf A b o=>by rw[<-aJ,Qg o];exact b
 have bf:H0 m=Ga (.ins CW ax (wfl p (k0+1))):=by rw[<-aJ,Qb]
 have bM:∀f,H0 f=Gh->aa f=Gh:=λf l=>by
  by_cases o:f=m
  .subst o;rw[bf]at l;cases l
  .rw[<-aJ,Qg o]at l;exact l
 clear aJ;have t0:Q4 aa H0:=λf xs b=>ai f _ b (Zo b ow (by intro z;cases z));have x0:Pl P w C H0 p a v d u:=x.keep (λA b=>ai _ _ b (Zo op ow I7)) (λA b=>ai _ _ b (Zo u1 ow (by intro z;cases z))) (λA b=>ai _ _ b (Zo w1 ow (by intro z;cases z))) (λA b=>ai _ _ b (Zo D1.at_ ow (by intro z;cases z))) t0;have bN:gD H0 D S aj u:=xn.keep (λf l A b=>by
   obtain⟨kv,o,_⟩:=xn.at_ f l;exact ai _ _ b (Zo o ow (by intro z;cases z))) (λf l A b=>by
   obtain⟨kv,o,_⟩:=xn.ls f l;exact ai _ _ b (Zo o ow (by intro z;cases z))) t0 (λ_ _ o=>o) (Gm _)
 have bD:=ht.Qs t0;have sz:=Ig t;obtain⟨bF,ag,cN,_⟩:=bN.at_ dn hD;refine{_,Xb,.inr (.inr (.inl {Xb,.inr ⟨bF,ag⟩})),_,Xb,ar,t,Xb,bD,by ext,λr H1 g1 R=>{Gz _,λq1 aM=>?_}};have g2:=g1.trans (Qf aM (.lst []));refine{dn,r,.ref q1,bF,lq t,Xb,Xb,g2 _ _ ag,(Qf aM (.lst [])) _ _ R,by rw[GV];ext,λnv H3 bv=>?_};subst_vars;obtain⟨J,S1,rfl,lS,bh,cw,cr,ao,cy⟩:=Ke bN hD ag g1 aM bv;and_intros;clear bv g2 R g1 aM;have t3:Q4 H0 H3:=λf xs b=>ao f _ b (Zo b ag (by intro z;cases z));have a9:=bD.Qs t3;have bg:H3 m=Ga (.ins CW ax (wfl p (k0+1))):=ao _ _ bf (Zo bf ag (by intro z;cases z));have W3:Rv CW H3 m p:={_,_,bg};have x3:Pl P w C H3 p a v d u:=by obtain⟨dx,o1⟩:=x0.ob;obtain⟨us,u1,_⟩:=x0.th;obtain⟨ws,w1,_⟩:=x0.fo;obtain⟨kv,D,_⟩:=x0.kn;exact x0.keep (λA b=>ao _ _ b (Zo o1 ag (by intro z;cases z))) (λA b=>ao _ _ b (Zo u1 ag (by intro z;cases z))) (λA b=>ao _ _ b (Zo w1 ag (by intro z;cases z))) (λA b=>ao _ _ b (Zo D.at_ ag (by intro z;cases z))) t3
 have F3:gH a v d m D D S S1 aa H3:={λf A b _ _ _ h4 h5 _=>ao f A (ai f A b h4) (λz=>h5 (z▸hD)),λ_ o=>.inl o,λf l=>(cr f l).elim .inl λz=>.inr (bM f z),λ_ o=>o,cw,λf l=>bM f (cy f l)};have bI:∀c,c∉S->aa c≠Gh->c∉S1:=λc R h2 z=>by
  rcases F3.Qg5 c z with z|z
  .exact R z
  .exact h2 z
 have bU:a∉S1:=bI a aS (by rw[u1];intro z;cases z);have b7:v∉S1:=bI v fS (by rw[w1];intro z;cases z);obtain⟨es,hl,cS,b3⟩:=bh.ls J lS;exists _,Xb,_,Xb,J,ar,t,es,u,Xb,hl,b3,x3.ok,a9,Z3,bt,λj ej=>?_
 .have b:=vZ x.cl (List.mem_of_getElem? ej);refine{_,Xb,Gf,by rw[Gr nofun];rfl,Yp {_,Xb,q j D S1 H3 W3 (by rw[b];exact x3) (by rw[b];exact bh.mono (by ext)) (by rw[b];exact ej) F3}}
 refine{_,Xb,Gs,by rw[Gw rfl];rfl,Q5 ?_};subst_vars;obtain⟨Y,wd,E,e,rfl,rfl,bq,a7⟩:=a9.inv;and_intros;simp only[Th.size,Th.depth]at hm ch ca bt;have ay:okL e=Gf:=by simp only[Th.ok,Tn]at Z3;exact Z3.2
 have cl:=a7.length;have cT:=Ze e;refine{_,Xb,_,Xb,Y,_,Xb,Q9.of bq,Wc _ _,λrA bx=>?_};rw[gX];have sA:=Qf bx (.tup E);refine{rA,Xb,{_,Q9.of Qb},λpA a6=>?_};refine Hf (K:=K) (a:=rA) (xs:=E) (λi ys ah H2=>(∃x0,ah=[x0])/\Q6 (zj H3 rA (.tup E)) H2) (small (by ext)) {{_,Xb},Qf a6 (.lst [])} (λi ys ah H2 _ o=>Q9.of (o.2 _ _ Qb)) ?_ ?_
 .rintro i y ys ah H2 hi ⟨⟨x0,rfl⟩,aZ⟩ gp;subst_vars;obtain⟨ty,Q,hy⟩:=a7.get hi;obtain⟨f,wb,us,qs,rfl,rfl,l,_⟩:=hy.inv;and_intros;exists _,Xb,f,_,Xb,.inr (Q9.of (aZ _ _ (sA _ _ l))),_,_,Xb,Xb,_,Xb;refine Uu (λ_=>?_) (λ_=>{gp,{_,Xb},aZ});exact{_,Xb,gp,{_,Xb},λc A b=>by rw[Qg (Qd b a6)];exact aZ _ _ b}
 rintro ys ah O cj ⟨_,gA⟩ gp;have ak:Q6 H3 O:=sA.trans gA;exists pA,ys,Xb,.inl (Za.of gp);exists _,Xb,m,CW,ax,_,_,Xb,ak _ _ bg,X.cl,X.nS,qp _ _,_,_,Xb,Xb,_,Xb;refine BH (λXx=>Uu (λ_=>{_,Xb,_,Xb,_,_,Xb,by ext,λr=>Xx r}) (λ_=>Xx 0)) (λsh=>?_);have W4:Rv CW O m p:={_,_,ak _ _ bg};have x4:=x3.same ak;have az:=bh.same ak;have F4:gH a v d m D D S S1 aa O:=F3.trans (gH.of ak);have bE:=a9.same ak;have a0:=ak _ _ bq;have a8:=a7.same ak;generalize (ys.length:Int)=ba;clear gA gp cj bx a6;refine{_,Xb,Gz _,λh T=>?_};have s4:=Qf T (.lst []);refine{_,Xb,_,Xb,Y,_,Xb,Q9.of (s4 _ _ a0),Wc _ _,λr2 bw=>?_};rw[gX];have s5:=Qf bw (.tup E);have aR:=s4.trans s5;have q5:=s5 _ _ (@Qb O h (.lst []));have r5:=@Qb (zj O h (.lst [])) r2 (.tup E);have cf:h≠r2:=Qd Qb bw;have x5:=x4.same aR;have cG:=az.same aR;have W5:Rv CW (zj (zj O h (.lst [])) r2 (.tup E)) m p:=by obtain⟨dx,k,A⟩:=W4;exact{dx,k,aR _ _ A}
 generalize cL:zj (zj O h (.lst [])) r2 (.tup E)=H5 at*;subst_vars;obtain⟨cV,cz,cI⟩:=x4.th;obtain⟨cX,b8,_⟩:=x4.fo;obtain⟨cO,D3,_⟩:=x4.kn;obtain⟨bY,k4,o4⟩:=W4;and_intros;have bJ:h≠a:=λz=>by rw[z,cz]at T;cases T
 have bK:h≠v:=λz=>by rw[z,b8]at T;cases T
 have cv:h≠d:=λz=>by rw[z,D3.at_]at T;cases T
 have bL:h≠m:=λz=>by rw[z,o4]at T;cases T
 have cu:h∉S1:=λz=>by obtain⟨xs,o,_⟩:=az.ls _ z;rw[o]at T;cases T
 have ct:h∉D:=λz=>by obtain⟨xs,o,_⟩:=az.at_ _ z;rw[o]at T;cases T
 have W4:Rv CW O m p:=⟨bY,k4,o4⟩;refine⟨r2,Xb,{_,Q9.of r5},nZ (K:=K) (a:=r2) (xs:=E) (λi ah B=>iL λ(I G:List Gc)(ds:Gc)(g:List Nat)(au:Option V)=>kL (ah=[Ga (.ref m),Ga (.ref Y),Ga (.ref dn),Ga (.int sp),Ga (.ref J),Ga .non,Ga (.int ba),Ga (.int sh),Ga (.ref ds),Ga (.ref h),au]) (Rv CW B m p) (Pl P w C B p a v d (Yy u (Zf (e.take i)))) (gD B I G (aj+1+2*Qx (e.take i)) (Yy u (Zf (e.take i)))) (ds∈I) (gH a v d m D I S1 G O B) (h∉I) (h∉G) (a∉G) (v∉G) (B h=Ga (.lst (g.map jv))) (g.length=i) (∀(k j:Nat),g[k]?=Ga j->∃s,e[k]?=Ga s/\(Yy u (Zf (e.take i)))[j]?=Ga s) (B r2=Ga (.tup E)))
  {D,S1,dn,[],_,Xb,W5,?_,?_,hD,gH.of aR,ct,cu,bU,b7,q5,Xb,λk j o=>by simp at o,r5} (by rintro i ah B _ ⟨_,_,_,_,_,_,_,_,_,_,_,_,_,_,_,_,_,_,o⟩;exact Q9.of o) ?_ ?_⟩
 .simp only[List.take_zero,Zf,Iv];exact x5
 .simp only[List.take_zero,Zf,Qx,Iv,Nat.mul_zero,L4];exact cG
 .intro i y;have eS:∀ty,e[i]?=Ga ty->Yy (Yy u (Zf (e.take i))) ty.inside=Yy u (Zf (e.take (i+1))):=λty Q=>by rw[CV e i ty Q,Uz]
  have bp:∀(ty:Th)(aH:Gc)(D7 U:List Gc)(M:Hp)(g:List Nat)(j:Nat)(au:Option V),e[i]?=Ga ty->g.length=i->(∀(k j:Nat),g[k]?=Ga j->∃s,e[k]?=Ga s/\(Yy u (Zf (e.take i)))[j]?=Ga s)->Rv CW M m p->Pl P w C M p a v d (Yy u (Zf (e.take (i+1))))->gD M D7 U (aj+1+2*Qx (e.take (i+1))) (Yy u (Zf (e.take (i+1))))->aH∈D7->gH a v d m D D7 S1 U O M->h∉D7->h∉U->a∉U->v∉U->M h=Ga (.lst (g.map jv))->M r2=Ga (.tup E)->(Yy u (Zf (e.take (i+1))))[j]?=Ga ty->
    iL λ(I G:List Gc)(ds:Gc)(bb:List Nat)(cF:Option V)=>kL ([Ga (.ref m),Ga (.ref Y),Ga (.ref dn),Ga (.int sp),Ga (.ref J),Ga .non,Ga (.int ba),Ga (.int sh),Ga (.ref aH),Ga (.ref h),au]=[Ga (.ref m),Ga (.ref Y),Ga (.ref dn),Ga (.int sp),Ga (.ref J),Ga .non,Ga (.int ba),Ga (.int sh),Ga (.ref ds),Ga (.ref h),cF]) (Rv CW (zj M h (.lst (g.map jv++[jv j]))) m p) (Pl P w C (zj M h (.lst (g.map jv++[jv j]))) p a v d (Yy u (Zf (e.take (i+1))))) (gD (zj M h (.lst (g.map jv++[jv j]))) I G (aj+1+2*Qx (e.take (i+1))) (Yy u (Zf (e.take (i+1))))) (ds∈I) (gH a v d m D I S1 G O (zj M h (.lst (g.map jv++[jv j])))) (h∉I) (h∉G) (a∉G) (v∉G) ((zj M h (.lst (g.map jv++[jv j]))) h=Ga (.lst (bb.map jv))) (bb.length=i+1) (∀(k j:Nat),bb[k]?=Ga j->∃s,e[k]?=Ga s/\(Yy u (Zf (e.take (i+1))))[j]?=Ga s) ((zj M h (.lst (g.map jv++[jv j]))) r2=Ga (.tup E)):=by
   intro ty aH D7 U M g j au Q lw ab W7 x7 aE bX H aP aQ aV aY q7 r7 e7;obtain⟨bZ,k7,o7⟩:=W7;exists D7,U,aH,g++[j],au,Xb,{bZ,k7,by rw[Qg (Gn bL)];exact o7},x7.but q7 bJ bK,?_,bX,?_,aP,aQ,aV,aY,?_,by rw[List.length_append,List.length_singleton,lw],λk j' hk=>?_
   .refine aE.keep (λf l A b=>?_) (λf l A b=>?_) (Z0 λxs b=>by rw[q7]at b;cases b) (λ_ _ o=>o) (Gm _)
    .rw[Qg (show f≠h fromλz=>aP (by rw[<-z];exact l))];exact b
    .rw[Qg (show f≠h fromλz=>aQ (by rw[<-z];exact l))];exact b
   .refine{λf A b R h2 h3 h4 h5 h6=>?_,H.Qmc,H.Qg5,H.Qo8,H.Qq5,λf l=>?_}
    .rw[Qg (Qd b T)];exact H.keep f A b R h2 h3 h4 h5 h6
    .by_cases bs:f=h
     .subst bs;rw[Qb]at l;cases l
     .rw[Qg bs]at l;exact H.there f l
   .rw[Qb,List.map_append];rfl
   .rcases Tp k g.length with a4|a4
    .rw[List.getElem?_append_left a4]at hk;obtain⟨s0,R,h2⟩:=ab k j' hk;exists s0,R;rw[<-eS ty Q];exact nI h2
    .rw[List.getElem?_append_right a4]at hk;have h0:k - g.length=0:=by have:=(List.getElem?_eq_some_iff.mp hk).1;simp at this;ext
     rw[h0]at hk;simp at hk;subst hk;have:k=i:=by ext
     subst this;exact⟨ty,Q,e7⟩
   .rw[Qg (Gn cf)];exact r7
  refine' Hl (F:=λbW H'=>E[i]?=Ga y/\∃(D' S':List Gc)(g:List Nat),Rv CW H' m p/\Pl P w C H' p a v d (Yy u (Zf (e.take i)))/\gD H' D' S' (aj+1+2*Qx (e.take i)) (Yy u (Zf (e.take i)))/\bW∈D'/\gH a v d m D D' S1 S' O H'/\h∉D'/\h∉S'/\a∉S'/\v∉S'/\H' h=Ga (.lst (g.map jv))/\g.length=i/\(∀(k j:Nat),g[k]?=Ga j->∃s,e[k]?=Ga s/\(Yy u (Zf (e.take i)))[j]?=Ga s)/\H' r2=Ga (.tup E)) (λXx=>?myk) ?myh
  case myk=>
   rintro ah B hi ⟨I,G,ds,g,au,rfl,W6,L,ac,aw,F6,ap,aq,ad,af,N,lw,ab,r6⟩;have cd:i<E.length:=(List.getElem?_eq_some_iff.mp hi).1;obtain⟨ty,Q,hy⟩:=a8.get hi;have aB:ty∈e:=List.mem_of_getElem? Q;have be:ty.ok=Gf:=by rw[V4,List.all_eq_true]at ay;exact ay ty aB
   have m2:=Wd aB;have m4:=R4 e i ty Q;have t6:Q4 O B:=F6.Qs W4 x4 az;have a1:=t6 _ _ a0;obtain⟨ae,k6,Z⟩:=W6;have W6:Rv CW B m p:=⟨ae,k6,Z⟩;have bu:=Xx ds B ⟨hi,I,G,g,W6,L,ac,aw,F6,ap,aq,ad,af,N,lw,ab,r6⟩;dsimp only[V2,List.set_cons_succ,List.set_cons_zero]
   refine' AL (λYx bi=>?mykk) ?mythn ?myels
   case mykk=>refine{_,Xb,_,_,Xb,Xb,_,Xb,Uu (λ_=>?_) (λ_=>Q5 bi)};refine{_,Xb,_,_,Xb,Xb,_,Xb,Uu (λ_=>Yp Yx) (λ_=>?_)};exact{_,Xb,m,CW,ae,_,_,Xb,Z,X.cl,X.nS,qp _ _,_,_,Xb,Xb,_,Xb,Uu (λ_=>Yx) (λ_=>bi)}
   case myels=>
    by_cases a5:g=[]
    .exact{_,Xb,Gs,.inl {_,Za.of N,by rw[a5];rfl},Q5 (Q5 bu)}
    .have cM:0<g.length:=List.length_pos_iff.mpr a5;have bc:(g.map jv).length=g.length:=List.length_map _;obtain⟨vp,bj⟩:∃vp,E[i - 1]?=Ga vp:={_,List.getElem?_eq_getElem (show i - 1<E.length by ext)};obtain⟨tp,aX,ci⟩:=a8.get bj;have cp:tp.ok=Gf:=by rw[V4,List.all_eq_true]at ay;exact ay tp (List.mem_of_getElem? aX)
     have m3:=Wd (List.mem_of_getElem? aX);have bV:atI (V.str wd::E) (((g.map jv).length:Nat):Int)=Ga vp:=by refine Qj ?_;rw[bc,lw,show i=(i - 1)+1 by ext,List.getElem?_cons_succ];exact bj
     refine{_,Xb,Gf,.inl {_,Za.of N,by cases g with|nil=>exact absurd rfl a5|cons _ _=>rfl},Yp ?_};exists _,Xb,_,Xb,_,Xb,h,g.map jv,Xb,.inl (Za.of N),Y,_,_,vp,Xb,Xb,Q9.of a1,bV,_,_,(hy.Qs t6).dt,(ci.Qs t6).dt,Wi _ be,Wi _ cp,?_,_,Xb
     .rw[Xl,Xl];ext
     rw[O1];by_cases a3:ty=tp
     .rw[Gw a3];refine Yp ?_;obtain⟨vl,al,bl⟩:=IH (g.map jv) (by ext);rw[List.getElem?_map,bc]at bl;subst_vars;obtain⟨jl,ce,rfl⟩:∃jl,g[g.length - 1]?=Ga jl/\vl=jv jl:=by
       cases b:g[g.length - 1]? with
       |none=>rw[b]at bl;cases bl
       |some jl=>rw[b]at bl;exact{jl,Xb,(Ti bl).symm}
      obtain⟨sl,bz,bC⟩:=ab _ _ ce;and_intros;have b6:sl=ty:=by rw[lw,aX]at bz;rw[a3];exact(Ti bz).symm
      subst b6;have eD:Yy u (Zf (e.take (i+1)))=Yy u (Zf (e.take i)):=by rw[<-eS sl Q];exact vZ L.cl (List.mem_of_getElem? bC)
      exists _,Xb,.inl {Xb,_,Za.of N},_,Xb,_,Xb,h,g.map jv,_,_,Xb,Xb,Za.of N,al,h,g.map jv,jv jl,Xb,Xb,N,(by rw[bc,GV];ext);exact bp sl ds I G B g jl _ Q lw ab W6 (by rw[eD];exact L) (by rw[eD];exact ac.mono (by ext)) aw F6 ap aq ad af N r6 (by rw[eD];exact bC)
     .rw[Gr a3];exact Q5 bu
   case mythn=>
    intro cc aA;have sc:=Qf aA (.dT []);refine Xx cc (zj B cc (.dT [])) {hi,cc::I,G,g,{ae,k6,sc _ _ Z},L.same sc,ac.more aA,List.mem_cons_self,?_,?_,aq,ad,af,sc _ _ N,lw,ab,sc _ _ r6}
    .have H:=F6.trans (gH.of (D:=I) (S:=G) sc);exact{H.keep,λf l=>(List.mem_cons.mp l).elim (λz=>.inr (by rw[z];exact F6.there _ aA)) (H.Qmc f),H.Qg5,λf l=>List.mem_cons_of_mem _ (H.Qo8 f l),H.Qq5,H.there}
    .intro z;rcases List.mem_cons.mp z with z|z
     .rw[<-z,N]at aA;cases aA
     .exact ap z
  case myh=>
   rintro ds B ⟨hi,I,G,g,W6,L,ac,aw,F6,ap,aq,ad,af,N,lw,ab,r6⟩;have cd:i<E.length:=(List.getElem?_eq_some_iff.mp hi).1;obtain⟨ty,Q,hy⟩:=a8.get hi;have aB:ty∈e:=List.mem_of_getElem? Q;have m1:=R4 e i ty Q;have m2:=Wd aB;have m3:=Vj e (i+1);have be:ty.ok=Gf:=by rw[V4,List.all_eq_true]at ay;exact ay ty aB
   have t6:Q4 O B:=F6.Qs W4 x4 az;have an:=pT (Zf (e.take i)) u;rw[Uy]at an;obtain⟨ae,k6,Z⟩:=W6;have W6:Rv CW B m p:=⟨ae,k6,Z⟩;refine{_,Xb,.inl {Xb,_,Za.of N},_,Xb,m,ae,_,Xb,Z,xx _ _,_,Xb,_,Xb,sh,sp,Xb,Xb,λz=>?_};refine{m,p,ds,y,z,ty,a,v,d,I,G,_,_,Xb,W6,L,ac,aw,ad,af,hy.Qs t6,be,by ext,by ext,by ext,by ext,λj D7 U M W7 x7 aE e7 H=>?_};have q7:M h=Ga (.lst (g.map jv)):=H.keep _ _ N bJ bK cv bL ap aq;have bd:∀c,c∉G->B c≠Gh->c∉U:=λc R h2 z=>by
    rcases H.Qg5 c z with z|z
    .exact R z
    .exact h2 z
   have aQ:h∉U:=bd h aq (by rw[N];intro z;cases z);have aP:h∉D7:=λz=>by
    rcases H.Qmc _ z with z|z
    .exact ap z
    .rw[N]at z;cases z
   subst_vars;obtain⟨cA,aT,_⟩:=L.th;obtain⟨cE,aI,_⟩:=L.fo;and_intros;have aV:a∉U:=bd a ad (by rw[aT];intro z;cases z);have aY:v∉U:=bd v af (by rw[aI];intro z;cases z);exists h,g.map jv,jv j,Xb,Xb,q7,(by rw[List.length_map,GV];ext);have r7:M r2=Ga (.tup E):=H.Qs W6 L ac _ _ r6;rw[eS ty Q]at x7 aE e7;have eM:aj+1+2*Qx (e.take i)+2*ty.size=aj+1+2*Qx (e.take (i+1)):=by ext
   rw[eM]at aE;exact bp ty ds D7 U M g j _ Q lw ab W7 x7 aE (H.Qo8 _ aw) (F6.trans H) aP aQ aV aY q7 r7 e7
 .rintro ah B ⟨I,G,ds,g,au,rfl,W6,L,ac,aw,F6,ap,aq,ad,af,N,lw,ab,r6⟩;have ep:e.take E.length=e:=by rw[cl,List.take_length]
  rw[ep]at L ac ab;have t6:Q4 O B:=F6.Qs W4 x4 az;have a1:=t6 _ _ a0;obtain⟨b1,cq⟩:=L.ob;obtain⟨ae,k6,Z⟩:=W6;have ck:=pT (Zf e) u;rw[Uy]at ck;have aO:=F6.Qq5 J lS;have cs:∀s0∈e,s0∈Yy u (Zf e):=λs0 cg=>(oy _ _ _).mpr (.inr (by rw[Xz,List.mem_flatMap];exact{s0,cg,yf s0}));have b4:g=e.map λs0=>(Yy u (Zf e)).idxOf s0:=by
   refine List.ext_getElem? λk=>?_;rw[List.getElem?_map];cases b:g[k]? with
   |none=>
    have:g.length<=k:=by simpa using b
    rw[List.getElem?_eq_none (by ext)];rfl
   |some j0=>obtain⟨s0,R,h2⟩:=ab k j0 b;rw[R,TV,R9 L.nd h2]
  refine{_,Xb,m,CW,ae,_,_,Xb,Z,X.cl,X.nP,JG _ _,p,b1,_,Xb,cq,Kt _ _ _,_,Xb,_,Xb,Y,_,_,.str wd,Xb,Xb,Q9.of a1,Rz _ _,_,Xb,h,_,Xb,.inl {Za.of N,λe0 cb=>?_}};have s6:=Qf cb (.tup (g.map jv));refine{by show 2<=Gj;decide,λc0 b9=>?_};have s7:=Qf b9 (.tup [.str wd,.ref e0]);have aC:=s6.trans s7;refine{p,c0,.ref Y,.mk wd e,a,v,d,_,Xb,L.same aC,(bE.Qs t6).same aC,Z3,by simp only[Th.depth];ext,cs,{c0,e0,Xb,Qb,?_},by ext,λj H8 x8 e8 F8=>?_}
  .rw[s7 _ _ Qb,b4];rfl
  have eI:(Th.mk wd e).inside=Zf e++[Th.mk wd e]:=by simp[Th.inside]
  have eD:Yy u (Th.mk wd e).inside=if Th.mk wd e∈Yy u (Zf e)then Yy u (Zf e)else Yy u (Zf e)++[Th.mk wd e]:=by rw[eI,HH]
  rw[<-eD]at x8 e8;have cx:Q4 B H8:=λf xs b=>(F8.Qs (L.same aC)) f xs (aC _ _ b);have av:gE a v d B H8:=(gE.of aC).trans F8;subst_vars;obtain⟨aW,an,cR,b2⟩:=ac.ls J aO;have bG:J≠a:=λz=>ad (z▸aO);have bH:J≠v:=λz=>af (z▸aO);obtain⟨cA,aT,_⟩:=L.th;obtain⟨cE,aI,_⟩:=L.fo;obtain⟨cP,aG,_⟩:=L.kn;and_intros;have cn:J≠d:=Zo an aG.at_ (by intro z;cases z);have co:J≠m:=Zo an Z (by intro z;cases z);have aL:=av.keep _ _ an bG bH cn;have o8:=av.keep _ _ Z (Zo Z aT (by intro z;cases z)) (Zo Z aI (by intro z;cases z)) (Zo Z aG.at_ (by intro z;cases z));refine{_,Xb,.inl {Xb,_,Za.of aL},_,Xb,_,Xb,by show 2<=Gj;decide,λc9 a2=>?_};have s9:=Qf a2 (.tup [.ref Y,jv j]);exists J,aW,.ref c9,Xb,Xb,s9 _ _ aL,(by rw[GV];ext);have x9:=x8.same s9;have sE:(Th.mk wd e).size=Qx e+1:=by simp[Th.size]
  have aD:Q4 B (zj (zj H8 c9 (.tup [.ref Y,jv j])) J (.lst (aW++[.ref c9]))):=λf xs b=>by rw[Qg (Zo b an (by intro z;cases z))];exact s9 _ _ (cx _ _ b)
  have cm:(zj (zj H8 c9 (.tup [.ref Y,jv j])) J (.lst (aW++[.ref c9]))) c9=Ga (.tup [.ref Y,jv j]):=by rw[Qg (λz=>by rw[z,aL]at a2;cases a2),Qb]
  refine{_,Xb,q j I G _ {ae,k6,by rw[Qg (Gn co)];exact s9 _ _ o8} (x9.but (s9 _ _ aL) bG bH) {λf l=>?_,λf l=>?_} e8 ?_}
  .obtain⟨kv,k1,k2,k3⟩:=ac.at_ f l;refine{kv,?_,by rw[sE];ext,k3};rw[Qg (Zo k1 an (by intro z;cases z))];exact s9 _ _ (av.keep _ _ k1 (Zo k1 aT (by intro z;cases z)) (Zo k1 aI (by intro z;cases z)) (Zo k1 aG.at_ (by intro z;cases z)))
  .by_cases aK:f=J
   .subst aK;refine{_,Qb,by rw[List.length_append,List.length_singleton,sE];ext,λb he=>?_};rcases List.mem_append.mp he with he|he
    .subst_vars;obtain⟨c,ar,j0,t0,k1,k2,k3,k4⟩:=b2 b he;and_intros;exists c,ar,j0,t0,k1,aD _ _ k2,k3.Qs aD;rw[eI,Uz];exact nI k4
    .rw[List.mem_singleton]at he;subst he;exact{c9,.ref Y,j,_,Xb,cm,(bE.Qs t6).Qs aD,e8}
   .obtain⟨b5,k1,k2,k3⟩:=ac.ls f l;refine{b5,?_,by rw[sE];ext,λb he=>?_}
    .rw[Qg aK];exact s9 _ _ (av.keep _ _ k1 (λz=>ad (z▸l)) (λz=>af (z▸l)) (Zo k1 aG.at_ (by intro z;cases z)))
    .subst_vars;obtain⟨c,ar,j0,t0,k4,k5,k6,k7⟩:=k3 b he;and_intros;exists c,ar,j0,t0,k4,aD _ _ k5,k6.Qs aD;rw[eI,Uz];exact nI k7
  .have am:=F4.trans F6;refine{λf A b R h2 h3 h4 h5 h6=>?_,am.Qmc,am.Qg5,am.Qo8,am.Qq5,λf l=>?_}
   .have e9:=am.keep f A b R h2 h3 h4 h5 h6;have aK:f≠J:=λz=>by
     rcases am.Qg5 J aO with w1|w1
     .exact h6 (z▸w1)
     .rw[<-z,b]at w1;cases w1
    rw[Qg aK];exact s9 _ _ (av.keep _ _ e9 R h2 h3)
   .refine am.there f (av.there f ?_);by_cases br:f=J
    .subst br;rw[Qb]at l;cases l
    .rw[Qg br]at l;exact s9.free l
theorem B5:Qy P w K mg base Z5 1 f fd ["self","thing","near","spare"] (jL P w C CW 0):=by
 have g:∀b H Q E,¬jL P w C CW 0 b H Q E:=λb H Q E h=>by obtain⟨o,p,i,v,k,t,a,f,d,D,S,m,l,_,_,_,_,_,_,_,_,_,j,_⟩:=h;have:=oO t;lia
 exact{λb H Q E h=>absurd h (g b H Q E),λA c s H e n b Q E _ _ _ _ h=>absurd h (g b H Q E)}
theorem rD{f i g h v C e:Gc}{j d a c b:Tq}(F:We K "place_within" "Walk.place_within" Y0 f j)(T:hJ K mg C)(p:kM K mg e)(B:J2 mg)(E:Ye K e "place_within" f)(s:zk K j ["self","thing","near","spare"] [])
  (o:Qy P w K mg base Z5 1 i d ["thing"] nX)(z:KI K i)(u:zk K d ["thing"] [])(H:MG mg "top_words" i)
  (k:Qy P w K mg base Z5 1 g a ["met","thing"] pC)(x:KI K g)(q:zk K a ["met","thing"] [])(A:MG mg "place_among" g)
  (m:Qy P w K mg base Z5 1 h c ["spare","inner"] oq)(y:KI K h)(t:zk K c ["spare","inner"] [])(G:MG mg "share_of" h)
  (D:Ye K C "place_by_form" v)(l:Qy P w K mg base Z5 1 v b ["self","thing","form"] (nj P w C))(r:zk K b ["self","thing","form"] []):∀n:Nat,Qy P w K mg base Z5 (n+1) f j ["self","thing","near","spare"] (jL P w C e n)
 |0=>B5
 |n+1=>Ca F T p B E s (rD F T p B E s o z u H k x q A m y t G D l r n) o z u H k x q A m y t G D l r
theorem AJ:Q3 ["self","thing"] ["self","thing"] (Ql oH):=by eq_refl
theorem IP{D E:Gc}{G H:Tq}(F:We K "place_of" "Places.place_of" oH f0 fd)(m:kM K mg CW)(W:Mk K CW D)(T:Qy P w K mg base Z5 1 D G ["self","places"] (qI CW))(bI:zk K G ["self","places"] [])(mW:Ye K CW "place_within" E)(bW:zk K H ["self","thing","near","spare"] [])
  (S:Qy P w K mg base Z5 51 E H ["self","thing","near","spare"] (jL P w C CW 50)):Qy P w K mg base Z5 52 f0 fd ["self","thing"] (wH P w C):=by
 refine F.ok AJ (λvs g X R o=>?_) (λad ac ah s g vs X R L o=>?_)
 .obtain⟨p,u,t,a,B,d,Q,rfl,_⟩:=o;rfl
 obtain⟨p,u,t,a,B,d,Q,rfl,x,ht,Z,J,af,q⟩:=o;obtain⟨u2,mN,rN⟩:=m.walks;have ab:Yd 2 _:=L.mono (by decide);exists _,Qh (Qt (Zh (pH W T ab rfl m.mgC bI .nil Q7 (Qa (pv 0) Qe)) m.cl mW S L bW .nil Q7 (Qa (pv 1) (Qa Oj (Qa (O5 rfl mN rN) Qe)))));refine{_,Xb,λf n r aa ae=>?_};have s0:Q6 g (zj (zj g n (.own f)) f (.ins CW n [])):=λc e b=>by rw[Qg (Qd b r),Qg (Qd b aa)];exact b
 refine{f,n,p,Xb,Qb,λV Y k1 ai=>{Xb,?_}};have N:Q6 g V:=λc e b=>k1 c e (s0 c e b) (Qd b r);obtain⟨A,kw,M⟩:=Y;refine{f,A,_,Xb,M,xx _ _,_,Xb,λy I=>?_};have O:=Qf I (.dT []);have l:=N.trans O;refine{f,p,y,u,_,t,a,B,d,[y],[],0,Q,Xb,{A,kw,O _ _ M},x.same l,{λh i=>?_,λag hl=>nomatch hl},by simp,by simp,by simp,ht.same l,Z,J,J,by lia,by lia,λj D' S' U W' x' n' e' v=>?_}
 .rw[List.mem_singleton]at i;subst i;exact{[],Qb,Gm _,λk u b=>by rw[m8]at b;cases b}
 .refine q j U x' e' {λh e b R X h3=>v.keep h e (l _ _ b) R X h3 (Qd b r) (λz=>?_) (by simp),λh i=>l.free (v.there h i)};rw[List.mem_singleton]at z;exact Qd (N _ _ b) I z
end
end K03
namespace Nt
variable{up:Nat->Option Nat}{p a b m n q x lo hi:Nat}{l S cl:List Nat}
inductive Ch(up:Nat->Option Nat):Nat->List Nat->Prop
 |top {p:Nat}:up p=Gh->Ch up p [p]
 |step {p q:Nat} {l:List Nat}:up p=Ga q->Ch up q l->Ch up p (p::l)
theorem Ch.uniq{a:Nat->Option Nat}:∀{p:Nat}{l m:List Nat},Ch a p l->Ch a p m->l=m
 |_,_,_,.top e,.top _=>rfl
 |_,_,_,.top e,.step f _=>by rw[e]at f;cases f
 |_,_,_,.step e _,.top f=>by rw[e]at f;cases f
 |_,_,_,.step e h,.step f k=>by rw[e]at f;cases f;rw[Ch.uniq h k]
theorem Ch.ne(h:Ch up p l):l≠[]:=by cases h<;>simp
theorem Ch.head(h:Ch up p l):∃r,l=p::r:=by cases h<;>exact{_,Xb}
theorem Ch.suffix{d:Nat->Option Nat}:∀{p:Nat}{l a:List Nat}{z:Nat}{b:List Nat},Ch d p l->l=a++z::b->Ch d z (z::b)
 |p,_,[],z,b,h,e=>by simp only[List.nil_append]at e;obtain⟨r,c⟩:=h.head;rw[e]at c;cases c;rw[<-e];exact h
 |p,_,x::a,z,b,.top _,e=>by simp at e
 |p,_,x::a,z,b,.step f h,e=>by simp only[List.cons_append,List.cons.injEq]at e;exact Ch.suffix h e.2
theorem Ch.nodup{c:Nat->Option Nat}:∀{p:Nat}{l:List Nat},Ch c p l->l.Nodup
 |_,_,.top _=>by simp
 |p,_,.step (l:=l) e h=>by rw[List.nodup_cons];refine{λg=>?_,h.nodup};obtain⟨a,b,rfl⟩:=List.append_of_mem g;have d:=h.suffix rfl;have f:Ch c p (p::(a++p::b)):=.step e h;have:=congrArg List.length (d.uniq f);simp at this;lia
def Z1(l:List Nat):Nat:=l.getLastD 0
theorem oj(h:l≠[]):Z1 (p::l)=Z1 l:=by
 cases l with
 |nil=>exact absurd rfl h
 |cons x r=>simp[Z1,List.getLastD]
theorem J4{a b:List Nat}(h:b≠[]):Z1 (a++b)=Z1 b:=by
 induction a with
 |nil=>rfl
 |cons x r c=>rw[List.cons_append,oj (by simp[h]),c]
theorem Ch.Oo{z:Nat}(h:Ch up p l)(c:z∈l):∃m,Ch up z m/\Z1 m=Z1 l:=by obtain⟨a,b,rfl⟩:=List.append_of_mem c;exact{z::b,h.suffix Xb,by rw[J4 (by simp)]}
def g9(up:Nat->Option Nat)(p:Nat)(v:Nat):Nat->Option Nat:=λq=>if q=p then Ga v else up q
def Xw(up:Nat->Option Nat):Nat->List Nat->(Nat->Option Nat)
 |_,[]=>up
 |over,c::r=>Xw (g9 up c over) c r
theorem U9:∀{l:List Nat}{a:Nat->Option Nat}{over q:Nat},q∉l->Xw a over l q=a q
 |[],_,_,_,_=>rfl
 |c::r,a,over,q,h=>by simp only[List.mem_cons,not_or]at h;show Xw (g9 a c over) c r q=_;rw[U9 h.2];unfold g9;rw[Gi h.1]
theorem Ch.nt{b:Nat->Option Nat}{a:List Nat}{over:Nat}:∀{p:Nat}{l:List Nat},Ch b p l->(∀z∈l,z∉a)->Ch (Xw b over a) p l
 |p,_,.top e,h=>.top (by rw[U9 (h p (by simp))];exact e)
 |p,_,.step e k,h=>.step (by rw[U9 (h p (by simp))];exact e) (Ch.nt k λz c=>h z (by simp[c]))
theorem nq:∀{low:List Nat}{up:Nat->Option Nat}{over:Nat}{m:List Nat},low.Nodup->Ch (Xw up over low) over m->∀z∈low,∃l,Ch (Xw up over low) z l/\Z1 l=Z1 m
 |[],_,_,_,_,_,z,a=>by simp at a
 |c::r,up,over,m,b,f,z,a=>by
  rw[List.nodup_cons]at b;have g:Xw up over (c::r) c=Ga over:=by show Xw (g9 up c over) c r c=_;rw[U9 b.1];unfold g9;rw[Gp rfl]
  have e:Ch (Xw up over (c::r)) c (c::m):=.step g f;have d:Z1 (c::m)=Z1 m:=oj f.ne;rcases List.mem_cons.mp a with rfl|a
  .exact{_,e,d}
  .obtain⟨l,h,i⟩:=nq (low:=r) (up:=g9 up c over) (over:=c) (m:=c::m) b.2 e z a;exact{l,h,by rw[i,d]}
theorem HI{a:List Nat}{over:Nat}{m:List Nat}(nd:a.Nodup)(g:Ch (Xw up over a) over m):∀{p:Nat}{l:List Nat},Ch up p l->(∃z∈l,z∈a)->∃d,Ch (Xw up over a) p d/\Z1 d=Z1 m:=by
 intro p l h;induction h with
 |@top p e=>rintro⟨z,b,c⟩;simp at b;subst b;exact nq nd g _ c
 |@step p q l e k j=>
  rintro⟨z,b,c⟩;by_cases f:p∈a
  .exact nq nd g p f
  .rcases List.mem_cons.mp b with rfl|b
   .exact absurd c f
   .obtain⟨d,i,n⟩:=j ⟨z,b,c⟩;exact{p::d,.step (by rw[U9 f];exact e) i,by rw[oj i.ne,n]}
theorem ya:∀{l:List Nat}{d:Nat->Option Nat}{over p q:Nat},l.Nodup->Xw d over l p=Ga q->d p=Ga q\/(∃r,l=p::r/\q=over)\/∃a b,l=a++q::p::b
 |[],_,_,_,_,_,h=>.inl h
 |c::r,d,over,p,q,f,h=>by
  rw[List.nodup_cons]at f;have h:Xw (g9 d c over) c r p=Ga q:=h;rcases ya f.2 h with h|⟨g,rfl,rfl⟩|⟨a,b,rfl⟩
  .unfold g9 at h;by_cases e:p=c
   .rw[Gp e]at h;cases h;subst e;exact .inr (.inl ⟨r,Xb,Xb⟩)
   .rw[Gi e]at h;exact .inl h
  .exact .inr (.inr {[],g,Xb})
  .exact .inr (.inr {c::a,b,Xb})
theorem Ch.hX{c:Nat->Option Nat}:∀{a:List Nat}{p x y:Nat}{b l:List Nat},Ch c p l->l=a++x::y::b->c x=Ga y
 |[],p,x,y,b,_,.top _,e=>by simp at e
 |[],p,x,y,b,_,.step f h,e=>by simp only[List.nil_append,List.cons.injEq]at e;obtain⟨rfl,rfl⟩:=e;obtain⟨r,d⟩:=h.head;cases d;exact f
 |z::a,p,x,y,b,_,.top _,e=>by simp at e
 |z::a,p,x,y,b,_,.step f h,e=>by simp only[List.cons_append,List.cons.injEq]at e;exact Ch.hX h e.2
variable{α:Type}
inductive Cn(ls:List (Nat×Nat×α)):Nat->Nat->Prop
 |refl (p:Nat):Cn ls p p
 |symm {p q:Nat}:Cn ls p q->Cn ls q p
 |trans {p q r:Nat}:Cn ls p q->Cn ls q r->Cn ls p r
 |link {p q:Nat} {r:α}:(p,q,r)∈ls->Cn ls p q
theorem Cn.mono{a b:List (Nat×Nat×α)}(h:∀x∈a,x∈b):∀{p q:Nat},Cn a p q->Cn b p q:=by
 intro p q c;induction c with
 |refl p=>exact .refl p
 |symm _ d=>exact .symm d
 |trans _ _ d e=>exact .trans d e
 |link m=>exact .link (h _ m)
theorem Cn.KU{a:List (Nat×Nat×α)}(h:m<=n)(c:Cn (a.take m) p q):Cn (a.take n) p q:=
 c.mono λx b=>by
  have:a.take m=(a.take n).take m:=by rw[List.take_take,EZ h]
  rw[this]at b;exact List.mem_of_mem_take b
structure gI(S:List Nat)(ls:List (Nat×Nat×α))(Xj:Nat->Nat->Option Nat)(up:Nat->Option Nat):Prop where
 hX:∀p q,up p=Ga q->∃n,Xj p q=Ga n
 Qg0:∀p q n,Xj p q=Ga n->∃r,ls[n]?=Ga (p,q,r)\/ls[n]?=Ga (q,p,r)
 all:∀(n p q:Nat)r,ls[n]?=Ga (p,q,r)->Xj p q=Ga n/\Xj q p=Ga n
 sep:∀(n p q:Nat)r,ls[n]?=Ga (p,q,r)->¬Cn (ls.take n) p q
 chain:∀p∈S,∃l,Ch up p l
 inS:∀p q,up p=Ga q->p∈S/\q∈S
theorem gI.nV{a:List (Nat×Nat×α)}{Xj:Nat->Nat->Option Nat}(F:gI S a Xj up)(h:Xj p q=Ga n):Xj q p=Ga n:=by
 obtain⟨r,h|h⟩:=F.Qg0 p q n h
 .exact(F.all _ _ _ _ h).2
 .exact(F.all _ _ _ _ h).1
inductive gG(Xj:Nat->Nat->Option Nat):Nat->List Nat->Nat->Prop
 |nil (p:Nat):gG Xj p [] p
 |cons {p q r n:Nat} {ns:List Nat}:Xj p q=Ga n->gG Xj q ns r->gG Xj p (n::ns) r
theorem gG.app{Xj:Nat->Nat->Option Nat}:∀{p q r:Nat}{a b:List Nat},gG Xj p a q->gG Xj q b r->gG Xj p (a++b) r
 |_,_,_,_,_,.nil _,k=>k
 |_,_,_,_,_,.cons e h,k=>.cons e (h.app k)
theorem gG.rev{Xj:Nat->Nat->Option Nat}(b:∀p q n,Xj p q=Ga n->Xj q p=Ga n):∀{p q:Nat}{a:List Nat},gG Xj p a q->gG Xj q a.reverse p
 |_,_,_,.nil _=>.nil _
 |_,_,_,.cons e h=>by rw[List.reverse_cons];exact(h.rev b).app (.cons (b _ _ _ e) (.nil _))
theorem gG.split{Xj:Nat->Nat->Option Nat}{n:Nat}{b:List Nat}:∀{a:List Nat}{p q:Nat}{l:List Nat},gG Xj p l q->l=a++n::b->∃x y,gG Xj p a x/\Xj x y=Ga n/\gG Xj y b q
 |a,p,_,_,.nil _,e=>by simp at e
 |[],p,q,_,.cons f h,e=>by simp only[List.nil_append,List.cons.injEq]at e;obtain⟨rfl,rfl⟩:=e;exact{p,_,.nil p,f,h}
 |z::a,p,q,_,.cons f h,e=>by simp only[List.cons_append,List.cons.injEq]at e;obtain⟨rfl,e⟩:=e;obtain⟨x,y,c,d,g⟩:=h.split e;exact{x,y,.cons f c,d,g}
theorem xD:∀{l:List Nat},l≠[]->∃m∈l,∀k∈l,k<=m
 |[x],_=>{x,by simp,λk a=>by simp at a;lia}
 |x::y::r,_=>by
  obtain⟨m,c,b⟩:=xD (l:=y::r) (by simp);by_cases e:x<=m
  .refine{m,List.mem_cons_of_mem _ c,λk a=>?_};rcases List.mem_cons.mp a with rfl|a
   .exact e
   .exact b k a
  .refine{x,List.mem_cons_self,λk a=>?_};rcases List.mem_cons.mp a with rfl|a
   .exact Gm _
   .have:=b k a;lia
section
variable{S:List Nat}{ls:List (Nat×Nat×α)}{Xj:Nat->Nat->Option Nat}{up:Nat->Option Nat}
theorem gI.oo(F:gI S ls Xj up){M:Nat}:∀{p q:Nat}{a:List Nat},gG Xj p a q->(∀k∈a,k<M)->Cn (ls.take M) p q
 |_,_,_,.nil _,_=>.refl _
 |p,_,_,.cons (n:=n) e h,c=>by
  refine .trans ?_ (F.oo h λk f=>c k (List.mem_cons_of_mem _ f));have d:=c n List.mem_cons_self;obtain⟨r,b|b⟩:=F.Qg0 _ _ _ e
  .exact .link (r:=r) (List.mem_of_getElem? (i:=n) (by rw[List.getElem?_take,Gp d];exact b))
  .exact .symm (.link (r:=r) (List.mem_of_getElem? (i:=n) (by rw[List.getElem?_take,Gp d];exact b)))
theorem gI.early(F:gI S ls Xj up){a:List Nat}(h:gG Xj p a q)(nd:a.Nodup)(c:Cn (ls.take n) p q):∀k∈a,k<n:=by
 intro k g;obtain⟨M,A,f⟩:=xD (l:=a) (by intro z;rw[z]at g;simp at g);by_cases i:M<n
 .exact DV (f k g) i
 exfalso;obtain⟨b,d,rfl⟩:=List.append_of_mem A;obtain⟨x,y,u,v,w⟩:=h.split rfl;rw[List.nodup_append]at nd;obtain⟨n1,n2,n3⟩:=nd;rw[List.nodup_cons]at n2;have l:∀k∈b,k<M:=λk g=>by have:=f k (List.mem_append_left _ g);have:=n3 k g M List.mem_cons_self;lia
 have t:∀k∈d,k<M:=λk g=>by have:=f k (List.mem_append_right _ (List.mem_cons_of_mem _ g));have:k≠M:=λz=>n2.1 (z▸g);lia
 have m:=F.oo u l;have o:=F.oo w t;have s:Cn (ls.take M) p q:=c.KU (by lia);have j:Cn (ls.take M) x y:=.trans (.symm m) (.trans s (.symm o));obtain⟨r,e|e⟩:=F.Qg0 _ _ _ v
 .exact F.sep _ _ _ _ e j
 .exact F.sep _ _ _ _ e (.symm j)
def num(Xj:Nat->Nat->Option Nat)(up:Nat->Option Nat)(x:Nat):Nat:=((up x).bind (Xj x)).getD 0
theorem gI.lb(F:gI S ls Xj up){y:Nat}(h:up x=Ga y):Xj x y=Ga (num Xj up x):=by obtain⟨n,a⟩:=F.hX x y h;unfold num;rw[h];simp[a]
theorem gI.Hd(F:gI S ls Xj up){y n o:Nat}(h:up x=Ga n)(k:up y=Ga o)(e:num Xj up x=num Xj up y):x=y:=by
 have j:=F.lb h;have q:=F.lb k;rw[e]at j;obtain⟨r,d⟩:=F.Qg0 _ _ _ j;obtain⟨v,a⟩:=F.Qg0 _ _ _ q;have b:x=o->n=y->x=y:=λt u=>by
  subst t u;exfalso;obtain⟨l,m⟩:=F.chain x (F.inS _ _ h).1;have s:=m.nodup;cases m with
  |top f=>rw[h]at f;cases f
  |step f g=>
   rw[h]at f;cases f;cases g with
   |top c=>rw[k]at c;cases c
   |step c p=>rw[k]at c;cases c;obtain⟨w,i⟩:=p.head;subst i;simp at s
 rcases d with d|d<;>rcases a with a|a<;>rw[d]at a<;>simp only[RB,Dg]at a
 .exact a.1
 .exact b a.1 a.2.1
 .exact b a.2.1 a.1
 .exact a.2.1
theorem gI.oU(F:gI S ls Xj up){m:Nat}{s:List Nat}:∀{P:List Nat}{p:Nat}{l:List Nat},Ch up p l->l=P++m::s->gG Xj p (P.map (num Xj up)) m
 |[],p,_,h,e=>by obtain⟨r,a⟩:=h.head;rw[e]at a;simp only[List.nil_append,List.cons.injEq]at a;rw[a.1];exact .nil _
 |z::P,p,_,.top _,e=>by simp at e
 |z::P,p,_,.step (q:=q) f h,e=>by simp only[List.cons_append,List.cons.injEq]at e;obtain⟨rfl,e⟩:=e;rw[List.map_cons];exact .cons (F.lb f) (F.oU h e)
theorem Ch.yo{P:List Nat}{s:List Nat}(h:Ch up p l)(e:l=P++m::s)(c:x∈P):∃y,up x=Ga y:=by
 obtain⟨a,b,rfl⟩:=List.append_of_mem c;cases b with
 |nil=>exact{m,h.hX (a:=a) (b:=s) (by rw[e];simp)}
 |cons y b=>exact{y,h.hX (a:=a) (b:=b++m::s) (by rw[e];simp)}
theorem On{f:Nat->Nat}:∀{l:List Nat},l.Nodup->(∀x∈l,∀y∈l,f x=f y->x=y)->(l.map f).Nodup
 |[],_,_=>by simp
 |x::r,c,h=>by rw[List.nodup_cons]at c;rw[List.map_cons,List.nodup_cons];refine{λz=>?_,On c.2 λa g b i=>h a (List.mem_cons_of_mem _ g) b (List.mem_cons_of_mem _ i)};obtain⟨y,d,e⟩:=List.mem_map.mp z;exact c.1 (h y (List.mem_cons_of_mem _ d) x List.mem_cons_self e▸d)
theorem qD{x y:Nat}:∀{l:List Nat},(x,y)∈l.zip (l.drop 1)->∃a b,l=a++x::y::b
 |[],h=>by simp at h
 |[z],h=>by simp at h
 |z::w::r,h=>by
  simp only[List.drop_succ_cons,List.drop_zero,List.zip_cons_cons,List.mem_cons,Dg]at h;rcases h with⟨rfl,rfl⟩|h
  .exact{[],r,Xb}
  .obtain⟨a,b,e⟩:=qD (l:=w::r) (by simpa using h);exact{z::a,b,by rw[e];rfl}
theorem gI.way(F:gI S ls Xj up){j f:Nat}{O R P Q s:List Nat}(u:Ch up j O)(v:Ch up f R)(l:O=P++m::s)(o:R=Q++m::s)(G:P=[]\/Q=[]\/P.getLast?≠Q.getLast?):
  ∀x y,(x,y)∈(P++m::Q.reverse).zip ((P++m::Q.reverse).drop 1)->∃k,Xj x y=Ga k/\∀n,Cn (ls.take n) j f->k<n:=by
 have dis:∀z∈P,z∉Q:=λz U V=>by
  obtain⟨r,g,rfl⟩:=List.append_of_mem U;obtain⟨w,D,rfl⟩:=List.append_of_mem V;have E:=u.suffix (a:=r) (z:=z) (b:=g++m::s) (by rw[l];simp);have N:=v.suffix (a:=w) (z:=z) (b:=D++m::s) (by rw[o];simp);have e:=E.uniq N;simp only[List.cons.injEq,true_and]at e;have e:=List.append_cancel_right e;subst e;rcases G with h|h|h
  .simp at h
  .simp at h
  .refine h ?_;rw[List.getLast?_append,List.getLast?_append];have:(z::g).getLast?=Ga ((z::g).getLast (by simp)):=List.getLast?_eq_some_getLast (by simp);rw[this];rfl
 have J:P.Nodup:=by have:=u.nodup;rw[l,List.nodup_append]at this;exact this.1
 have K:Q.Nodup:=by have:=v.nodup;rw[o,List.nodup_append]at this;exact this.1
 have B:∀x∈P++Q.reverse,∃y,up x=Ga y:=λx i=>by
  rcases List.mem_append.mp i with i|i
  .exact u.yo l i
  .exact v.yo o (List.mem_reverse.mp i)
 have X:(P++Q.reverse).Nodup:=by rw[List.nodup_append];refine{J,by rw[List.Nodup,List.pairwise_reverse];exact K.imp λh=>Gn h,λa g b r z=>?_};subst z;exact dis a g (List.mem_reverse.mp r)
 have L:((P++Q.reverse).map (num Xj up)).Nodup:=On X λx i y I e=>by obtain⟨w,g⟩:=B x i;obtain⟨D,r⟩:=B y I;exact F.Hd g r e
 have M:gG Xj j ((P++Q.reverse).map (num Xj up)) f:=by rw[List.map_append,List.map_reverse];exact(F.oU u l).app ((F.oU v o).rev λ_ _ _=>F.nV)
 intro x y H;obtain⟨a,b,e⟩:=qD H;have p:∀z T,up z=Ga T->z∈P++Q.reverse->Xj x y=Ga (num Xj up z)->∃k,Xj x y=Ga k/\∀n,Cn (ls.take n) j f->k<n:=λz T _ C W=>{_,W,λn c=>F.early M L c _ (List.mem_map.mpr ⟨z,C,Xb⟩)}
 have q:(∃z,z∈P/\x=z/\up z=Ga y)\/(∃z,z∈Q/\y=z/\up z=Ga x):=by
  rcases Tp a.length P.length with E|D
  .left;have i:P[a.length]?=Ga x:=by
    have:(P++m::Q.reverse)[a.length]?=(a++x::y::b)[a.length]?:=by rw[e]
    rw[List.getElem?_append_left E,List.getElem?_append_right (Gm _)]at this;simpa using this
   exists x,List.mem_of_getElem? i,Xb;have g:P++[m]=a++x::y::(P++[m]).drop (a.length+2):=by
    have t:=congrArg (List.take (P.length+1)) e;have w:(P++m::Q.reverse).take (P.length+1)=P++[m]:=by rw[show P++m::Q.reverse=(P++[m])++Q.reverse by simp,List.take_left' (by simp)]
    rw[w]at t;have N:(a++x::y::b).take (P.length+1)=a++x::y::b.take (P.length+1 - a.length - 2):=by rw[List.take_append,List.take_of_length_le (by lia)];congr 1;obtain⟨d,r⟩:∃d,P.length+1 - a.length=d+2:={P.length+1 - a.length - 2,by lia};rw[r];simp
    rw[N]at t;rw[t];congr 3;rw[List.drop_append];simp
   exact u.hX (a:=a) (b:=(P++[m]).drop (a.length+2)++s) (by rw[l,show P++m::s=(P++[m])++s by simp,g];simp[List.append_assoc])
  .right;obtain⟨g,rfl⟩:∃g,a=P++g:=by exists a.drop P.length;have t:=congrArg (List.take P.length) e;rw[List.take_left' Xb,List.take_append_of_le_length D]at t;exact(List.take_append_drop P.length a).symm.trans (by rw[<-t])
   rw[List.append_assoc]at e;have e:=List.append_cancel_left e;have r:=congrArg List.reverse e;rw[List.reverse_cons,List.reverse_reverse]at r;simp only[List.reverse_append,List.reverse_cons,List.append_assoc,List.cons_append,List.nil_append]at r;have N:Q++m::s=b.reverse++y::x::(g.reverse++s):=by rw[show Q++m::s=(Q++[m])++s by simp,r];simp
   refine{y,?_,Xb,v.hX (a:=b.reverse) (b:=g.reverse++s) (by rw[o,N])};have w:b.reverse.length<Q.length:=by have:=congrArg List.length r;simp at this;simp;lia
   have I:Q[b.reverse.length]?=Ga y:=by
    have:(Q++m::s)[b.reverse.length]?=(b.reverse++y::x::(g.reverse++s))[b.reverse.length]?:=by rw[N]
    rw[List.getElem?_append_left w,List.getElem?_append_right (Gm _)]at this;simpa using this
   exact List.mem_of_getElem? I
 rcases q with⟨z,C,rfl,A⟩|⟨z,C,rfl,A⟩
 .exact p x y A (List.mem_append_left _ C) (F.lb A)
 .exact p y x A (List.mem_append_right _ (List.mem_reverse.mpr C)) (F.nV (F.lb A))
end
variable{W ρ:Type}[DecidableEq W]
structure gK(W ρ:Type) where
 S:List Nat
 lead:Nat->Nat
 mem:Nat->List Nat
 Xr:Nat->List Nat
 tab:W×List Nat->Option Nat
 links:List (Nat×Nat×Option ρ)
 Xj:Nat->Nat->Option Nat
 up:Nat->Option Nat
def Zp(wd:Nat->W)(pt:Nat->List Nat)(ld:Nat->Nat)(p:Nat):W×List Nat:=(wd p,(pt p).map ld)
inductive Cj(S:List Nat)(ld:Nat->Nat)(pend:List (Nat×Nat×Option ρ)):Nat->Nat->Prop
 |lead {p q:Nat}:p∈S->q∈S->ld p=ld q->Cj S ld pend p q
 |wait {p q:Nat} {r:Option ρ}:(p,q,r)∈pend->Cj S ld pend p q
 |symm {p q:Nat}:Cj S ld pend p q->Cj S ld pend q p
 |trans {p q r:Nat}:Cj S ld pend p q->Cj S ld pend q r->Cj S ld pend p r
theorem Cj.map{ld g:Nat->Nat}{f d:List (Nat×Nat×Option ρ)}(h:∀p∈S,∀q∈S,ld p=ld q->Cj S g d p q)(i:∀p q r,(p,q,r)∈f->Cj S g d p q):∀{p q:Nat},Cj S ld f p q->Cj S g d p q:=by
 intro p q c;induction c with
 |lead a b e=>exact h _ a _ b e
 |wait m=>exact i _ _ _ m
 |symm _ b=>exact .symm b
 |trans _ _ b e=>exact .trans b e
theorem Cj.nil{ld:Nat->Nat}(c:Cj (ρ:=ρ) S ld [] p q):ld p=ld q:=by
 induction c with
 |lead _ _ e=>exact e
 |wait m=>simp at m
 |symm _ a=>exact a.symm
 |trans _ _ a b=>exact a.trans b
def md(F:Nat->Nat->Prop)(ps a:List Nat):Prop:=ps.length=a.length/\∀(i p q:Nat),ps[i]?=Ga p->a[i]?=Ga q->F p q
theorem mi{f:Nat->Nat}{a b:List Nat}:a.map f=b.map f↔md (λp q=>f p=f q) a b:=by
 constructor
 .intro h;have d:=congrArg List.length h;simp at d;refine{d,λi p q c e=>?_};have:(a.map f)[i]?=(b.map f)[i]?:=by rw[h]
  simpa[c,e]using this
 .rintro⟨d,h⟩;refine List.ext_getElem? λi=>?_;rw[List.getElem?_map,List.getElem?_map];rcases Tp i a.length with c|c
  .have e:=List.getElem?_eq_getElem c;have g:=List.getElem?_eq_getElem (show i<b.length by lia);rw[e,g,TV,TV,h i _ _ e g]
  .rw[List.getElem?_eq_none c,List.getElem?_eq_none (by lia)]
structure Wk(wd:Nat->W)(pt:Nat->List Nat)(x:gK W ρ)(pend:List (Nat×Nat×Option ρ)):Prop where
 nd:x.S.Nodup
 pt_:∀p∈x.S,∀q∈pt p,q∈x.S
 ld:∀p∈x.S,x.lead p∈x.S
 idem:∀p∈x.S,x.lead (x.lead p)=x.lead p
 Qce:∀l∈x.S,x.lead l=l->∀p,p∈x.mem l↔p∈x.S/\x.lead p=l
 Qlt:∀l∈x.S,x.lead l=l->(x.mem l).Nodup
 Qjo:∀l∈x.S,∀p∈x.Xr l,p∈x.S
 Qwd:∀p∈x.S,∀q∈pt p,p∈x.Xr (x.lead q)
 tabS:∀k u,x.tab k=Ga u->u∈x.S/\wd u=k.1/\(∀q∈k.2,q∈x.S)/\(pt u).map x.lead=k.2.map x.lead
 Qsp:∀p∈x.S,∃u,x.tab (Zp wd pt x.lead p)=Ga u/\Cj x.S x.lead pend u p
 pnd:∀a b r,(a,b,r)∈pend->a∈x.S/\b∈x.S/\(r=Gh->wd a=wd b/\(pt a).map x.lead=(pt b).map x.lead)
 fst:gI x.S x.links x.Xj x.up
 lnk:∀(n a b:Nat)r,x.links[n]?=Ga (a,b,r)->a∈x.S/\b∈x.S/\(r=Gh->wd a=wd b/\md (Cn (x.links.take n)) (pt a) (pt b))
 conn:∀p∈x.S,∀q∈x.S,(x.lead p=x.lead q↔Cn x.links p q)
 root:∀p q l m,p∈x.S->q∈x.S->Ch x.up p l->Ch x.up q m->(x.lead p=x.lead q↔Z1 l=Z1 m)
def zm(a:Nat->W×List Nat):List Nat->(W×List Nat->Option Nat)->List (Nat×Nat×Option ρ)->(W×List Nat->Option Nat)×List (Nat×Nat×Option ρ)
 |[],t,f=>(t,f)
 |u::r,t,f=>match t (a u)with
  |some v=>zm a r t (if v=u then f else f++[(u,v,Gh)])
  |none=>zm a r (λk=>if k=a u then Ga u else t k) f
theorem U4{a:Nat->W×List Nat}:∀{l:List Nat}{t:W×List Nat->Option Nat}{f:List (Nat×Nat×Option ρ)}{k:W×List Nat}{v:Nat},t k=Ga v->(zm a l t f).1 k=Ga v
 |[],_,_,_,_,h=>h
 |u::r,t,f,k,v,h=>by
  unfold zm;cases e:t (a u)with
  |some w=>exact U4 h
  |none=>
   refine U4 ?_;have:k≠a u:=λz=>by rw[z,e]at h;cases h
   simp only[Gi this];exact h
theorem scan_keep{a:Nat->W×List Nat}:∀{l:List Nat}{t:W×List Nat->Option Nat}{f:List (Nat×Nat×Option ρ)}{y},y∈f->y∈(zm a l t f).2
 |[],_,_,_,h=>h
 |u::r,t,f,y,h=>by
  unfold zm;cases e:t (a u)with
  |some w=>
   refine scan_keep ?_;split
   .exact h
   .exact List.mem_append_left _ h
  |none=>exact scan_keep h
theorem oZ{ky:Nat->W×List Nat}:∀{l:List Nat}{t:W×List Nat->Option Nat}{f:List (Nat×Nat×Option ρ)}{u:Nat},u∈l->∃v,(zm ky l t f).1 (ky u)=Ga v/\(v=u\/(u,v,Gh)∈(zm ky l t f).2)
 |[],_,_,_,h=>by simp at h
 |z::r,t,f,u,h=>by
  unfold zm;rcases List.mem_cons.mp h with rfl|h
  .cases e:t (ky u)with
   |some w=>
    exists w,U4 e;by_cases hw:w=u
    .exact .inl hw
    .right;refine scan_keep ?_;rw[Gi hw];simp
   |none=>exact{u,U4 (by simp),.inl Xb}
  .cases e:t (ky z)with
   |some w=>exact oZ h
   |none=>exact oZ h
theorem nG{a:Nat->W×List Nat}:∀{l:List Nat}{t:W×List Nat->Option Nat}{f:List (Nat×Nat×Option ρ)}{k:W×List Nat}{v:Nat},(zm a l t f).1 k=Ga v->t k=Ga v\/(v∈l/\k=a v)
 |[],_,_,_,_,h=>.inl h
 |u::r,t,f,k,v,h=>by
  unfold zm at h;cases e:t (a u)with
  |some w=>
   rw[e]at h;rcases nG h with h|⟨b,c⟩
   .exact .inl h
   .exact .inr {List.mem_cons_of_mem _ b,c}
  |none=>
   rw[e]at h;rcases nG h with h|⟨b,c⟩
   .by_cases d:k=a u
    .simp only[Gp d]at h;cases h;exact .inr {List.mem_cons_self,d}
    .simp only[Gi d]at h;exact .inl h
   .exact .inr {List.mem_cons_of_mem _ b,c}
theorem Uk{c:Nat->W×List Nat}:∀{l:List Nat}{t:W×List Nat->Option Nat}{f:List (Nat×Nat×Option ρ)}{a b:Nat}{r:Option ρ},(a,b,r)∈(zm c l t f).2->(a,b,r)∈f\/(r=Gh/\a∈l/\(zm c l t f).1 (c a)=Ga b)
 |[],_,_,_,_,_,h=>.inl h
 |u::l,t,f,a,b,r,h=>by
  unfold zm at h⊢;cases e:t (c u)with
  |some w=>
   rw[e]at h;rcases Uk h with h|⟨d,g,i⟩
   .split at h
    .exact .inl h
    .rcases List.mem_append.mp h with h|h
     .exact .inl h
     .simp at h;obtain⟨rfl,rfl,rfl⟩:=h;exact .inr {Xb,List.mem_cons_self,U4 e}
   .exact .inr {d,List.mem_cons_of_mem _ g,i}
  |none=>
   rw[e]at h;rcases Uk h with h|⟨d,g,i⟩
   .exact .inl h
   .exact .inr {d,List.mem_cons_of_mem _ g,i}
theorem scan_len{ky:Nat->W×List Nat}:∀{l:List Nat}{t:W×List Nat->Option Nat}{f:List (Nat×Nat×Option ρ)},(zm ky l t f).2.length<=f.length+l.length
 |[],_,_=>by simp[zm]
 |u::l,t,f=>by
  unfold zm;cases e:t (ky u)with
  |some w=>
   have:=scan_len (ky:=ky) (l:=l) (t:=t) (f:=if w=u then f else f++[(u,w,Gh)]);simp only[List.length_cons];split at this
   .rename_i h
    simp only[Gp h];lia
   .rename_i h
    simp only[Gi h];rw[List.length_append,List.length_singleton]at this;lia
  |none=>have:=scan_len (ky:=ky) (l:=l) (t:=λk=>if k=ky u then Ga u else t k) (f:=f);simp only[List.length_cons];lia
def Zd(x:gK W ρ)(a b:Nat):Nat->Nat:=λp=>if p∈x.mem a then b else x.lead p
def Ua(wd:Nat->W)(pt:Nat->List Nat)(x:gK W ρ)(a b:Nat):gK W ρ×List (Nat×Nat×Option ρ):=
 ({x with lead:=Zd x a b,mem:=(λp=>if p=b then x.mem b++x.mem a else x.mem p),Xr:=(λp=>if p=b then x.Xr b++x.Xr a else x.Xr p),tab:=(zm (ρ:=ρ) (Zp wd pt (Zd x a b)) (x.Xr a) x.tab []).1},(zm (Zp wd pt (Zd x a b)) (x.Xr a) x.tab []).2)
def gU(Xj:Nat->Nat->Option Nat)(a b n:Nat):Nat->Nat->Option Nat:=λp q=>if(p=a/\q=b)\/(p=b/\q=a)then Ga n else Xj p q
def Yq(wd:Nat->W)(pt:Nat->List Nat)(x:gK W ρ)(a b:Nat)(r:Option ρ)(lo hi:Nat)(c:List Nat):gK W ρ×List (Nat×Nat×Option ρ):=
 Ua wd pt {x with links:=x.links++[(a,b,r)],Xj:=gU x.Xj a b x.links.length,up:=Xw x.up hi c} (x.lead lo) (x.lead hi)
section
variable{wd:Nat->W}{pt:Nat->List Nat}{x:gK W ρ}{pend:List (Nat×Nat×Option ρ)}
theorem BS{g:List (Nat×Nat×Option ρ)}{r:Option ρ}(c:Cn (g++[(a,b,r)]) p q):Cn g p q\/(Cn g p a/\Cn g b q)\/(Cn g p b/\Cn g a q):=by
 induction c with
 |refl p=>exact .inl (.refl p)
 |symm _ f=>
  rcases f with h|⟨d,e⟩|⟨d,e⟩
  .exact .inl (.symm h)
  .exact .inr (.inr {.symm e,.symm d})
  .exact .inr (.inl {.symm e,.symm d})
 |trans _ _ j l=>
  rcases j with h|⟨d,e⟩|⟨d,e⟩<;>rcases l with k|⟨i,f⟩|⟨i,f⟩
  .exact .inl (.trans h k)
  .exact .inr (.inl {.trans h i,f})
  .exact .inr (.inr {.trans h i,f})
  .exact .inr (.inl {d,.trans e k})
  .exact .inr (.inl ⟨d,f⟩)
  .exact .inl (.trans d f)
  .exact .inr (.inr {d,.trans e k})
  .exact .inl (.trans d f)
  .exact .inr (.inr ⟨d,f⟩)
 |link m=>
  rcases List.mem_append.mp m with m|m
  .exact .inl (.link m)
  .simp at m;obtain⟨rfl,rfl,rfl⟩:=m;exact .inr (.inl {.refl _,.refl _})
theorem Wk.P1(I:Wk wd pt x pend){g k:Nat}(b:g∈x.S)(a:x.lead g=g)(c:p∈x.S):Zd x g k p=if x.lead p=g then k else x.lead p:=by
 unfold Zd;by_cases h:x.lead p=g
 .rw[Gp h,Gp ((I.Qce g b a p).mpr ⟨c,h⟩)]
 .rw[Gi h,Gi λz=>h ((I.Qce g b a p).mp z).2]
end
variable{W ρ:Type}[DecidableEq W]
section
variable{wd:Nat->W}{pt:Nat->List Nat}{x:gK W ρ}{pend:List (Nat×Nat×Option ρ)}
theorem Wk.join(e:Wk wd pt x (pend++[(a,b,r)]))(ah:x.lead a≠x.lead b)(ad:(lo=a/\hi=b)\/(lo=b/\hi=a))(Q:Ch x.up lo cl):
  Wk wd pt (Yq wd pt x a b r lo hi cl).1 (pend++(Yq wd pt x a b r lo hi cl).2)/\(∀p∈x.S,(Yq wd pt x a b r lo hi cl).1.lead p=if x.lead p=x.lead lo then x.lead hi else x.lead p):=by
 obtain⟨K,L,ai⟩:=e.pnd a b r (by simp);have ac:lo∈x.S:=by rcases ad with⟨d,_⟩|⟨d,_⟩<;>rw[d]<;>assumption
 have aa:hi∈x.S:=by rcases ad with⟨_,d⟩|⟨_,d⟩<;>rw[d]<;>assumption
 have W:x.lead lo≠x.lead hi:=by
  rcases ad with⟨g,h⟩|⟨g,h⟩<;>rw[g,h]
  .exact ah
  .exact Gn ah
 obtain⟨lh,ae⟩:=e.fst.chain hi aa;have gS:=e.ld lo ac;have gg:=e.idem lo ac;have kS:=e.ld hi aa;have kk:=e.idem hi aa;generalize hG:x.lead lo=f at*;generalize hK:x.lead hi=k at*;have ab:(x.lead a=f/\x.lead b=k)\/(x.lead a=k/\x.lead b=f):=by
  rcases ad with⟨g,h⟩|⟨g,h⟩
  .left;rw[<-g,<-h];exact⟨hG,hK⟩
  .right;rw[<-g,<-h];exact⟨hK,hG⟩
 have s:∀p∈x.S,Zd x f k p=if x.lead p=f then k else x.lead p:=λp j=>e.P1 gS gg j;have eJ:Yq wd pt x a b r lo hi cl=Ua wd pt {x with links:=x.links++[(a,b,r)],Xj:=gU x.Xj a b x.links.length,up:=Xw x.up hi cl} f k:=by unfold Yq;rw[hG,hK]
 rw[eJ];have nC:¬Cn x.links a b:=λc=>ah ((e.conn a K b L).mpr c);have V:∀p∈x.S,∀q∈x.S,x.lead p=x.lead q->Zd x f k p=Zd x f k q:=λp j q o l=>by rw[s p j,s q o,l]
 have LS:∀p∈x.S,Zd x f k p∈x.S:=λp j=>by
  rw[s p j];split
  .exact kS
  .exact e.ld p j
 have Lk:Zd x f k k=k:=by rw[s k kS,kk,Gi (Gn W)]
 have Li:∀p∈x.S,Zd x f k (Zd x f k p)=Zd x f k p:=λp j=>by
  by_cases d:x.lead p=f
  .rw[s p j,Gp d,Lk]
  .rw[s p j,Gi d,s _ (e.ld p j),e.idem p j,Gi d]
 have Mp:∀p∈x.S,∀q∈x.S,(pt p).map x.lead=(pt q).map x.lead->(pt p).map (Zd x f k)=(pt q).map (Zd x f k):=λp j q o l=>by rw[mi]at l⊢;exact{l.1,λi u w D J=>V u (e.pt_ p j u (List.mem_of_getElem? D)) w (e.pt_ q o w (List.mem_of_getElem? J)) (l.2 i u w D J)}
 have TS:∀ky u,(zm (ρ:=ρ) (Zp wd pt (Zd x f k)) (x.Xr f) x.tab []).1 ky=Ga u->u∈x.S/\wd u=ky.1/\(∀q∈ky.2,q∈x.S)/\(pt u).map (Zd x f k)=ky.2.map (Zd x f k):=λky u d=>by
  rcases nG d with d|⟨g,h⟩
  .obtain⟨k1,k2,k3,k4⟩:=e.tabS ky u d;exists k1,k2,k3;rw[mi]at k4⊢;exact{k4.1,λi F w D J=>V F (e.pt_ u k1 F (List.mem_of_getElem? D)) w (k3 w (List.mem_of_getElem? J)) (k4.2 i F w D J)}
  .have G:=e.Qjo f gS u g;subst h;exists G,Xb,λq o=>?_
   .obtain⟨F,S,rfl⟩:=List.mem_map.mp o;exact LS F (e.pt_ u G F S)
   .show(pt u).map (Zd x f k)=((pt u).map (Zd x f k)).map (Zd x f k);rw[List.map_map];refine List.map_congr_left λq o=>?_;exact(Li q (e.pt_ u G q o)).symm
 have dis:∀z∈lh,z∉cl:=λz hz af=>by
  obtain⟨m1,Y,N⟩:=ae.Oo hz;obtain⟨m2,Z,I⟩:=Q.Oo af;have:Z1 lh=Z1 cl:=by rw[<-N,<-I,Y.uniq Z]
  exact W ((e.root lo hi cl lh ac aa Q ae).mpr this.symm|>λl=>by rw[hG,hK]at l;exact l)
 have hh:Ch (Xw x.up hi cl) hi lh:=ae.nt dis;have R:∀p∈x.S,∀B,Ch x.up p B->∃m,Ch (Xw x.up hi cl) p m/\(x.lead p=f->Z1 m=Z1 lh)/\(x.lead p≠f->Z1 m=Z1 B):=λp j B M=>by
  by_cases d:∃z∈B,z∈cl
  .obtain⟨m,g,h⟩:=HI Q.nodup hh M d;refine{m,g,λ_=>h,λv=>?_};exfalso;obtain⟨z,hz,af⟩:=d;obtain⟨m1,Y,N⟩:=M.Oo hz;obtain⟨m2,Z,I⟩:=Q.Oo af;have:Z1 B=Z1 cl:=by rw[<-N,<-I,Y.uniq Z]
   exact v (by rw[<-hG];exact(e.root p lo B cl j ac M Q).mpr this)
  .have g:Ch (Xw x.up hi cl) p B:=M.nt λz hz af=>d ⟨z,hz,af⟩;refine{B,g,λl=>?_,λ_=>rfl};exfalso;have:=(e.root p lo B cl j ac M Q).mp (by rw[hG];exact l);have m1:Z1 B∈B:=by have:=M.ne;unfold Z1;rw[List.getLastD_eq_getLast?,List.getLast?_eq_some_getLast this];exact List.getLast_mem this
   have m2:Z1 cl∈cl:=by have:=Q.ne;unfold Z1;rw[List.getLastD_eq_getLast?,List.getLast?_eq_some_getLast this];exact List.getLast_mem this
   exact d {_,m1,by rw[this];exact m2}
 have C1:∀p∈x.S,∀q∈x.S,(Zd x f k p=Zd x f k q↔Cn (x.links++[(a,b,r)]) p q):=λp j q o=>by
  have mono:∀{u w:Nat},Cn x.links u w->Cn (x.links++[(a,b,r)]) u w:=λc=>c.mono λy hy=>List.mem_append_left _ hy;have X:Cn (x.links++[(a,b,r)]) a b:=.link (r:=r) (by simp);have G:∀u∈x.S,∀w∈x.S,x.lead u=f->x.lead w=k->Cn (x.links++[(a,b,r)]) u w:=λu D w J N I=>by
   rcases ab with⟨g,h⟩|⟨g,h⟩
   .exact .trans (mono ((e.conn u D a K).mp (N.trans g.symm))) (.trans X (mono ((e.conn b L w J).mp (h.trans I.symm))))
   .exact .trans (mono ((e.conn u D b L).mp (N.trans h.symm))) (.trans (.symm X) (mono ((e.conn a K w J).mp (g.trans I.symm))))
  constructor
  .intro l;rw[s p j,s q o]at l;by_cases g:x.lead p=f<;>by_cases h:x.lead q=f
   .exact mono ((e.conn p j q o).mp (g.trans h.symm))
   .rw[Gp g,Gi h]at l;exact G p j q o g l.symm
   .rw[Gi g,Gp h]at l;exact .symm (G q o p j h l)
   .rw[Gi g,Gi h]at l;exact mono ((e.conn p j q o).mp l)
  .intro c;have F:Zd x f k a=Zd x f k b:=by
    rw[s a K,s b L];rcases ab with⟨g,h⟩|⟨g,h⟩
    .rw[Gp g,Gi (by rw[h];exact Gn W),h]
    .rw[Gp h,Gi (by rw[g];exact Gn W),g]
   rcases BS c with c|⟨Y,Z⟩|⟨Y,Z⟩
   .exact V p j q o ((e.conn p j q o).mpr c)
   .exact(V p j a K ((e.conn p j a K).mpr Y)).trans (F.trans (V b L q o ((e.conn b L q o).mpr Z)))
   .exact(V p j b L ((e.conn p j b L).mpr Y)).trans (F.symm.trans (V a K q o ((e.conn a K q o).mpr Z)))
 have tk:∀{n:Nat},n<=x.links.length->(x.links++[(a,b,r)]).take n=x.links.take n:=λd=>List.take_append_of_le_length d;have gl:∀{n:Nat}{y},(x.links++[(a,b,r)])[n]?=Ga y->(n<x.links.length/\x.links[n]?=Ga y)\/(n=x.links.length/\y=(a,b,r)):=λ{n y}d=>by
  rcases Tp n x.links.length with v|v
  .rw[List.getElem?_append_left v]at d;exact .inl ⟨v,d⟩
  .rw[List.getElem?_append_right v]at d;have:n - x.links.length=0:=by have:=(List.getElem?_eq_some_iff.mp d).1;simp at this;lia
   rw[this]at d;simp at d;exact .inr {by lia,d.symm}
 have aj:∀p q,Xw x.up hi cl p=Ga q->x.up p=Ga q\/(p=lo/\q=hi)\/x.up q=Ga p:=λp q d=>by
  rcases ya Q.nodup d with d|⟨A,l,I⟩|⟨H,O,l⟩
  .exact .inl d
  .obtain⟨G,F⟩:=Q.head;rw[l]at F;cases F;exact .inr (.inl ⟨Xb,I⟩)
  .exact .inr (.inr (Q.hX l))
 refine{{e.nd,e.pt_,LS,Li,λm T l p=>?_,λm T l=>?_,λm T p j=>?_,λp j q o=>?_,TS,λp j=>?_,λH O A d=>?_,{λp q d=>?_,λp q n d=>?_,λn p q A d=>?_,λn p q A d=>?_,λp j=>?_,λp q d=>?_},λn H O A d=>?_,C1,λp q m U j o g h=>?_},λp j=>s p j}
 ·
  have l:Zd x f k m=m:=l;have lg:x.lead m≠f:=λz=>by rw[s m T,Gp z]at l;rw[<-l,kk]at z;exact W z.symm
  have ll:x.lead m=m:=by rw[s m T,Gi lg]at l;exact l
  show p∈(if m=k then x.mem k++x.mem f else x.mem m)↔p∈x.S/\Zd x f k p=m;by_cases C:m=k
  .rw[Gp C,List.mem_append,e.Qce k kS kk,e.Qce f gS gg];constructor
   .rintro(⟨g,h⟩|⟨g,h⟩)
    .exact{g,by rw[s p g,h,Gi (Gn W),C]}
    .exact{g,by rw[s p g,Gp h,C]}
   .rintro⟨g,h⟩;rw[s p g]at h;by_cases P:x.lead p=f
    .exact .inr ⟨g,P⟩
    .rw[Gi P]at h;exact .inl {g,h.trans C}
  .rw[Gi C,e.Qce m T ll];constructor
   .rintro⟨g,h⟩;exact{g,by rw[s p g,Gi (by rw[h,<-ll];exact lg),h]}
   .rintro⟨g,h⟩;rw[s p g]at h;by_cases P:x.lead p=f
    .rw[Gp P]at h;exact absurd h.symm C
    .rw[Gi P]at h;exact⟨g,h⟩
 .have l:Zd x f k m=m:=l;have lg:x.lead m≠f:=λz=>by rw[s m T,Gp z]at l;rw[<-l,kk]at z;exact W z.symm
  have ll:x.lead m=m:=by rw[s m T,Gi lg]at l;exact l
  show(if m=k then x.mem k++x.mem f else x.mem m).Nodup;by_cases C:m=k
  .rw[Gp C,List.nodup_append];refine{e.Qlt k kS kk,e.Qlt f gS gg,λu D w J z=>?_};subst z;have g:=((e.Qce k kS kk u).mp D).2;have h:=((e.Qce f gS gg u).mp J).2;exact W (h.symm.trans g)
  .rw[Gi C];exact e.Qlt m T ll
 .have j:p∈(if m=k then x.Xr k++x.Xr f else x.Xr m):=j;by_cases C:m=k
  .rw[Gp C]at j;rcases List.mem_append.mp j with d|d
   .exact e.Qjo k kS p d
   .exact e.Qjo f gS p d
  .rw[Gi C]at j;exact e.Qjo m T p j
 .show p∈(if Zd x f k q=k then x.Xr k++x.Xr f else x.Xr (Zd x f k q));have E:=e.Qwd p j q o;have F:=e.pt_ p j q o;by_cases d:x.lead q=f
  .rw[s q F,Gp d,Gp rfl];rw[d]at E;exact List.mem_append_right _ E
  .rw[s q F,Gi d];by_cases C:x.lead q=k
   .rw[Gp C];rw[C]at E;exact List.mem_append_left _ E
   .rw[Gi C];exact E
 ·
  show∃u,(zm (ρ:=ρ) (Zp wd pt (Zd x f k)) (x.Xr f) x.tab []).1 (Zp wd pt (Zd x f k) p)=Ga u/\Cj x.S (Zd x f k) (pend++(zm (Zp wd pt (Zd x f k)) (x.Xr f) x.tab []).2) u p;by_cases d:∃q∈pt p,x.lead q=f
  .obtain⟨q,o,l⟩:=d;have D:=e.Qwd p j q o;rw[l]at D;obtain⟨w,g,h⟩:=oZ (ρ:=ρ) (ky:=Zp wd pt (Zd x f k)) (t:=x.tab) (f:=[]) D;exists w,g;rcases h with rfl|h
   .exact .lead j j rfl
   .exact .symm (.wait (r:=Gh) (List.mem_append_right _ h))
  .obtain⟨u,g,h⟩:=e.Qsp p j;have F:Zp wd pt (Zd x f k) p=Zp wd pt x.lead p:=by unfold Zp;refine LW rfl (List.map_congr_left λq o=>?_);rw[s q (e.pt_ p j q o),Gi λz=>d ⟨q,o,z⟩]
   refine{u,by rw[F];exact U4 g,h.map (λp j q o l=>.lead j o (V p j q o l)) λp q A U=>?_};rcases List.mem_append.mp U with U|U
   .exact .wait (List.mem_append_left _ U)
   .simp at U;obtain⟨rfl,rfl,rfl⟩:=U;exact .lead K L ((C1 _ K _ L).mpr (.link (r:=A) (by simp)))
 ·
  rcases List.mem_append.mp d with d|d
  .obtain⟨g,h,P⟩:=e.pnd H O A (List.mem_append_left _ d);exact{g,h,λl=>{(P l).1,Mp H g O h (P l).2}}
  .rcases Uk (show(H,O,A)∈(zm (Zp wd pt (Zd x f k)) (x.Xr f) x.tab []).2 from d)with d|⟨g,h,P⟩
   .simp at d
   .have F:=e.Qjo f gS H h;obtain⟨k1,k2,k3,k4⟩:=TS _ _ P;refine{F,k1,λ_=>{k2.symm,?_}};show(pt H).map (Zd x f k)=(pt O).map (Zd x f k);rw[k4];show _=((pt H).map (Zd x f k)).map (Zd x f k);rw[List.map_map];exact List.map_congr_left λq o=>(Li q (e.pt_ H F q o)).symm
 ·
  show∃n,gU x.Xj a b x.links.length p q=Ga n;unfold gU;by_cases v:(p=a/\q=b)\/(p=b/\q=a)
  .exact{_,Gp v}
  .rw[Gi v];rcases aj p q d with d|⟨N,I⟩|d
   .exact e.fst.hX p q d
   .exfalso;apply v;rcases ad with⟨g,h⟩|⟨g,h⟩
    .exact .inl {N.trans g,I.trans h}
    .exact .inr {N.trans g,I.trans h}
   .obtain⟨n,v⟩:=e.fst.hX q p d;exact{n,e.fst.nV v}
 .have d:gU x.Xj a b x.links.length p q=Ga n:=d;unfold gU at d;show∃A,(x.links++[(a,b,r)])[n]?=Ga (p,q,A)\/(x.links++[(a,b,r)])[n]?=Ga (q,p,A);by_cases v:(p=a/\q=b)\/(p=b/\q=a)
  .rw[Gp v]at d;cases d;exists r;rcases v with⟨rfl,rfl⟩|⟨rfl,rfl⟩
   .left;simp
   .right;simp
  .rw[Gi v]at d;obtain⟨A,d|d⟩:=e.fst.Qg0 p q n d
   .exact{A,.inl (by rw[List.getElem?_append_left (List.getElem?_eq_some_iff.mp d).1];exact d)}
   .exact{A,.inr (by rw[List.getElem?_append_left (List.getElem?_eq_some_iff.mp d).1];exact d)}
 .show gU x.Xj a b x.links.length p q=Ga n/\gU x.Xj a b x.links.length q p=Ga n;rcases gl d with⟨v,X⟩|⟨v,d⟩
  .have no:¬((p=a/\q=b)\/(p=b/\q=a)):=by
    rintro(⟨rfl,rfl⟩|⟨rfl,rfl⟩)
    .exact nC (.link (List.mem_of_getElem? X))
    .exact nC (.symm (.link (List.mem_of_getElem? X)))
   have ag:¬((q=a/\p=b)\/(q=b/\p=a)):=λz=>no (z.elim (λ⟨F,G⟩=>.inr ⟨G,F⟩) λ⟨F,G⟩=>.inl ⟨G,F⟩);unfold gU;rw[Gi no,Gi ag];exact e.fst.all n p q A X
  .simp only[Dg]at d;obtain⟨rfl,rfl,rfl⟩:=d;subst v;unfold gU;exact{Gp (.inl ⟨Xb,Xb⟩),Gp (.inr ⟨Xb,Xb⟩)}
 .show¬Cn ((x.links++[(a,b,r)]).take n) p q;rcases gl d with⟨v,d⟩|⟨v,d⟩
  .rw[tk (by lia)];exact e.fst.sep n p q A d
  .simp only[Dg]at d;obtain⟨rfl,rfl,rfl⟩:=d;rw[tk (by lia),v,List.take_length];exact nC
 .obtain⟨B,M⟩:=e.fst.chain p j;obtain⟨m,g,_⟩:=R p j B M;exact⟨m,g⟩
 .rcases aj p q d with d|⟨N,I⟩|d
  .exact e.fst.inS p q d
  .rw[N,I];exact⟨ac,aa⟩
  .exact(e.fst.inS q p d).symm
 .show H∈x.S/\O∈x.S/\(A=Gh->wd H=wd O/\md (Cn ((x.links++[(a,b,r)]).take n)) (pt H) (pt O));rcases gl d with⟨v,d⟩|⟨v,d⟩
  .rw[tk (by lia)];exact e.lnk n H O A d
  .simp only[Dg]at d;obtain⟨rfl,rfl,rfl⟩:=d;rw[tk (by lia),v,List.take_length];refine{K,L,λl=>{(ai l).1,?_}};have t:=mi.mp (ai l).2;exact{t.1,λi u w D J=>(e.conn u (e.pt_ _ K u (List.mem_of_getElem? D)) w (e.pt_ _ L w (List.mem_of_getElem? J))).mp (t.2 i u w D J)}
 .show Zd x f k p=Zd x f k q↔Z1 m=Z1 U;obtain⟨B,M⟩:=e.fst.chain p j;obtain⟨G,F⟩:=e.fst.chain q o;obtain⟨l',p1,p2,p3⟩:=R p j B M;obtain⟨m',q1,q2,q3⟩:=R q o G F;have el:=Ch.uniq (show Ch (Xw x.up hi cl) p m from g) p1;have em:=Ch.uniq (show Ch (Xw x.up hi cl) q U from h) q1;subst el em;have rp:=e.root p hi B lh j aa M ae;have X:=e.root q hi G lh o aa F ae;rw[hK]at rp X;rw[s p j,s q o];by_cases E:x.lead p=f<;>by_cases S:x.lead q=f
  .rw[Gp E,Gp S,p2 E,q2 S];exact{λ_=>rfl,λ_=>rfl}
  .rw[Gp E,Gi S,p2 E,q3 S];exact{λl=>(X.mp l.symm).symm,λl=>(X.mpr l.symm).symm}
  .rw[Gi E,Gp S,p3 E,q2 S];exact rp
  .rw[Gi E,Gi S,p3 E,q3 S];exact e.root p q B G j o M F
end
variable{W ρ:Type}[DecidableEq W]
section
variable{wd:Nat->W}{pt:Nat->List Nat}{x:gK W ρ}{pend pend':List (Nat×Nat×Option ρ)}
theorem Wk.xq(I:Wk wd pt x pend)(f:∀p q r,(p,q,r)∈pend->Cj x.S x.lead pend' p q)(g:∀a b r,(a,b,r)∈pend'->a∈x.S/\b∈x.S/\(r=Gh->wd a=wd b/\(pt a).map x.lead=(pt b).map x.lead)):Wk wd pt x pend':=
 {I.nd,I.pt_,I.ld,I.idem,I.Qce,I.Qlt,I.Qjo,I.Qwd,I.tabS,λp d=>by obtain⟨u,e,c⟩:=I.Qsp p d;exact{u,e,c.map (λp d q b e=>.lead d b e) f},g,I.fst,I.lnk,I.conn,I.root}
theorem Wk.drop{r:Option ρ}(I:Wk wd pt x (pend++[(a,b,r)]))(e:x.lead a=x.lead b):Wk wd pt x pend:=by
 obtain⟨f,h,_⟩:=I.pnd a b r (by simp);refine I.xq (λp q c m=>?_) λd g c m=>I.pnd d g c (List.mem_append_left _ m);rcases List.mem_append.mp m with m|m
 .exact .wait m
 .simp at m;obtain⟨rfl,rfl,rfl⟩:=m;exact .lead f h e
theorem Wk.cong(I:Wk wd pt x [])(c:p∈x.S)(d:q∈x.S)(e:Zp wd pt x.lead p=Zp wd pt x.lead q):x.lead p=x.lead q:=by obtain⟨u,a,b⟩:=I.Qsp p c;obtain⟨v,f,g⟩:=I.Qsp q d;rw[e,f]at a;cases a;exact b.nil.symm.trans g.nil
structure Ec(wd:Nat->W)(pt:Nat->List Nat)(S:List Nat)(E:Nat->Nat->Prop):Prop where
 refl:∀p,E p p
 symm:∀p q,E p q->E q p
 trans:∀p q r,E p q->E q r->E p r
 cong:∀p∈S,∀q∈S,wd p=wd q->md E (pt p) (pt q)->E p q
def gM(E:Nat->Nat->Prop)(x:gK W ρ)(pend:List (Nat×Nat×Option ρ)):Prop:=(∀p∈x.S,∀q∈x.S,x.lead p=x.lead q->E p q)/\∀a b r,(a,b,r)∈pend->E a b
theorem gM.join{E:Nat->Nat->Prop}{a b:Nat}{r:Option ρ}(H:gM E x (pend++[(a,b,r)]))(X:Ec wd pt x.S E)(I:Wk wd pt x (pend++[(a,b,r)]))(G:x.lead a≠x.lead b){d g:Nat}{n:List Nat}(j:(d=a/\g=b)\/(d=b/\g=a))(P:Ch x.up d n):
  gM E (Yq wd pt x a b r d g n).1 (pend++(Yq wd pt x a b r d g n).2):=by
 obtain⟨J,L⟩:=I.join G j P;obtain⟨Q,R,_⟩:=I.pnd a b r (by simp);have o:E a b:=H.2 a b r (by simp);have K:d∈x.S:=by rcases j with⟨h,_⟩|⟨h,_⟩<;>rw[h]<;>assumption
 have F:g∈x.S:=by rcases j with⟨_,h⟩|⟨_,h⟩<;>rw[h]<;>assumption
 have D:E d g:=by
  rcases j with⟨c,f⟩|⟨c,f⟩<;>rw[c,f]
  .exact o
  .exact X.symm _ _ o
 have N:∀u∈x.S,∀v∈x.S,x.lead u=x.lead d->x.lead v=x.lead g->E u v:=λu y v z B C=>X.trans _ _ _ (H.1 u y d K B) (X.trans _ _ _ D (H.1 g F v z C.symm));have M:∀p∈x.S,∀q∈x.S,(Yq wd pt x a b r d g n).1.lead p=(Yq wd pt x a b r d g n).1.lead q->E p q:=λp s q w e=>by
  rw[L p s,L q w]at e;by_cases c:x.lead p=x.lead d<;>by_cases f:x.lead q=x.lead d
  .exact H.1 p s q w (c.trans f.symm)
  .rw[Gp c,Gi f]at e;exact N p s q w c e.symm
  .rw[Gi c,Gp f]at e;exact X.symm _ _ (N q w p s f e)
  .rw[Gi c,Gi f]at e;exact H.1 p s q w e
 refine{M,λk l A m=>?_};rcases List.mem_append.mp m with h|h
 .exact H.2 k l A (List.mem_append_left _ h)
 .obtain⟨c,f,O⟩:=J.pnd k l A m;have rn:A=Gh:=by
   rcases Uk (show(k,l,A)∈(zm _ _ _ []).2 from h)with h|⟨c,_⟩
   .simp at h
   .exact c
  obtain⟨B,C⟩:=O rn;have t:=mi.mp C;exact X.cong k c l f B {t.1,λi u v y z=>M u (I.pt_ k c u (List.mem_of_getElem? y)) v (I.pt_ l f v (List.mem_of_getElem? z)) (t.2 i u v y z)}
theorem Ah{r:Option ρ}{d e:Nat}{c:Option ρ}(h:(d,e,c)∈(Yq wd pt x a b r lo hi cl).2):c=Gh:=by
 rcases Uk (show(d,e,c)∈(zm _ _ _ []).2 from h)with h|⟨f,_⟩
 .simp at h
 .exact f
def cls(x:gK W ρ):Nat:=x.S.countP λp=>decide (x.lead p=p)
def Ud(x:gK W ρ):Nat:=(x.S.map λp=>if x.lead p=p then(x.Xr p).length else 0).sum
theorem xX{a:Type}{p q:a->Bool}:∀{l:List a},(∀x∈l,p x=Gf->q x=Gf)->l.countP p<=l.countP q
 |[],_=>by simp
 |x::r,h=>by
  have d:=xX (l:=r) (λy c=>h y (List.mem_cons_of_mem _ c));have b:=h x List.mem_cons_self;rw[List.countP_cons,List.countP_cons];cases e:p x with
  |true=>rw[b e];simp;exact d
  |false=>simp;ext
theorem qZ{d:Type}{p q:d->Bool}:∀{l:List d},(∀x∈l,p x=Gf->q x=Gf)->(∃x∈l,q x=Gf/\p x=Gs)->l.countP p<l.countP q
 |[],_,h=>by obtain⟨x,a,_⟩:=h;simp at a
 |x::r,h,⟨y,a,b,c⟩=>by
  rw[List.countP_cons,List.countP_cons];rcases List.mem_cons.mp a with rfl|a
  .have:=xX (l:=r) (λy a=>h y (List.mem_cons_of_mem _ a));rw[b,c];simp;lia
  .have g:=qZ (l:=r) (λy a=>h y (List.mem_cons_of_mem _ a)) ⟨y,a,b,c⟩;have f:=h x List.mem_cons_self;cases e:p x with
   |true=>rw[f e];simp;exact g
   |false=>simp;lia
theorem HP{f a:Nat->Nat}:∀{S:List Nat},(∀p∈S,f p=a p)->(S.map f).sum=(S.map a).sum:=λh=>by rw[List.map_congr_left h]
theorem qR{f c:Nat->Nat}{g k:Nat}(i:g≠k):∀{S:List Nat},S.Nodup->g∈S->k∈S->c g+c k=f g+f k->(∀p∈S,p≠g->p≠k->c p=f p)->(S.map c).sum=(S.map f).sum
 |[],_,h,_,_,_=>by simp at h
 |x::r,b,w,A,e,h=>by
  rw[List.nodup_cons]at b;have n:∀{u v:Nat}{S:List Nat},S.Nodup->v∈S->u∉S->(∀p∈S,p≠u->p≠v->c p=f p)->(S.map c).sum+f v=(S.map f).sum+c v:=by
   intro u v S;induction S with
   |nil=>intro _ h;simp at h
   |cons z s B=>
    intro b m d t;rw[List.nodup_cons]at b;simp only[List.mem_cons,not_or]at d;simp only[List.map_cons,List.sum_cons];rcases List.mem_cons.mp m with rfl|m
    .have:(s.map c).sum=(s.map f).sum:=HP λp a=>t p (List.mem_cons_of_mem _ a) (λz=>d.2 (z▸a)) (λz=>b.1 (z▸a));lia
    .have:=B b.2 m d.2 λp a=>t p (List.mem_cons_of_mem _ a);have C:=t z List.mem_cons_self (Gn d.1) (λy=>b.1 (y▸m));lia
  simp only[List.map_cons,List.sum_cons];by_cases l:x=g
  .subst l;have j:k∈r:=(List.mem_cons.mp A).resolve_left (Gn i);have:=n (u:=x) b.2 j b.1 λp a o q=>h p (List.mem_cons_of_mem _ a) o q;lia
  .by_cases m:x=k
   .subst m;have d:g∈r:=(List.mem_cons.mp w).resolve_left i;have:=n (u:=x) b.2 d b.1 λp a o q=>h p (List.mem_cons_of_mem _ a) q o;lia
   .have d:g∈r:=(List.mem_cons.mp w).resolve_left (Gn l);have j:k∈r:=(List.mem_cons.mp A).resolve_left (Gn m);have:=qR i b.2 d j e λp a=>h p (List.mem_cons_of_mem _ a);have:=h x List.mem_cons_self l m;lia
theorem Jn{f:Nat->Nat}:∀{S:List Nat}{p:Nat},p∈S->f p<=(S.map f).sum
 |x::r,p,h=>by
  simp only[List.map_cons,List.sum_cons];rcases List.mem_cons.mp h with rfl|h
  .lia
  .have:=Jn (f:=f) h;lia
theorem Wk.less{r:Option ρ}(I:Wk wd pt x (pend++[(a,b,r)]))(i:x.lead a≠x.lead b)(d:(lo=a/\hi=b)\/(lo=b/\hi=a))(v:Ch x.up lo cl):
  cls (Yq wd pt x a b r lo hi cl).1<cls x/\Ud (Yq wd pt x a b r lo hi cl).1=Ud x/\(Yq wd pt x a b r lo hi cl).2.length<=Ud x/\(Yq wd pt x a b r lo hi cl).1.links.length=x.links.length+1:=by
 obtain⟨J,L⟩:=I.join i d v;obtain⟨w,y,_⟩:=I.pnd a b r (by simp);have n:lo∈x.S:=by rcases d with⟨h,_⟩|⟨h,_⟩<;>rw[h]<;>assumption
 have m:hi∈x.S:=by rcases d with⟨_,h⟩|⟨_,h⟩<;>rw[h]<;>assumption
 have c:x.lead lo≠x.lead hi:=by
  rcases d with⟨j,g⟩|⟨j,g⟩<;>rw[j,g]
  .exact i
  .exact Gn i
 have l:=I.ld lo n;have q:=I.idem lo n;have t:=I.ld hi m;have s:=I.idem hi m;have f:∀p∈x.S,(Yq wd pt x a b r lo hi cl).1.lead p=p->x.lead p=p/\p≠x.lead lo:=λp k e=>by
  rw[L p k]at e;by_cases h:x.lead p=x.lead lo
  .rw[Gp h]at e;rw[<-e,s]at h;exact absurd h.symm c
  .rw[Gi h]at e;exact{e,λz=>h (by rw[e];exact z)}
 refine{qZ (λp k e=>Gw (f p k (TC e)).1) {x.lead lo,l,Gw q,Gr λz=>(f _ l z).2 Xb},?_,?_,by simp[Yq,Ua]}
 .refine qR c I.nd l t ?_ λp k j g=>?_
  .have o:¬(Yq wd pt x a b r lo hi cl).1.lead (x.lead lo)=x.lead lo:=λz=>(f _ l z).2 rfl;have u:(Yq wd pt x a b r lo hi cl).1.lead (x.lead hi)=x.lead hi:=by rw[L _ t,s,Gi (Gn c)]
   rw[Gi o,Gp u,Gp q,Gp s];have:(Yq wd pt x a b r lo hi cl).1.Xr (x.lead hi)=x.Xr (x.lead hi)++x.Xr (x.lead lo):=by simp[Yq,Ua]
   rw[this,List.length_append];lia
  .have:(Yq wd pt x a b r lo hi cl).1.Xr p=x.Xr p:=by simp[Yq,Ua,g]
   rw[this];by_cases e:x.lead p=p
   .have o:(Yq wd pt x a b r lo hi cl).1.lead p=p:=by rw[L p k,Gi (by rw[e];exact j),e]
    rw[Gp e,Gp o]
   .have o:¬(Yq wd pt x a b r lo hi cl).1.lead p=p:=λz=>e (f p k z).1;rw[Gi e,Gi o]
 .have j:=scan_len (ρ:=ρ) (ky:=Zp wd pt (Zd {x with links:=x.links++[(a,b,r)],Xj:=gU x.Xj a b x.links.length,up:=Xw x.up hi cl} (x.lead lo) (x.lead hi))) (l:=x.Xr (x.lead lo)) (t:=x.tab) (f:=[]);have g:=Jn (f:=λp=>if x.lead p=p then(x.Xr p).length else 0) l;simp only[q,Gp]at g;refine Tw j (by simpa[Ud]using g)
end
variable{W ρ:Type}[DecidableEq W]
def Xe(pt:Nat->List Nat)(S:List Nat)(q:Nat):List Nat:=S.flatMap λp=>List.replicate ((pt p).count q) p
def iA(wd:Nat->W)(pt:Nat->List Nat)(S:List Nat)(k:W×List Nat):Option Nat:=S.find? λp=>decide (Zp wd pt id p=k)
def fresh(wd:Nat->W)(pt:Nat->List Nat)(S:List Nat):gK W ρ:={S,id,λp=>[p],Xe pt S,iA wd pt S,[],λ_ _=>Gh,λ_=>Gh}
theorem JD{α:Type}(c:Cn (α:=α) [] p q):p=q:=by
 induction c with
 |refl _=>rfl
 |symm _ a=>exact a.symm
 |trans _ _ a b=>exact a.trans b
 |link m=>simp at m
theorem AQ{b:Nat->W}{a:Nat->List Nat}(nd:S.Nodup)(j:∀p∈S,∀q∈a p,q∈S)(inj:∀p∈S,∀q∈S,b p=b q->a p=a q->p=q):Wk (ρ:=ρ) b a (fresh b a S) [] where
 nd:=nd
 pt_:=j
 ld:=λp h=>h
 idem:=λ_ _=>rfl
 Qce:=λl r _ p=>by show p∈[l]↔p∈S/\p=l;simp only[List.mem_singleton];exact{λe=>{e▸r,e},λe=>e.2}
 Qlt:=λl _ _=>by simp[fresh]
 Qjo:=λl _ p g=>by obtain⟨u,n,h⟩:=List.mem_flatMap.mp g;rw[List.mem_replicate]at h;rw[h.2];exact n
 Qwd:=λp g q i=>List.mem_flatMap.mpr {p,g,List.mem_replicate.mpr {by have:=List.count_pos_iff.mpr i;show(a p).count q≠0;lia,Xb}}
 tabS:=λk u h=>by
  have h:S.find? (λp=>decide (Zp b a id p=k))=Ga u:=h;have d:=List.mem_of_find?_eq_some h;have f:Zp b a id u=k:=TC (by simpa using List.find?_some h);subst f;exists d,Xb,λq i=>?_
  .simp only[Zp,List.map_id]at i;exact j u d q i
  .simp[Zp,fresh]
 Qsp:=λp g=>by
  show∃u,S.find? (λq=>decide (Zp b a id q=Zp b a id p))=Ga u/\_;cases e:S.find? (λq=>decide (Zp b a id q=Zp b a id p))with
  |none=>have:=List.find?_eq_none.mp e p g;simp at this
  |some u=>have d:=List.mem_of_find?_eq_some e;have f:Zp b a id u=Zp b a id p:=TC (by simpa using List.find?_some e);simp only[Zp,List.map_id,Dg]at f;exact{u,Xb,.lead d g (inj u d p g f.1 f.2)}
 pnd:=λ_ _ _ h=>by simp at h
 fst:={λ_ _ h=>by simp[fresh]at h,λ_ _ _ h=>by simp[fresh]at h,λ_ _ _ _ h=>by simp[fresh]at h,λ_ _ _ _ h=>by simp[fresh]at h,λp _=>{[p],.top Xb},λ_ _ h=>by simp[fresh]at h}
 lnk:=λ_ _ _ _ h=>by simp[fresh]at h
 conn:=λp _ q _=>{λ(e:p=q)=>by subst e;exact .refl _,λc=>JD c}
 root:=λp q l m _ _ d f=>by have n:l=[p]:=d.uniq (.top Xb);have o:m=[q]:=f.uniq (.top Xb);subst n o;simp[Z1,fresh]
theorem Al(a:Nat->List Nat)(S:List Nat)(p q:Nat):Xe a (S++[p]) q=Xe a S q++List.replicate ((a p).count q) p:=by simp[Xe]
theorem As(b:Nat->W)(a:Nat->List Nat)(c:∀q∈S,Zp b a id q≠Zp b a id p)(k:W×List Nat):iA b a (S++[p]) k=if k=Zp b a id p then Ga p else iA b a S k:=by
 unfold iA;rw[List.find?_append];by_cases h:k=Zp b a id p
 .rw[Gp h];have:S.find? (λp=>decide (Zp b a id p=k))=Gh:=List.find?_eq_none.mpr λq d=>by have:=c q d;simp[h,this]
  rw[this];simp[h]
 .rw[Gi h];have:[p].find? (λp=>decide (Zp b a id p=k))=Gh:=by simp[Gn h]
  rw[this,Option.or_none]
end Nt
namespace Sb
open PySem PySem.Spec PyProof.Rows L2 Nt
variable{p:Nat}{S:List Nat}{f:Nat->V}{b:Gc}
def ki(p:Nat):X7:=.inl (p:Int)
def dS(S:List Nat)(f:Nat->V):List (X7×V):=S.map λp=>(ki p,f p)
theorem Jr{q:Nat}(h:ki p=ki q):p=q:=by unfold ki at h;injection h with h;lia
theorem Hk(p:Nat):kV (ki p)=jv p:=rfl
theorem jB(h:p∈S):Xh (dS S f) (ki p)=Ga (f p):=by
 induction S with
 |nil=>simp at h
 |cons q r b=>
  by_cases e:q=p
  .subst e;exact X6 (p:=(ki q,f q)) rfl
  .have a:¬(ki q=ki p):=λz=>e (Jr z);show Xh ((ki q,f q)::dS r f) (ki p)=_;rw[Xv (p:=(ki q,f q)) a];exact b ((List.mem_cons.mp h).resolve_left λz=>e z.symm)
theorem pk(h:p∉S):Xh (dS S f) (ki p)=Gh:=by
 induction S with
 |nil=>exact m8
 |cons q r b=>simp only[List.mem_cons,not_or]at h;have a:¬(ki q=ki p):=λz=>h.1 (Jr z).symm;show Xh ((ki q,f q)::dS r f) (ki p)=_;rw[Xv (p:=(ki q,f q)) a];exact b h.2
theorem vF:(Xh (dS S f) (ki p)).isSome=decide (p∈S):=by
 by_cases h:p∈S
 .rw[jB h,Gw h];rfl
 .rw[pk h,Gr h];rfl
theorem Vr(S:List Nat)(f:Nat->V):(dS S f).length=S.length:=by simp[dS]
theorem qx{v:V}(h:p∈S):Vm (dS S f) (ki p) v=dS S (λq=>if q=p then v else f q):=by
 unfold Vm;have a:((dS S f).any λb=>decide (b.1=ki p))=Gf:=by rw[Jb,jB h];rfl
 rw[Gp a];unfold dS;rw[List.map_map];refine List.map_congr_left λq _=>?_;show(if ki q=ki p then(ki q,v)else(ki q,f q))=(ki q,if q=p then v else f q);by_cases e:q=p
 .subst e;rw[Gp Xb,Gp rfl]
 .rw[Gi (λz=>e (Jr z)),Gi e]
theorem jn{v:V}(h:p∉S):Vm (dS S f) (ki p) v=dS (S++[p]) (λq=>if q=p then v else f q):=by rw[B1 _ (pk h)];unfold dS;rw[List.map_append,List.map_cons,List.map_nil];show _=_++[(ki p,if p=p then v else f p)];rw[Gp rfl];congr 1;refine List.map_congr_left λq a=>?_;show _=(ki q,if q=p then v else f q);rw[Gi (λz:q=p=>h (z▸a))]
theorem W8{g:Nat->V}(h:∀p∈S,f p=g p):dS S f=dS S g:=List.map_congr_left λp a=>by rw[h p a]
inductive Ji where
 |told (n:Nat)
 |asked
def jk(H:Hp)(v:V):Option Ji->Prop
 |none=>v=.non
 |some (.told n)=>∃c,v=.ref c/\H c=Ga (.tup [.str "told",jv n])
 |some .asked=>∃c,v=.ref c/\H c=Ga (.tup [.str "asked"])
theorem jk.Qs{H d:Hp}(e:Q4 H d){v:V}:∀{r:Option Ji},jk H v r->jk d v r
 |none,h=>h
 |some (.told n),⟨c,a,b⟩=>{c,a,e _ _ b}
 |some .asked,⟨c,a,b⟩=>{c,a,e _ _ b}
abbrev Lk:=Nat×Nat×Option Ji
inductive Ri(H:Hp)(v:V)(l:Lk):Prop
 |mk (c:_) (r:_) (h0:v=.ref c) (h1:H c=Ga (.tup [jv l.1,jv l.2.1,r])) (h2:jk H r l.2.2):Ri H v l
theorem Ri.Qs{H a:Hp}(e:Q4 H a){v:V}{l:Lk}(h:Ri H v l):Ri a v l:=by obtain⟨c,r,b,d,f⟩:=h;exact{c,r,b,e _ _ d,f.Qs e}
abbrev Nn:=gK Tb Ji
def Yi(fs:List Fm)(p:Nat):Tb:=(fs.getD p (Em,[])).1
def Zq(fs:List Fm)(p:Nat):List Nat:=(fs.getD p (Em,[])).2
theorem jd{a:List Fm}(h:p<a.length):a[p]?=Ga (Yi a p,Zq a p):=by unfold Yi Zq;rw[List.getD_eq_getElem?_getD,List.getElem?_eq_getElem h];rfl
structure Na where
 f:Gc
 l:Gc
 m:Gc
 u:Gc
 t:Gc
 k:Gc
 a:Gc
 v:Gc
 ml:Nat->Gc
 ul:Nat->Gc
def Xi(A:Na):List (Tb×V):=[("forms",.ref A.f),("leads",.ref A.l),("members",.ref A.m),("users",.ref A.u),("table",.ref A.t),("links",.ref A.k),("link_at",.ref A.a),("above",.ref A.v)]
def ov:Option Nat->V
 |none=>.non
 |some p=>jv p
structure Ap(A:Na)(S:List Nat):Prop where
 lm:A.l≠A.m
 lu:A.l≠A.u
 lv:A.l≠A.v
 mu:A.m≠A.u
 mv:A.m≠A.v
 uv:A.u≠A.v
 kf:A.k≠A.f
 mm:∀p∈S,∀q∈S,A.ml p=A.ml q->p=q
 uu:∀p∈S,∀q∈S,A.ul p=A.ul q->p=q
 mul:∀p∈S,∀q∈S,A.ml p≠A.ul q
 mkf:∀p∈S,A.ml p≠A.k/\A.ml p≠A.f
 ukf:∀p∈S,A.ul p≠A.k/\A.ul p≠A.f
structure Z9(P:Gg)(w:Gu)(C:Gc)(H:Hp)(n:Gc)(A:Na)(fs:List Fm)(tb:Nat)(x:Nn):Prop where
 ob:∃dx,H n=Ga (.ins C dx (Xi A))
 fo:∃ws,H A.f=Ga (.lst ws)/\Paired (Rk H) ws fs
 le:H A.l=Ga (.dK (dS x.S λp=>jv (x.lead p)))
 me:H A.m=Ga (.dK (dS x.S λp=>.ref (A.ml p)))
 us:H A.u=Ga (.dK (dS x.S λp=>.ref (A.ul p)))
 ta:∃zw,DH P w H A.t zw/\zw.length<=tb/\∀k:Fm,Yh zw (Xg k)=(x.tab k).map jv
 li:∃ls,H A.k=Ga (.lst ls)/\Paired (Ri H) ls x.links
 at_:∃zw,H A.a=Ga (.dT zw)/\zw.length<=2*x.links.length/\∀i j:Nat,Xh zw [ki i,ki j]=(x.Xj i j).map jv
 ab:H A.v=Ga (.dK (dS x.S λp=>ov (x.up p)))
 ml:∀p∈x.S,H (A.ml p)=Ga (.lst ((x.mem p).map jv))
 ul:∀p∈x.S,H (A.ul p)=Ga (.lst ((x.Xr p).map jv))
 ap:Ap A x.S
def gF(A:Na)(S:List Nat)(b:Gc):Prop:=b=A.l\/b=A.m\/b=A.u\/b=A.t\/b=A.k\/b=A.a\/b=A.v\/∃p∈S,b=A.ml p\/b=A.ul p
structure R3(A:Na)(S:List Nat)(H H':Hp):Prop where
 keep:∀b o,H b=Ga o->¬gF A S b->H' b=Ga o
 there:∀b,H' b=Gh->H b=Gh
theorem R3.trans{A:Na}{H a c:Hp}(x:R3 A S H a)(y:R3 A S a c):R3 A S H c:={λb o e h=>y.keep b o (x.keep b o e h) h,λb h=>x.there b (y.there b h)}
theorem R3.of{A:Na}{H a:Hp}(g:Q6 H a):R3 A S H a:={λb o e _=>g b o e,λb h=>g.free h}
theorem R3.zj{A:Na}{S:List Nat}{H:Hp}{b:Gc}{o:HO}(h:gF A S b):R3 A S H (zj H b o):=⟨λc u e a=>by rw[Qg (show c≠b fromλz=>a (by rw[z];exact h))];exact e,λc a=>by
 by_cases e:c=b
 .subst e;rw[Qb]at a;cases a
 .rw[Qg e]at a;exact a⟩
section
variable{P:Gg}{w:Gu}{C:Gc}{H H':Hp}{n:Gc}{A:Na}{fs:List Fm}{tb:Nat}{x:Nn}
theorem Z9.own(X:Z9 P w C H n A fs tb x)(h:gF A x.S b):(∃a,H b=Ga (.dK a))\/(∃a,H b=Ga (.dT a))\/(∃o,H b=Ga (.ext o))\/∃d,H b=Ga (.lst d):=by
 obtain⟨a,D,_⟩:=X.ta;obtain⟨f,L,_⟩:=X.li;obtain⟨e,T,_⟩:=X.at_;rcases h with rfl|rfl|rfl|rfl|rfl|rfl|rfl|⟨p,c,rfl|rfl⟩
 .exact .inl {_,X.le}
 .exact .inl {_,X.me}
 .exact .inl {_,X.us}
 .exact .inr (.inr (.inl {_,D.at_}))
 .exact .inr (.inr (.inr {_,L}))
 .exact .inr (.inl {_,T})
 .exact .inl {_,X.ab}
 .exact .inr (.inr (.inr {_,X.ml p c}))
 .exact .inr (.inr (.inr {_,X.ul p c}))
theorem Z9.n7(X:Z9 P w C H n A fs tb x){a:List V}(h:H b=Ga (.tup a)):¬gF A x.S b:=λz=>by rcases X.own z with⟨_,e⟩|⟨_,e⟩|⟨_,e⟩|⟨_,e⟩<;>rw[h]at e<;>cases e
theorem Z9.zC(X:Z9 P w C H n A fs tb x)(h:H b=Gh):¬gF A x.S b:=λz=>by rcases X.own z with⟨_,e⟩|⟨_,e⟩|⟨_,e⟩|⟨_,e⟩<;>rw[h]at e<;>cases e
theorem Z9.same(g:Q6 H H')(X:Z9 P w C H n A fs tb x):Z9 P w C H' n A fs tb x:=by obtain⟨j,s⟩:=X.ob;obtain⟨t,k,l⟩:=X.fo;obtain⟨b,D,f,i⟩:=X.ta;obtain⟨r,o,q⟩:=X.li;obtain⟨m,d,e⟩:=X.at_;have c:=Q4.of g;exact{{j,g _ _ s},{t,g _ _ k,L2.Paired.Z8 l λ_ _ h=>h.Qs c},g _ _ X.le,g _ _ X.me,g _ _ X.us,{b,{g _ _ D.at_,Zi c D.keys},f,i},{r,g _ _ o,L2.Paired.Z8 q λ_ _ h=>h.Qs c},{m,g _ _ d,e},g _ _ X.ab,λp a=>g _ _ (X.ml p a),λp a=>g _ _ (X.ul p a),X.ap}
theorem Z9.keep(X:Z9 P w C H n A fs tb x)(a:∀b o,H b=Ga o->(gF A x.S b\/b=A.f\/b=n)->H' b=Ga o)(d:Q4 H H'):Z9 P w C H' n A fs tb x:=by
 obtain⟨j,s⟩:=X.ob;obtain⟨t,k,l⟩:=X.fo;obtain⟨c,D,g,i⟩:=X.ta;obtain⟨r,o,q⟩:=X.li;obtain⟨m,e,f⟩:=X.at_;refine⟨{j,a _ _ s (.inr (.inr Xb))},{t,a _ _ k (.inr (.inl Xb)),L2.Paired.Z8 l λ_ _ h=>h.Qs d},a _ _ X.le (.inl (.inl Xb)),a _ _ X.me (.inl (.inr (.inl Xb))),a _ _ X.us (.inl (.inr (.inr (.inl Xb)))),{c,{a _ _ D.at_ (.inl (.inr (.inr (.inr (.inl Xb))))),Zi d D.keys},g,i},
  {r,a _ _ o (.inl (.inr (.inr (.inr (.inr (.inl Xb)))))),L2.Paired.Z8 q λ_ _ h=>h.Qs d},{m,a _ _ e (.inl (.inr (.inr (.inr (.inr (.inr (.inl Xb))))))),f},a _ _ X.ab (.inl (.inr (.inr (.inr (.inr (.inr (.inr (.inl Xb)))))))),λp b=>?_,λp b=>?_,X.ap⟩
 .exact a _ _ (X.ml p b) (.inl (.inr (.inr (.inr (.inr (.inr (.inr (.inr {p,b,.inl Xb}))))))))
 .exact a _ _ (X.ul p b) (.inl (.inr (.inr (.inr (.inr (.inr (.inr (.inr {p,b,.inr Xb}))))))))
theorem Z9.mono{a:Nat}(h:tb<=a)(X:Z9 P w C H n A fs tb x):Z9 P w C H n A fs a x:=by obtain⟨b,D,d,c⟩:=X.ta;exact{X.ob,X.fo,X.le,X.me,X.us,{b,D,by ext,c},X.li,X.at_,X.ab,X.ml,X.ul,X.ap}
end
end Sb
namespace L2
open PySem PySem.Spec PyProof.Rows
variable{X:Cx}{σ:St}{H:Hp}
inductive xA(P:Gg)(w:Gu)(x:V)(vs:List V)(H:Hp)(Q:VK):Prop
 |mk (d:_) (b:_) (dv:_) (zw:_) (k:_) (h0:x=.ref d) (h1:vs=[.ref b,dv]) (h2:DH P w H d zw) (h3:Og H b k) (h4:zw.length<Gj) (h5:(∀v,Yh zw k=Ga v->Q v H)) (h6:(Yh zw k=Gh->Q dv (zj H d (V5 P w d (zw++[(k,b,dv)]))))):xA P w x vs H Q
def Hy(P:Gg)(w:Gu):V->List V->Hp->VK->Prop:=λx a H Q=>xA P w x a H Q
theorem BQ(a:X.A.units+64<DA):hH X "dict.setdefault" (Hy X.prog X.w):=by
 intro o s Z H x Y v W Q I S R h;obtain⟨d,b,i,a,k,rfl,rfl,D,G,V,N,O⟩:=h;cases(show v=Value.ref d from S);obtain⟨T,t,rfl,P,r⟩:=vals2 R;cases(show T=Value.ref b from P);obtain⟨z,m,j,c,l⟩:=jy I D.at_ D.keys;have M:a.length=j.length:=Gq c;refine SU F.slot_dict_setdefault l.typeIs F.entry_dict_setdefault (F.args_dict_setdefault_3 _ _ _) (Wt (Vp X.prog X.w) d b m t) {by first|(show X.A.units+1+10<DA;lia)|(show X.A.units+1+1+10<DA;lia),k,j,G.is I,l,by lia,λp K=>?_,λJ U g L=>?_}
 .have e:=c.val k;rw[K]at e;cases q:Yh a k with
  |none=>rw[q]at e;exact(show False from e).elim
  |some y=>rw[q]at e;exact{y,H,I.tok _,e,N y q}
 .have e:=c.val k;rw[J]at e;cases q:Yh a k with
  |some y=>rw[q]at e;exact(show False from e).elim
  |none=>obtain⟨ob,w,u,n,A,B,C,_,E⟩:=g;have f:KX (a++[(k,b,i)]) (j++[(k,b,t)]):=DU c ⟨Xb,Xb,r⟩;refine{i,_,I9 (ob:=V5 X.prog X.w d (a++[(k,b,i)])) I (by rw[D.at_];exact T9) L ⟨ob,n⟩ (p6 {by rw[List.length_append,List.length_singleton];lia,m,_,f,ob,w,u,n,A,B,C,E}),r,O q}
section
variable{X:Cx}{o e:TZ}{es:List TZ}{to:TE}{t:TA}{name:Tb}{apos cpos:SV}{id:String}{r:V->List V->Hp->VK->Prop}
theorem tR{b:List (Gc×Ef)}{s:Gk}{d:Gc}{c:List KE}(I:zv X b σ H s)(e:H d=Ga (V5 X.prog X.w d c)):
  s.TypeIs (.ref d) "dict"/\∀a,Value.ref d=.ref a->∃h,s.heap.get? a=Ga h/\h.dict=Gh:=by
 obtain⟨z,y,n,r,o,j,i,f,g,k,l,m⟩:=jt I e;exact{{o,f,g.1},λa e=>by cases e;exact{o,f,g.2.1}}
def sR(P:Gg)(w:Gu)(r:V->List V->Hp->VK->Prop)(to:TE)(t:TA):TE:=λσ H Q=>to σ H λx H1=>(∃d zw,x=.ref d/\H1 d=Ga (V5 P w d zw))/\t σ H1 λxs H2=>r x xs H2 Q
theorem n8(slot:Slot "dict" name id)(i:typeOf (.builtin id)=pure (.type "method_descriptor"))(z:hH X id r)(A:PE X o to)(y:PA X (e::es) t)
  (c:attributeBase o name X.env (eval o X.env)=eval o X.env:=by rfl)
  (g:((DS cpos (Tj (e::es) X.env)).all (λx=>!x.1)&&(backToKw cpos (keywordEach [] X.env)).all (λx=>x.1.isSome)
   &&decide ((e::es).length+([]:List LX).length+(if([]:List LX).isEmpty then 0 else 1)<30))=Gf:=by rfl)
  (f:(apos.endLine==cpos.line)=Gf:=by rfl)(B:Tj (e::es) X.env=(Gs,eval e X.env)::Tj es X.env:=by rfl)(b:(DS cpos (Tj es X.env)).any (·.1)=Gs:=by rfl):
  PE X (.Call (.Attribute o name apos) (e::es) [] cpos) (sR X.prog X.w r to t):=by
 intro a s j H Q I h;refine SR c g f rfl (Yx (A a s j H _ I h) λv J⟨x,m,k,F,ty,D⟩=>?_);obtain⟨d,C,rfl,q⟩:=ty;cases(show v=Value.ref d from F);obtain⟨u,w⟩:=tR k q;exists "dict",id,Ee,slot,i,u,w;have l:=y cpos a J j m _ k D;rw[B]at l⊢;refine Eh (by show(Gs||(DS cpos (Tj es X.env)).any (·.1))=Gs;rw[b]<;>rfl) (Lg ?_);exact Yx l λL K⟨M,n,p,G,E⟩=>z a K j n (.ref d) M _ L Q p rfl G E
end
theorem qd{c:TT}{f:TS}{D:Ends}(d:Nat->St->Hp->Prop)(g:∃m,d m σ H)
  (i:∀m σ H,d m σ H->c σ H λb H1=>if b=Gf then f {D with nx:=λa H'=>∃e,e<m/\d e a H',ct:=λa H'=>∃e,e<m/\d e a H',bk:=D.nx} σ H1 else D.nx σ H1)
  (mono:∀σ H Q e,(∀b H1,Q b H1->e b H1)->c σ H Q->c σ H e):uK c f D σ H:=by
 refine{d,g,λm σ H p=>mono σ H _ _ (λb H1 q=>?_) (i m σ H p)};cases b with
 |true=>exact{_,λa H' h=>h,q}
 |false=>exact q
theorem zv.turns{a:List (Gc×Ef)}{h:List (Option V)}{s:Gk}{h':Heap}{t':Nat}{fp:List Gc}(I:zv X a h H s)(k:∀b o,b∉fp->s.heap.get? b=Ga o->h'.get? b=Ga o)(g:∀b∈fp,gT X a H b):
  zv X a h H {s with heap:=h',toks:=t'}:=by
 have f:∀b u,H b=Ga u->b∉fp:=λb u e z=>by rw[(g b z).1]at e;cases e
 refine I.step (g':=s.gens) (d':=s.drawn) (ch:=fp) (λb t=>?_) (λb o _ _ d e _=>k b o d e) (λb o _ _ d e _=>{o.slots,k b o d e}) (λ_ _ _ _ n=>n)
  (λb o d e=>{o,k b o d e}) (λ_ _ e=>e) (λ_ _ _ e=>e) (λb i e=>{#[],by rw[e];simp}) (λm w=>?_) (λb u e=>?_) I.bare
 .obtain⟨r,i,v,j,l,p⟩:=g b t;exact⟨j,i,l,p⟩
 .obtain⟨o,j,i,l,r⟩:=w;exact{o,j,i,k _ o (λz=>(g _ z).2.1 Xb) l,r}
 .refine(I.Z3 b u e).iB (λc v d q=>k c v ?_ q) (λ_ q=>q) λ_ _ q=>q;rcases d with z|z
  .rw[z];exact f b u e
  .exact f c _ z
def jN(K:Gd)(a:Gc):It:=
 {λi H=>∃xs x,Za K H a xs/\xs[i]?=Ga x,λi H v H'=>∃c x,v=.ref c/\H c=Gh/\(∀xs,Za K H a xs->xs[i]?=Ga x)/\H'=zj H c (.tup [.int (i:Int),x]),λi H=>∃xs,Za K H a xs/\xs.length<=i}
theorem KH{P:Gg}{ae:Gu}{K:Gd}{V:List TZ}{k:Nat}{ad:SV}(a e d:Gc)(N:e≠d):ig P ae K (.Tuple V k ad) (jN K a) [e,d] e (λi h=>(∃l,IsEnum h e d i l)/\h.IsListIter d a i) where
 mem:=by simp
 obj:=λi h g b c=>by
  obtain⟨⟨l,f⟩,o,E,C,F⟩:=g;rcases List.mem_cons.mp c with rfl|c
  .exact{_,f,λI z=>nomatch z}
  .have:b=d:=by simpa using c
   subst this;exact{o,E,λI z=>by rw[F]at z;cases z}
 keep:=λi h h' g k=>by obtain⟨⟨l,f⟩,m⟩:=g;exact{{l,k e (by simp) _ f},m.at λo x=>k d (by simp) o x}
 item:=by
  intro X B hw A C i G s Q n R j r g D;subst B hw A;obtain⟨⟨l,f⟩,m⟩:=g;obtain⟨xs,x,t,v⟩:=D;obtain⟨ac,H,p,hz⟩:=j.list t;obtain⟨u,hu,ru⟩:=H.get v;refine wpAny_pyNext_enum_item f m p.isList (x:=u) (by simpa using hu) N λh' E aa L ag hk=>{_,Xb,?_};refine wpAny_letOwnedTupleGo_enum E λJ Y F=>?_;have O:e<s.heap.objs.size:=Heap.lt_size f;have Z:d<s.heap.objs.size:=by obtain⟨_,x,_⟩:=m;exact Heap.lt_size x
  have af:J.get? s.heap.objs.size=Ga {cls:=.type "tuple",data:=.seq #[.int i s.toks,u]}:=(F.2 _ (Tx O)).trans L;have ab:n s.heap.objs.size=Gh:=j.Z3.fresh (Gm _);have S:zv X G Q (zj n s.heap.objs.size (.tup [.int (i:Int),x])) {s with heap:=s.heap.push {cls:=.type "tuple",data:=.seq #[.int i s.toks,u]},toks:=s.toks}:=
   j.laid (a:=s.heap.objs.size) (o:=.tup [.int (i:Int),x]) (t':=s.toks) (λ_ _ q=>Heap.get?_push_of_some _ q) (Gm _) {by show 2<=Gj;decide,[.int i s.toks,u],.cons {_,Xb} (.cons ru .nil),_,Heap.get?_push_size _ Xb,Xb,_,Xb}
  have I:∀b∈[e,d],gT X G (zj n s.heap.objs.size (.tup [.int (i:Int),x])) b:=λb c=>by
   have M:b<s.heap.objs.size:=by
    rcases List.mem_cons.mp c with rfl|c
    .exact O
    .have:b=d:=by simpa using c
     subst this;exact Z
   refine{?_,(r b c).2};rw[Qg (Tf M)];exact(r b c).1
  have T:=S.turns (h':=J) (t':=s.toks+1) (fp:=[e,d]) (λb o c w=>?_) I
  .refine{.ref s.heap.objs.size,_,T,Xb,{_,x,Xb,ab,λU M=>by rw[j.qk M t];exact v,Xb},{{u,by simpa using Y},aa.at λo y=>(F.2 d N.symm).trans y},λb c=>(I b c).1}
  .have M:b≠e:=λz=>c (by simp[z]);have W:b≠d:=λz=>c (by simp[z]);refine(F.2 b M).trans ?_;rcases Heap.get?_push_cases (show(s.heap.push {cls:=.type "tuple",data:=.seq #[.int i s.toks,u]}).get? b=Ga o from w)with⟨rfl,rfl⟩|U
   .exact L
   .exact hk b o M W U
 done:=by intro X B hw A C i G s Q n R j r g D;subst B hw A;obtain⟨⟨l,f⟩,m⟩:=g;obtain⟨xs,t,I⟩:=D;obtain⟨ac,H,p,hz⟩:=j.list t;have F:=H.length;refine wpAny_pyNext_enum_end (j.ok.hd C) f m p.isList (Dh (by rw[List.size_toArray];lia)) λh' v=>{Xb,?_};exact j.turns (t':=s.toks) (fp:=[e,d]) (λb o c w=>v b o (λz=>c (by simp[z])) w) r
 self:=λ_ _ _ _ _ g h=>by obtain⟨⟨l,f⟩,_⟩:=g;exact L6 f h
inductive wV(K:Gd)(R:It->Hp->Prop)(vs:List V)(H1:Hp):Prop
 |mk (a:_) (xs:_) (h0:vs=[.ref a]) (h1:Za K H1 a xs) (h2:R (jN K a) H1):wV K R vs H1
def BD(K:Gd)(ta:TA):TI:=λσ H R=>ta σ H λa H1=>wV K R a H1
theorem yK{g:List TZ}{k:Nat}{l:SV}{a:TZ}{w:TA}{p j:SV}(B:Gl X "enumerate")(D:X.mg "enumerate"=Gh)(A:PA X [a] w)(F:Tj [a] X.env=[(Gs,eval a X.env)]:=by rfl):PI X (.Tuple g k l) (.Call (.Name "enumerate" p) [a] [] j) (BD X.K w):=by
 intro f s x H R I h;refine Bb (Ur I B D boot_enumerate (Dp (Yx (A j f s x H _ I h) λQ d⟨S,t,m,M,L⟩=>?_) F Xb));obtain⟨b,T,e,E,q⟩:=L;subst e;obtain⟨u,rfl,N⟩:=vals1 M;cases(show u=Value.ref b from N);obtain⟨J,P,K,O⟩:=m.list E;refine call_enumerate_list K.isList λz v r G C=>?_;have y:zv X f x t {d with heap:=z,toks:=d.toks}:=m.kept λb o e=>C b o e;refine L6 v {d.heap.objs.size+1,[d.heap.objs.size+1,d.heap.objs.size],_,_,t,Xb,y,KH b (d.heap.objs.size+1) d.heap.objs.size (Fo _),{{_,v},r},λc n=>?_,q};have i:d.heap.objs.size<=c:=by
  rcases List.mem_cons.mp n with e|n
  .rw[e];exact EE _
  .have:c=d.heap.objs.size:=by simpa using n
   rw[this];exact Gm _
 exact m.iK i (m.Z3.fresh i)
theorem yY{K:Gd}{a:Gc}{xs:List V}{g:TG}{k:TS}{D:Ends}(b:Nat->St->Hp->Prop)(l:b 0 σ H)
  (p:∀i σ H,i<=xs.length->b i σ H->Za K H a xs)
  (r:∀i x c σ H,xs[i]?=Ga x->b i σ H->H c=Gh->g (.ref c) σ (zj H c (.tup [.int (i:Int),x])) λh H2=>k {D with nx:=b (i+1),ct:=b (i+1),bk:=D.nx} h H2)
  (n:∀σ H,b xs.length σ H->D.nx σ H):
  ∃W:Nat->Nat->St->Hp->Prop,(∃m,W 0 m σ H)/\∀i m σ H,W i m σ H->((jN K a).stop i H/\D.nx σ H)\/((jN K a).go i H/\∃N:St->Hp->Prop,(∀f d,N f d->∃e,e<m/\W (i+1) e f d)/\∀x d,(jN K a).yld i H x d->g x σ d λh H2=>k {D with nx:=N,ct:=N,bk:=D.nx} h H2):=by
 exists λi m σ H=>m=xs.length - i/\i<=xs.length/\b i σ H,{_,Xb,Gz _,l};rintro i m σ H ⟨rfl,o,pv⟩;have q:=p i σ H o pv;by_cases j:i<xs.length
 .refine .inr {{xs,xs[i],q,by simp[j]},b (i+1),λf d t=>{xs.length - (i+1),by ext,Xb,j,t},λv d y=>?_};obtain⟨c,x,rfl,e,s,rfl⟩:=y;exact r i x c σ H (s xs q) pv e
 .have e:i=xs.length:=by ext
  subst e;exact .inl {{xs,q,Gm _},n σ H pv}
end L2
namespace K03
open PySem L2 Sb Nt
variable{f C:Gc}{fd:Tq}
structure Ut(K:Gd)(mg:Tb->Option Value)(C:Gc):Prop where
 cl:gJ K C
 Qdq:Yv K C "forms"
 Vh:Yv K C "leads"
 members:Yv K C "members"
 Qe2:Yv K C "users"
 table:Yv K C "table"
 links:Yv K C "links"
 Qcn:Yv K C "link_at"
 above:Yv K C "above"
 mgC:mg "Net"=Ga (.ref C)
theorem U8(A:Na):(Xi A).lookup ("forms":Tb)=Ga (.ref A.f):=by rfl
theorem Yu(A:Na):(Xi A).lookup ("leads":Tb)=Ga (.ref A.l):=by rfl
theorem Vo(A:Na):(Xi A).lookup ("members":Tb)=Ga (.ref A.m):=by rfl
theorem Il(A:Na):(Xi A).lookup ("users":Tb)=Ga (.ref A.u):=by rfl
theorem qY(A:Na):(Xi A).lookup ("table":Tb)=Ga (.ref A.t):=by rfl
theorem Jh(A:Na):(Xi A).lookup ("links":Tb)=Ga (.ref A.k):=by rfl
theorem pe(A:Na):(Xi A).lookup ("link_at":Tb)=Ga (.ref A.a):=by rfl
theorem O8(A:Na):(Xi A).lookup ("above":Tb)=Ga (.ref A.v):=by rfl
theorem qm(A:Na):(Xi A).lookup ("take_in":Tb)=Gh:=by rfl
theorem pX(A:Na):(Xi A).lookup ("key_of":Tb)=Gh:=by rfl
theorem qu(A:Na):(Xi A).lookup ("equal":Tb)=Gh:=by rfl
theorem vL(A:Na):(Xi A).lookup ("merge":Tb)=Gh:=by rfl
theorem CZ(A:Na):(Xi A).lookup ("merge_link":Tb)=Gh:=by rfl
theorem tT(A:Na):(Xi A).lookup ("hang":Tb)=Gh:=by rfl
theorem wJ(A:Na):(Xi A).lookup ("give_over":Tb)=Gh:=by rfl
theorem pD(A:Na):(Xi A).lookup ("way":Tb)=Gh:=by rfl
theorem u7(A:Na):(Xi A).lookup ("way_up":Tb)=Gh:=by rfl
theorem xh(A:Na):(Xi A).lookup ("rows":Tb)=Gh:=by rfl
theorem Xu{H:Hp}{a:Gc}{S:List Nat}{f:Nat->V}{p:Nat}(h:H a=Ga (.dK (dS S f)))(b:p∈S):Vf H a (jv p) (Ga (f p)):=by have:=Vf.k (k:=ki p) h;rw[jB b,Hk]at this;exact this
theorem lG{i j:Nat}:decide (jv i=jv j)=decide (i=j):=by
 by_cases h:i=j
 .subst h;simp
 .rw[Gr h,Gr λz=>h (AO z)]
inductive vq(P:Gg)(w:Gu)(C:Gc)(vs:List V)(H:Hp)(Q:VK):Prop
 |mk (n:Gc) (A:Na) (fs:List Fm) (tb:Nat) (x:Nn) (p:Nat) (q:Nat) (h0:vs=[.ref n,jv p,jv q]) (h1:Z9 P w C H n A fs tb x) (h2:p∈x.S) (h3:q∈x.S) (h4:Q (.bl (decide (x.lead p=x.lead q))) H):vq P w C vs H Q
def lX(P:Gg)(w:Gu)(C:Gc):Sp:=λa H Q _=>vq P w C a H Q
inductive sd(P:Gg)(w:Gu)(C:Gc)(vs:List V)(H:Hp)(Q:VK):Prop
 |mk (n:Gc) (A:Na) (fs:List Fm) (tb:Nat) (x:Nn) (p:Nat) (h0:vs=[.ref n,jv p]) (h1:Z9 P w C H n A fs tb x) (h2:p<fs.length) (h3:(∀q∈Zq fs p,q∈x.S)) (h4:(Zq fs p).length<=1000000) (h5:∀(c:Gc)(H':Hp),Q6 H H'->H c=Gh->Rk H' (.ref c) (Zp (Yi fs) (Zq fs) x.lead p)->Q (.ref c) H'):sd P w C vs H Q
def lO(P:Gg)(w:Gu)(C:Gc):Sp:=λa H Q _=>sd P w C a H Q
inductive qC(P:Gg)(w:Gu)(C:Gc)(vs:List V)(H:Hp)(Q:VK):Prop
 |mk (n:Gc) (A:Na) (fs:List Fm) (tb:Nat) (x:Nn) (lo:Nat) (hi:Nat) (cl:List Nat) (h0:vs=[.ref n,jv lo,jv hi]) (h1:Z9 P w C H n A fs tb x) (h2:Ch x.up lo cl) (h3:(∀p∈cl,p∈x.S)) (h4:x.S.length<=1000000) (h5:∀(H':Hp),Z9 P w C H' n A fs tb {x with up:=Xw x.up hi cl}->(∀b o,H b=Ga o->b≠A.v->H' b=Ga o)->(∀b,H' b=Gh->H b=Gh)->Q .non H'):qC P w C vs H Q
def oF(P:Gg)(w:Gu)(C:Gc):Sp:=λa H Q _=>qC P w C a H Q
inductive xJ(P:Gg)(w:Gu)(C:Gc)(vs:List V)(H:Hp)(Q:VK):Prop
 |mk (n:Gc) (A:Na) (fs:List Fm) (tb:Nat) (x:Nn) (p:Nat) (l:List Nat) (h0:vs=[.ref n,jv p]) (h1:Z9 P w C H n A fs tb x) (h2:Ch x.up p l) (h3:(∀q∈l,q∈x.S)) (h4:l.length<=1000000) (h5:∀(r:Gc)(H':Hp),Q6 H H'->H r=Gh->H' r=Ga (.lst (l.map jv))->Q (.ref r) H'):xJ P w C vs H Q
def uQ(P:Gg)(w:Gu)(C:Gc):Sp:=λa H Q _=>xJ P w C a H Q
section
variable{P:Gg}{w:Gu}{K:Gd}{mg:Tb->Option Value}{base:Heap}
theorem P6:Q3 ["self","one","other"] ["self","one","other"] (Ql qb):=by eq_refl
theorem Ck(F:We K "equal" "Net.equal" qb f fd)(T:Ut K mg C):Qy P w K mg base Z5 1 f fd ["self","one","other"] (lX P w C):=by
 refine F.ok P6 (λo H Q E h=>?_) (λe A a s H o Q E l h=>?_)
 .obtain⟨n,A,i,m,x,p,q,rfl,_⟩:=h;rfl
 obtain⟨n,A,i,m,x,p,q,rfl,X,j,k,g⟩:=h;have c:=Je l;exists _,Qh (Qt (W0 Xn (Zx c (Qu (pv 0) rfl) (pv 1) (λ_ _=>rfl)) (Zx c (Qu (pv 0) rfl) (pv 2) (λ_ _=>rfl)) (Qr _)));obtain⟨b,d⟩:=X.ob;exists _,Xb,n,C,b,_,_,Xb,d,T.cl,T.Vh,Yu _,_,Xb,A.l,_,Xb,Xu X.le j,_,Xb,n,C,b,_,_,Xb,d,T.cl,T.Vh,Yu _,_,Xb,A.l,_,Xb,Xu X.le k,Xb;rw[lG];exact g
theorem mO:Q3 ["self","place","form"] ["self","place"] (Ql ja):=by eq_refl
theorem vn:(["part","self"]:List Tb).Nodup:=by decide+kernel
theorem Ku(F:We K "key_of" "Net.key_of" ja f fd)(j:Ut K mg C)(M:J2 mg):Qy P w K mg base Z5 1 f fd ["self","place"] (lO P w C):=by
 refine F.ok mO (λvs r O N d=>?_) (λac g ad s r vs O N Y d=>?_)
 .obtain⟨n,g,a,tb,x,p,rfl,_⟩:=d;rfl
 obtain⟨n,g,a,tb,x,p,rfl,X,B,W,hl,T⟩:=d;have Z:=Je Y;have nd:=mO.nd;exists _,Qc (Qz 2 nd (Qm Zc (Qu (pv 0) rfl) (pv 1)))
  (Qh (Qt (Zg (Qa (Qm Qo (pv 2) Qi) (Qa (Xm Vt rfl M.tuple TM (Qa
   (Vs (te:=ko (lZ K (Vz 1) "leads") (Vz 0)) (own:=["part"]) (fv:=[(0,"self")]) rfl (S:=(by eq_refl:Xy (Ql ja) _)) (.cons rfl (T3 Xb) rfl .nil) (Uj (Qm Qo (pv 2) Qi))
    (λ_ _ _ _ _=>Xc (i:=0) vn rfl (T3 Xb) (DJ Xb)) (λ_ _ _ _ _=>Wb) (λ_ _ _ _ _=>Zx Z (Qu (pv 1) rfl) (pv 0) (λ_ _=>rfl))) Qe)) Qe)))))
 subst_vars;obtain⟨t,H⟩:=X.ob;obtain⟨J,S,v⟩:=X.fo;have hw:p<J.length:=by rw[Gq v];exact B
 obtain⟨y,E,c,k,R,z,A⟩:=Qw v (List.getElem?_eq_getElem hw);and_intros;rw[jd B]at E;cases E;have Q:atI [V.str (Yi a p),V.ref k] (1:Int)=Ga (.ref k):=Qj (j:=1) rfl;exists _,Xb,n,C,t,_,_,Xb,H,j.cl,j.Qdq,U8 _,_,Xb,g.f,J,_,_,Xb,Xb,Za.of S,Qj (List.getElem?_eq_getElem hw);rw[R];refine{_,Xb,c,_,_,_,Xb,Xb,Q9.of z,Rz _ _,_,Xb,c,_,_,_,Xb,Xb,Q9.of z,Q,k,Xb,{_,Q9.of A},λab D=>?_};have s3:=Qf D (.lst []);refine U7 (K:=K) (a:=k) (xs:=(Zq a p).map jv) (small (by rw[List.length_map];lia)) (λi m o h=>(∃L,o=[L,Ga (.ref n)])/\Q6 r h/\m=((Zq a p).take i).map λq=>jv (x.lead q))
  {{_,Xb},s3,by simp} (λi m o h _ d=>Q9.of (d.2.1 _ _ A)) ?_ ?_
 .rintro i y m o h e aa ⟨⟨L,rfl⟩,b,rfl⟩ l;rw[List.getElem?_map]at e;cases eq:(Zq a p)[i]? with
  |none=>rw[eq]at e;cases e
  |some q=>
   rw[eq]at e;cases e;exists _,Xb,n,C,t,_,_,Xb,b _ _ H,j.cl,j.Vh,Yu _,_,Xb,g.l,_,Xb,Xu (b _ _ X.le) (W q (List.mem_of_getElem? eq)),l,{_,Xb},λG I u=>?_
   .rw[Qg (Qd u D)];exact b _ _ u
   .rw[List.take_add_one,eq,List.map_append];rfl
 .rintro m o h aa ⟨_,b,rfl⟩ l;rw[List.length_map,List.take_length]at l;refine{ab,_,Xb,.inl {Za.of l,λG U=>?_}};have s4:=Qf U (.tup ((Zq a p).map λq=>jv (x.lead q)));refine{by show 2<=Gj;decide,λe u=>?_};have I:=Qf u (.tup [.str (Yi a p),.ref G]);refine T e _ ((b.trans s4).trans I) (b.free (s4.free u)) {e,G,Xb,Qb,?_};rw[I _ _ Qb];simp only[Zp,List.map_map];rfl
theorem tm:Q3 ["self","place","found","stop"] ["self","place"] (Ql jG):=by eq_refl
theorem mq{o:Option Nat}:decide (ov o=V.non)= !o.isSome:=by
 cases o with
 |none=>rfl
 |some p=>rfl
theorem xK{b:Nat->Option Nat}{p:Nat}{l:List Nat}(h:Ch b p l){i:Nat}(a:i<l.length):b l[i]=l[i+1]?:=by
 induction h generalizing i with
 |@top p e=>
  have:i=0:=by simpa using a
  subst this;simpa using e
 |@step p q l e k d=>
  cases i with
  |zero=>obtain⟨r,c⟩:=k.head;subst c;simpa using e
  |succ j=>simp only[List.length_cons]at a;simpa using d (i:=j) (by lia)
theorem Pc(F:We K "way_up" "Net.way_up" jG f fd)(q:Ut K mg C):Qy P w K mg base Z5 1 f fd ["self","place"] (uQ P w C):=by
 refine F.ok tm (λU d o y e=>?_) (λaa j ac s d U o y N e=>?_)
 .obtain⟨n,j,G,S,x,p,a,rfl,_⟩:=e;rfl
 obtain⟨n,j,G,S,x,p,a,rfl,X,r,M,ab,H⟩:=e;have O:=Je N;have k:=tm.nd;show∃t,Ia ?my _ t/\_;let Y:Xk ?my jG 3:={_,Qh (Qt (pv 2))}
 let W:Xk ?my jG 2:=⟨_,Qc (Vd Gy (Qn Oy (pv 3) Uo (Qr _))
   (Qc (Zj (X0 Gv GQ GX Zy (pv 2) (Qa (pv 3) Qe)))
   (Qh (Qz 3 k (Zx O (Qu (pv 0) rfl) (pv 3) (λ_ _=>rfl)))))) Y.2⟩
 let V:Xk ?my jG 1:={_,Qc (Qz 3 k (pv 1)) W.2}
 exists _,Qc (Qz 2 k (Zu Qe)) V.2;obtain⟨z,Q⟩:=X.ob;refine{Gz _,λc h=>{_,Xb,?_}};have s0:=Qf h (.lst []);obtain⟨l',E⟩:=r.head;have I:a[0]?=Ga p:=by rw[E];rfl
 let R:Nat->St->Hp->Prop:=λu l m=>iN λi=>jK (u=a.length+1 - i) (i<=a.length) (l=[Ga (.ref n),Ga (jv p),Ga (.ref c),Ga (ov a[i]?)]) (m=zj d c (.lst ((a.take i).map jv)))
 refine qd R
  {_,0,Xb,Gz _,by rw[I];rfl,by simp} ?_ (λl d o Z J=>λe=>by obtain⟨T,b,v,A,B,D⟩:=e;exact{T,b,v,A,B,J _ _ D})
 rintro u l m ⟨i,rfl,hi,rfl,rfl⟩;exists _,Xb,Xb,_,Xb;rw[mq];rcases Tp i a.length with g|L
 .have b:a[i]?=Ga a[i]:=List.getElem?_eq_getElem g;have A:a[i]∈a:=List.getElem_mem g;rw[b];refine Yp ?_;exists _,Xb,.inl {Xb,_,Za.of Qb},_,Xb,c,_,_,Xb,Xb,Qb,(by rw[List.length_map,List.length_take,GV];ext);have v:Q6 d (zj (zj d c (.lst ((a.take i).map jv))) c (.lst ((a.take i).map jv++[jv a[i]]))):=by rw[Wu];exact Qf h _
  exists _,Xb,n,C,z,_,_,Xb,v _ _ Q,q.cl,q.above,O8 _,_,Xb,j.v,_,Xb,Xu (v _ _ X.ab) (M _ A),_,by ext,i+1,Xb,g,?_
  .rw[xK r g];rfl
  .rw[Wu,List.take_add_one,b,List.map_append];rfl
 .have b:a[i]?=Gh:=List.getElem?_eq_none L;have v:i=a.length:=by ext
  subst v;rw[b];refine Q5 ?_;rw[List.take_length];exact{_,Xb,H c _ (Qf h _) h Qb}
theorem xm:Q3 ["self","low","high","over","place","old_over"] ["self","low","high"] (Ql jP):=by eq_refl
theorem Ci(F:We K "hang" "Net.hang" jP f fd)(k:Ut K mg C):Qy P w K mg base Z5 1 f fd ["self","low","high"] (oF P w C):=by
 refine F.ok xm (λvs h J aa d=>?_) (λaf b ai s h vs J aa hr d=>?_)
 .obtain⟨n,b,fs,tb,x,U,o,y,rfl,_⟩:=d;rfl
 obtain⟨n,b,fs,tb,x,U,o,y,rfl,X,B,ac,ah,ab⟩:=d;have Q:=Je hr;have j:=xm.nd;show∃t,Ia ?my _ t/\_;let w3:Xk ?my jP 2:=⟨_,Qh (Vd Gy (Qn Oy (pv 4) Uo (Qr _))
   (Qc (Qz 5 j (Zx Q (Qu (pv 0) rfl) (pv 4) (λ_ _=>rfl)))
   (Qc (Ws Q (Qu (pv 0) rfl) (pv 4) (pv 3) rfl)
   (Qc (Qz 3 j (pv 4))
   (Qh (Qz 4 j (pv 5)))))))⟩
 let w2:Xk ?my jP 1:={_,Qc (Qz 4 j (pv 1)) w3.2}
 exists _,Qc (Qz 3 j (pv 2)) w2.2;obtain⟨m,E⟩:=X.ob;obtain⟨ag,M⟩:=B.head;exists _,Xb,_,Xb;have Y:n≠b.v:=Zo E X.ab (by intro z;cases z);let ae:Nat->St->Hp->Prop:=λW H I=>hA λ(u:Nat->Option Nat)(over:Nat)(Xx:List Nat)(Z:Option V)=>hB (W=Xx.length) (∀q∈Xx,u q=x.up q) (∀c g,Xx=c::g->Ch x.up c Xx) (Xx.Nodup) (∀q∈Xx,q∈x.S) (Xw u over Xx=Xw x.up o y) (H=[Ga (.ref n),Ga (jv U),Ga (jv o),Ga (jv over),Ga (ov Xx.head?),Z]) (I=zj h b.v (.dK (dS x.S λp=>ov (u p))))
 refine qd ae
  {_,x.up,o,y,Gh,Xb,λ_ _=>rfl,λc g a=>?_,B.nodup,ac,Xb,?_,?_} ?_ (λH h J T N=>λd=>by obtain⟨v,i,A,r,G,L⟩:=d;exact{v,i,A,r,G,N _ _ L})
 .rw[M]at a;cases a;exact B
 .rw[M];rfl
 .funext l
  by_cases e:l=b.v
  .subst e;rw[Qb];exact X.ab
  .rw[Qg e]
 rintro W H I ⟨u,over,Xx,Z,rfl,R,S,nd2,O,D,rfl,rfl⟩;exists _,Xb,Xb,_,Xb;rw[mq];cases Xx with
 |nil=>
  refine Q5 ?_;have a:Xw u over []=u:=rfl;rw[a]at D;refine ab _ ?_ (λl r i e=>by rw[Qg e];exact i) (λl e=>?_)
  .rw[<-D];have G:Q4 h (zj h b.v (.dK (dS x.S λp=>ov (u p)))):=Z0 λxs a=>by rw[X.ab]at a;cases a
   subst_vars;obtain⟨ws,N,f2⟩:=X.fo;obtain⟨ad,r,d2,d3⟩:=X.ta;obtain⟨ls,T,l2⟩:=X.li;obtain⟨kv,L,a2⟩:=X.at_;and_intros;refine⟨{m,by rw[Qg Y];exact E},{ws,by rw[Qg (Zo N X.ab (by intro z;cases z))];exact N,L2.Paired.Z8 f2 λ_ _ d=>d.Qs G},by rw[Qg X.ap.lv];exact X.le,by rw[Qg X.ap.mv];exact X.me,by rw[Qg X.ap.uv];exact X.us,
    {ad,{by rw[Qg (Zo r.at_ X.ab (by intro z;cases z))];exact r.at_,Zi G r.keys},d2,d3},{ls,by rw[Qg (Zo T X.ab (by intro z;cases z))];exact T,L2.Paired.Z8 l2 λ_ _ d=>d.Qs G},{kv,by rw[Qg (Zo L X.ab (by intro z;cases z))];exact L,a2},Qb,
    λp i=>by rw[Qg (Zo (X.ml p i) X.ab (by intro z;cases z))];exact X.ml p i,λp i=>by rw[Qg (Zo (X.ul p i) X.ab (by intro z;cases z))];exact X.ul p i,X.ap⟩
  .by_cases a:l=b.v
   .subst a;rw[Qb]at e;cases e
   .rw[Qg a]at e;exact e
 |cons c g=>
  refine Yp ?_;have r:=O c (by simp);have L:(zj h b.v (.dK (dS x.S λp=>ov (u p)))) n=Ga (.ins C m (Xi b)):=by rw[Qg Y];exact E
  have N:u c=g.head?:=by rw[R c (by simp)];have:=xK (S c g Xb) (i:=0) (by simp);simp only[List.getElem_cons_zero]at this;rw[this];cases g<;>rfl
  rw[List.nodup_cons]at nd2;have G:=Rm.k (k:=ki c) (v:=jv over) (@Qb h b.v (.dK (dS x.S λp=>ov (u p)))) (by rw[Vr,GV];ext);rw[Wu,qx r]at G;exists _,Xb,n,C,m,_,_,Xb,L,k.cl,k.above,O8 _,_,Xb,b.v,_,Xb,Xu Qb r,_,Xb,_,Xb,n,C,m,_,_,Xb,L,k.cl,k.above,O8 _,_,Xb,b.v,_,Xb,G,_,Xb,_,Xb,g.length,by simp,g9 u c over,c,g,Ga (ov (u c)),Xb,λq i=>?_,λT r2 A=>?_,nd2.2,λq i=>O q (by simp[i]),D,?_
  .unfold g9;rw[Gi (λz:q=c=>nd2.1 (z▸i))];exact R q (by simp[i])
  .have:=S c g rfl;subst A;exact this.suffix (a:=[c]) rfl
  .rw[N];rfl
  .congr 2;refine W8 λq _=>?_;unfold g9;by_cases a:q=c
   .rw[Gp a,Gp a];rfl
   .rw[Gi a,Gi a]
end
end K03
namespace Sb
open PySem PySem.Spec PyProof.Rows L2 Nt
theorem Yj{H:Hp}{a b:Gc}{o u:HO}(h:H a=Ga o)(k:H b=Ga u)(d:∀z:o=u,False):a≠b:=λz=>by subst z;rw[h]at k;exact d (Ti k)
section
variable{P:Gg}{w:Gu}{C:Gc}{H:Hp}{n:Gc}{A:Na}{fs:List Fm}{tb:Nat}{x:Nn}
theorem Z9.IV(X:Z9 P w C H n A fs tb x)(ld:Nat->Nat):Z9 P w C (zj H A.l (.dK (dS x.S λp=>jv (ld p)))) n A fs tb {x with lead:=ld}:=by
 obtain⟨q,j⟩:=X.ob;obtain⟨y,g,r⟩:=X.fo;obtain⟨c,D,l,m⟩:=X.ta;obtain⟨v,i,t⟩:=X.li;obtain⟨s,f,k⟩:=X.at_;have d:Q4 H (zj H A.l (.dK (dS x.S λp=>jv (ld p)))):=Z0 λz e=>by rw[X.le]at e;cases e
 have u:∀{b o},H b=Ga o->b≠A.l->(zj H A.l (.dK (dS x.S λp=>jv (ld p)))) b=Ga o:=λe h=>by rw[Qg h];exact e
 exact⟨{q,u j (Yj j X.le nofun)},{y,u g (Yj g X.le nofun),L2.Paired.Z8 r λ_ _ h=>h.Qs d},Qb,u X.me (Gn X.ap.lm),u X.us (Gn X.ap.lu),{c,{u D.at_ (Yj D.at_ X.le nofun),Zi d D.keys},l,m},
  {v,u i (Yj i X.le nofun),L2.Paired.Z8 t λ_ _ h=>h.Qs d},{s,u f (Yj f X.le nofun),k},u X.ab (Gn X.ap.lv),λp a=>u (X.ml p a) (Yj (X.ml p a) X.le nofun),λp a=>u (X.ul p a) (Yj (X.ul p a) X.le nofun),X.ap⟩
theorem Z9.OT(X:Z9 P w C H n A fs tb x){k:Nat}(a:k∈x.S)(l:List Nat):Z9 P w C (zj H (A.ml k) (.lst (l.map jv))) n A fs tb {x with mem:=λp=>if p=k then l else x.mem p}:=by
 obtain⟨s,i⟩:=X.ob;obtain⟨G,t,v⟩:=X.fo;obtain⟨d,D,q,r⟩:=X.ta;obtain⟨F,B,E⟩:=X.li;obtain⟨y,g,j⟩:=X.at_;have m:=X.ml k a;have f:Q4 H (zj H (A.ml k) (.lst (l.map jv))):=Z0 λI e=>by rw[m]at e;cases e
 have u:∀{b o},H b=Ga o->b≠A.ml k->(zj H (A.ml k) (.lst (l.map jv))) b=Ga o:=λe h=>by rw[Qg h];exact e
 refine⟨{s,u i (Yj i m nofun)},{G,u t (Gn (X.ap.mkf k a).2),L2.Paired.Z8 v λ_ _ h=>h.Qs f},u X.le (Yj X.le m nofun),u X.me (Yj X.me m nofun),u X.us (Yj X.us m nofun),{d,{u D.at_ (Yj D.at_ m nofun),Zi f D.keys},q,r},
  {F,u B (Gn (X.ap.mkf k a).1),L2.Paired.Z8 E λ_ _ h=>h.Qs f},{y,u g (Yj g m nofun),j},u X.ab (Yj X.ab m nofun),λp c=>?_,λp c=>u (X.ul p c) (Gn (X.ap.mul k a p c)),X.ap⟩
 by_cases e:p=k
 .subst e;show _=Ga (HO.lst ((if p=p then l else x.mem p).map jv));rw[Qb,Gp rfl]
 .show _=Ga (HO.lst ((if p=k then l else x.mem p).map jv));rw[Gi e];exact u (X.ml p c) (λz=>e (X.ap.mm p c k a z))
theorem Z9.tK(X:Z9 P w C H n A fs tb x){k:Nat}(a:k∈x.S)(l:List Nat):Z9 P w C (zj H (A.ul k) (.lst (l.map jv))) n A fs tb {x with Xr:=λp=>if p=k then l else x.Xr p}:=by
 obtain⟨s,i⟩:=X.ob;obtain⟨G,t,v⟩:=X.fo;obtain⟨d,D,q,r⟩:=X.ta;obtain⟨F,B,E⟩:=X.li;obtain⟨y,g,j⟩:=X.at_;have m:=X.ul k a;have f:Q4 H (zj H (A.ul k) (.lst (l.map jv))):=Z0 λI e=>by rw[m]at e;cases e
 have u:∀{b o},H b=Ga o->b≠A.ul k->(zj H (A.ul k) (.lst (l.map jv))) b=Ga o:=λe h=>by rw[Qg h];exact e
 refine⟨{s,u i (Yj i m nofun)},{G,u t (Gn (X.ap.ukf k a).2),L2.Paired.Z8 v λ_ _ h=>h.Qs f},u X.le (Yj X.le m nofun),u X.me (Yj X.me m nofun),u X.us (Yj X.us m nofun),{d,{u D.at_ (Yj D.at_ m nofun),Zi f D.keys},q,r},
  {F,u B (Gn (X.ap.ukf k a).1),L2.Paired.Z8 E λ_ _ h=>h.Qs f},{y,u g (Yj g m nofun),j},u X.ab (Yj X.ab m nofun),λp c=>u (X.ml p c) (X.ap.mul p c k a),λp c=>?_,X.ap⟩
 by_cases e:p=k
 .subst e;show _=Ga (HO.lst ((if p=p then l else x.Xr p).map jv));rw[Qb,Gp rfl]
 .show _=Ga (HO.lst ((if p=k then l else x.Xr p).map jv));rw[Gi e];exact u (X.ul p c) (λz=>e (X.ap.uu p c k a z))
theorem Z9.tE(X:Z9 P w C H n A fs tb x){c kvs':List KE}(D:DH P w H A.t c)(t:kvs'.length<=tb+1)(l:V9 H kvs'){t':Fm->Option Nat}(v:∀k:Fm,Yh kvs' (Xg k)=(t' k).map jv):Z9 P w C (zj H A.t (V5 P w A.t kvs')) n A fs (tb+1) {x with tab:=t'}:=by
 obtain⟨r,j⟩:=X.ob;obtain⟨E,g,s⟩:=X.fo;obtain⟨B,i,z⟩:=X.li;obtain⟨y,f,q⟩:=X.at_;have m:=D.at_;have d:Q4 H (zj H A.t (V5 P w A.t kvs')):=Z0 λF e=>by rw[m]at e;cases e
 have u:∀{b o},H b=Ga o->b≠A.t->(zj H A.t (V5 P w A.t kvs')) b=Ga o:=λe h=>by rw[Qg h];exact e
 exact⟨{r,u j (Yj j m nofun)},{E,u g (Yj g m nofun),L2.Paired.Z8 s λ_ _ h=>h.Qs d},u X.le (Yj X.le m nofun),u X.me (Yj X.me m nofun),u X.us (Yj X.us m nofun),{kvs',{Qb,Zi d l},t,v},
  {B,u i (Yj i m nofun),L2.Paired.Z8 z λ_ _ h=>h.Qs d},{y,u f (Yj f m nofun),q},u X.ab (Yj X.ab m nofun),λp a=>u (X.ml p a) (Yj (X.ml p a) m nofun),λp a=>u (X.ul p a) (Yj (X.ul p a) m nofun),X.ap⟩
theorem Z9.I2(X:Z9 P w C H n A fs tb x){kv2:List (List X7×V)}{ls':List V}{lks:List Lk}{lat':Nat->Nat->Option Nat}(v:kv2.length<=2*lks.length)(y:∀i j:Nat,Xh kv2 [ki i,ki j]=(lat' i j).map jv)(z:Paired (Ri H) ls' lks):
  Z9 P w C (zj (zj H A.a (.dT kv2)) A.k (.lst ls')) n A fs tb {x with links:=lks,Xj:=lat'}:=by
 obtain⟨r,g⟩:=X.ob;obtain⟨B,l,s⟩:=X.fo;obtain⟨f,D,m,q⟩:=X.ta;obtain⟨I,c,G⟩:=X.li;obtain⟨F,a,E⟩:=X.at_;have k:Q4 H (zj (zj H A.a (.dT kv2)) A.k (.lst ls')):=λb J e=>by rw[Qg (Yj e c nofun),Qg (Yj e a nofun)];exact e
 have u:∀{b o},H b=Ga o->b≠A.k->b≠A.a->(zj (zj H A.a (.dT kv2)) A.k (.lst ls')) b=Ga o:=λe h t=>by rw[Qg h,Qg t];exact e
 refine⟨{r,u g (Yj g c nofun) (Yj g a nofun)},{B,u l (Gn X.ap.kf) (Yj l a nofun),L2.Paired.Z8 s λ_ _ h=>h.Qs k},u X.le (Yj X.le c nofun) (Yj X.le a nofun),u X.me (Yj X.me c nofun) (Yj X.me a nofun),u X.us (Yj X.us c nofun) (Yj X.us a nofun),
  {f,{u D.at_ (Yj D.at_ c nofun) (Yj D.at_ a nofun),Zi k D.keys},m,q},{ls',Qb,L2.Paired.Z8 z λ_ _ h=>h.Qs k},{kv2,?_,v,y},u X.ab (Yj X.ab c nofun) (Yj X.ab a nofun),λp d=>u (X.ml p d) (X.ap.mkf p d).1 (Yj (X.ml p d) a nofun),λp d=>u (X.ul p d) (X.ap.ukf p d).1 (Yj (X.ul p d) a nofun),X.ap⟩
 rw[Qg (Yj a c nofun),Qb]
end
end Sb
namespace K03
open PySem L2 Sb Nt
structure hZ(fs:List Fm)(S:List Nat):Prop where
 str:∀p,TR (Yi fs p)=Gf
 lt:∀p∈S,p<fs.length
 pts:∀p∈S,∀q∈Zq fs p,q∈S
 few:∀p,(Zq fs p).length<=100000
inductive vS(P:Gg)(w:Gu)(C:Gc)(vs:List V)(H:Hp)(Q:VK):Prop
 |mk (n:Gc) (A:Na) (fs:List Fm) (tb:Nat) (x:Nn) (g:Nat) (k:Nat) (h0:vs=[.ref n,jv g,jv k]) (h1:Z9 P w C H n A fs tb x) (h2:hZ fs x.S) (h3:g∈x.S) (h4:k∈x.S) (h5:g≠k) (h6:(∀p∈x.mem g,p∈x.S)) (h7:(∀p∈x.Xr g,p∈x.S)) (h8:x.S.length<=100000) (h9:(x.mem k).length+(x.mem g).length<=100000) (h10:(x.Xr k).length+(x.Xr g).length<=100000) (h11:tb+(x.Xr g).length<=1000000) (h12:∀(r:Gc)(es:List V)(H':Hp),Z9 P w C H' n A fs (tb+(x.Xr g).length) (Ua (Yi fs) (Zq fs) x g k).1->R3 A x.S H H'->H r=Gh->H' r=Ga (.lst es)->Paired (Ri H') es (Ua (Yi fs) (Zq fs) x g k).2->Q (.ref r) H'):vS P w C vs H Q
def oi(P:Gg)(w:Gu)(C:Gc):Sp:=λa H Q _=>vS P w C a H Q
section
variable{P:Gg}{w:Gu}{K:Gd}{mg:Tb->Option Value}{base:Heap}
theorem xy:Q3 ["self","gone","kept","place","found","user","twin"] ["self","gone","kept"] (Ql Wo):=by eq_refl
theorem A5{ky:Nat->Tb×List Nat}{l:List Nat}{t:Tb×List Nat->Option Nat}{i u:Nat}(h:l[i]?=Ga u):zm (ρ:=Ji) ky (l.take (i+1)) t []=(match(zm (ρ:=Ji) ky (l.take i) t []).1 (ky u)with
  |some v=>((zm (ρ:=Ji) ky (l.take i) t []).1,if v=u then(zm (ρ:=Ji) ky (l.take i) t []).2 else(zm (ρ:=Ji) ky (l.take i) t []).2++[(u,v,Gh)])
  |none=>((λk=>if k=ky u then Ga u else(zm (ρ:=Ji) ky (l.take i) t []).1 k),(zm (ρ:=Ji) ky (l.take i) t []).2)):=by
 have b:∀(a:List Nat)(t:Tb×List Nat->Option Nat)(f:List (Nat×Nat×Option Ji)),zm (ρ:=Ji) ky (a++[u]) t f=(match(zm (ρ:=Ji) ky a t f).1 (ky u)with
  |some v=>((zm (ρ:=Ji) ky a t f).1,if v=u then(zm (ρ:=Ji) ky a t f).2 else(zm (ρ:=Ji) ky a t f).2++[(u,v,Gh)])
  |none=>((λk=>if k=ky u then Ga u else(zm (ρ:=Ji) ky a t f).1 k),(zm (ρ:=Ji) ky a t f).2)):=by
  intro a;induction a with
  |nil=>intro t f;simp only[List.nil_append,zm];all_goals (cases t (ky u)<;>rfl)
  |cons z a c=>
   intro t f;simp only[List.cons_append,zm];cases t (ky z)with
   |some v=>exact c _ _
   |none=>exact c _ _
 rw[List.take_add_one,h];exact b _ _ _
theorem B8{f fK j:Gc}{fd ao:Tq}(F:We K "give_over" "Net.give_over" Wo f fd)(h:Ut K mg j)(mK:Ye K j "key_of" fK)(GK:Qy P w K mg base Z5 1 fK ao ["self","place"] (lO P w j))(bK:zk K ao ["self","place"] []):
  Qy P w K mg base Z5 2 f fd ["self","gone","kept"] (oi P w j):=by
 refine F.ok xy (λD J l g M=>?_) (λH d I s J D l g hr M=>?_)
 .obtain⟨n,d,b,tb,x,a,k,rfl,_⟩:=M;rfl
 obtain⟨n,d,b,tb,x,a,k,rfl,X,ae,E,G,az,mS,uS,hS,hm,aJ,aI,q⟩:=M;have W:=Je hr;have aB:=hr.units;have aA:Yd 1 _:=hr.mono (by ext);have nd:=xy.nd;show∃t,Ia ?my _ t/\_;let w6:Xk ?my Wo 5:={_,Qh (Qt (pv 4))}
 let w5:Xk ?my Wo 4:=⟨_,Qc (Z6 Gy rfl (Yg (Zx W (Qu (pv 0) rfl) (pv 1) (λ_ _=>rfl))) (Zz 5 nd)
   (Qc (Qz 6 nd (n8 Ek El (BQ aB) (Qu (pv 0) rfl) (Qa (Zh (pv 0) h.cl mK GK aA bK .nil Q7 (Qa (pv 5) Qe)) (Qa (pv 5) Qe))))
   (Qh (Q8 (Qn Uc (pv 6) (pv 5) (Qr _))
    (Qh (Zj (X0 Gv GQ GX Zy (pv 4) (Qa (Zg (Qa (pv 5) (Qa (pv 6) (Qa Uo Qe)))) Qe)))) Qv)))) w6.2⟩
 let w4:Xk ?my Wo 3:={_,Qc (Qz 4 nd (Zu Qe)) w5.2}
 let w3:Xk ?my Wo 2:={_,Qc (Zj (X0 Gv EA EB o9 (Zx W (Qu (pv 0) rfl) (pv 2) (λ_ _=>rfl)) (Qa (Zx W (Qu (pv 0) rfl) (pv 1) (λ_ _=>rfl)) Qe))) w4.2}
 let w2:Xk ?my Wo 1:={_,Qc (Zj (X0 Gv EA EB o9 (Zx W (Qu (pv 0) rfl) (pv 2) (λ_ _=>rfl)) (Qa (Zx W (Qu (pv 0) rfl) (pv 1) (λ_ _=>rfl)) Qe))) w3.2}
 exists _,Qc (Z6 Gy rfl (Yg (Zx W (Qu (pv 0) rfl) (pv 1) (λ_ _=>rfl))) (Zz 3 nd)
   (Qh (Ws W (Qu (pv 0) rfl) (pv 3) (pv 2) rfl))) w2.2
 obtain⟨dx,o1⟩:=X.ob;have nl:n≠d.l:=Yj o1 X.le nofun;let aE:Nat->St->Hp->Prop:=λi O Q=>mJ (∃x3,O=[Ga (.ref n),Ga (jv a),Ga (jv k),x3,Gh,Gh,Gh]) (Q=zj J d.l (.dK (dS x.S λp=>jv (if p∈(x.mem a).take i then k else x.lead p))))
 refine⟨_,Xb,n,j,dx,_,_,Xb,o1,h.cl,h.members,Vo _,_,Xb,d.m,_,Xb,Xu X.me E,d.ml a,Xb,{_,Za.of (X.ml a E)},Y9 (K:=K) (a:=d.ml a) (xs:=(x.mem a).map jv)
  aE
  {{_,Xb},?_} (by rintro i O Q _ ⟨_,e⟩;rw[e];exact Za.of (by rw[Qg (Yj (X.ml a E) X.le nofun)];exact X.ml a E)) ?_ ?_⟩
 .funext L
  by_cases m:L=d.l
  .subst m;rw[Qb,X.le];simp
  .rw[Qg m]
 .rintro i y O Q C ⟨⟨x3,rfl⟩,rfl⟩;rw[List.getElem?_map]at C;cases eq:(x.mem a)[i]? with
  |none=>rw[eq]at C;cases C
  |some p=>
   rw[eq]at C;cases C;have D:=mS p (List.mem_of_getElem? eq);have l:(zj J d.l (.dK (dS x.S λp=>jv (if p∈(x.mem a).take i then k else x.lead p)))) n=Ga (.ins j dx (Xi d)):=by rw[Qg nl];exact o1
   have g:=Rm.k (k:=ki p) (v:=jv k) (@Qb J d.l (.dK (dS x.S λp=>jv (if p∈(x.mem a).take i then k else x.lead p)))) (by rw[Vr,GV];ext);rw[Wu,qx D]at g;exists _,Xb,_,Xb,n,j,dx,_,_,Xb,l,h.cl,h.Vh,Yu _,_,Xb,d.l,_,Xb,g,{_,Xb};congr 2;refine W8 λo _=>?_;rw[List.take_add_one,eq];by_cases e:o=p
   .subst e;rw[Gp Xb,Gp (by simp)]
   .rw[Gi e];by_cases hm:o∈(x.mem a).take i
    .rw[Gp hm,Gp (List.mem_append_left _ hm)]
    .rw[Gi hm,Gi (by simp[hm,e])]
 rintro O Q ⟨⟨x3,rfl⟩,rfl⟩;rw[List.length_map,List.take_length];have R:=X.IV (Zd x a k);have eL:(dS x.S λp=>jv (if p∈x.mem a then k else x.lead p))=dS x.S λp=>jv (Zd x a k p):=rfl;rw[eL];have F1:R3 d x.S J (zj J d.l (.dK (dS x.S λp=>jv (Zd x a k p)))):=R3.zj (.inl Xb);generalize zj J d.l (.dK (dS x.S λp=>jv (Zd x a k p)))=H1 at R F1⊢;obtain⟨am,aq⟩:=R.ob;exists _,Xb,n,j,am,_,_,Xb,aq,h.cl,h.members,Vo _,_,Xb,d.m,_,Xb,Xu R.me G,.inl {Xb,_,Za.of (R.ml k G)},_,Xb,n,j,am,_,_,Xb,aq,h.cl,h.members,Vo _,_,Xb,d.m,_,Xb,Xu R.me E,d.ml k,d.ml a,_,_,Xb,Xb,R.ml k G,R.ml a E,small (by rw[List.length_map,List.length_map];show(x.mem k).length+(x.mem a).length<=_;ext);have S:=R.OT G (x.mem k++x.mem a);have F2:R3 d x.S H1 (zj H1 (d.ml k) (.lst ((x.mem k++x.mem a).map jv))):=R3.zj (.inr (.inr (.inr (.inr (.inr (.inr (.inr {k,G,.inl Xb})))))));have e2:((x.mem k).map jv++(x.mem a).map jv)=(x.mem k++x.mem a).map jv:=(List.map_append ..).symm;rw[e2];generalize zj H1 (d.ml k) (.lst ((x.mem k++x.mem a).map jv))=Q at S F2⊢;obtain⟨an,ar⟩:=S.ob;exists _,Xb,n,j,an,_,_,Xb,ar,h.cl,h.Qe2,Il _,_,Xb,d.u,_,Xb,Xu S.us G,.inl {Xb,_,Za.of (S.ul k G)},_,Xb,n,j,an,_,_,Xb,ar,h.cl,h.Qe2,Il _,_,Xb,d.u,_,Xb,Xu S.us E,d.ul k,d.ul a,_,_,Xb,Xb,S.ul k G,S.ul a E,small (by rw[List.length_map,List.length_map];show(x.Xr k).length+(x.Xr a).length<=_;ext);have X3:=S.tK G (x.Xr k++x.Xr a);have F3:R3 d x.S Q (zj Q (d.ul k) (.lst ((x.Xr k++x.Xr a).map jv))):=R3.zj (.inr (.inr (.inr (.inr (.inr (.inr (.inr {k,G,.inr Xb})))))));have e3:((x.Xr k).map jv++(x.Xr a).map jv)=(x.Xr k++x.Xr a).map jv:=(List.map_append ..).symm;rw[e3];generalize zj Q (d.ul k) (.lst ((x.Xr k++x.Xr a).map jv))=H3 at X3 F3⊢;have al:=(F1.trans F2).trans F3;refine{Gz _,λo ap=>?_};have s4:=Qf ap (.lst []);have X4:=X3.same s4;obtain⟨ax,aD⟩:=X4.ob;have T:J o=Gh:=al.there o ap;have ay:(λp=>if p=k then x.Xr k++x.Xr a else x.Xr p) a=x.Xr a:=Gi az;have ug:∀{r:Hp}{t':Fm->Option Nat}{aC:Nat},Z9 P w j r n d b aC {x with lead:=Zd x a k,mem:=(λp=>if p=k then x.mem k++x.mem a else x.mem p),Xr:=(λp=>if p=k then x.Xr k++x.Xr a else x.Xr p),tab:=t'}->r (d.ul a)=Ga (.lst ((x.Xr a).map jv)):=λA=>by have:=A.ul a E;rw[this];show Ga (HO.lst (((λp=>if p=k then x.Xr k++x.Xr a else x.Xr p) a).map jv))=_;rw[ay]
 let aF:Nat->St->Hp->Prop:=λi O r=>jF λ(x5 x6:Option V)(B:List V)=>iZ (O=[Ga (.ref n),Ga (jv a),Ga (jv k),x3,Ga (.ref o),x5,x6]) (Z9 P w j r n d b (tb+i) {x with lead:=Zd x a k,mem:=(λp=>if p=k then x.mem k++x.mem a else x.mem p),Xr:=(λp=>if p=k then x.Xr k++x.Xr a else x.Xr p),tab:=(zm (ρ:=Ji) (Zp (Yi b) (Zq b) (Zd x a k)) ((x.Xr a).take i) x.tab []).1}) (R3 d x.S J r) (r o=Ga (.lst B)) (Paired (Ri r) B (zm (ρ:=Ji) (Zp (Yi b) (Zq b) (Zd x a k)) ((x.Xr a).take i) x.tab []).2)
 refine⟨_,Xb,n,j,ax,_,_,Xb,aD,h.cl,h.Qe2,Il _,_,Xb,d.u,_,Xb,Xu X4.us E,d.ul a,Xb,{_,Za.of (ug X4)},Y9 (K:=K) (a:=d.ul a) (xs:=(x.Xr a).map jv)
  aF
  {_,_,[],Xb,?_,al.trans (R3.of s4),Qb,.nil} (by rintro i O r _ ⟨_,_,_,_,A,_⟩;exact Za.of (ug A)) ?_ ?_⟩
 .exact X4
 .rintro i y O r C ⟨x5,x6,B,rfl,A,F5,N,Y⟩;rw[List.getElem?_map]at C;cases eq:(x.Xr a)[i]? with
  |none=>rw[eq]at C;cases C
  |some u=>
   rw[eq]at C;cases C;have ai:=uS u (List.mem_of_getElem? eq);have il:i<(x.Xr a).length:=(List.getElem?_eq_some_iff.mp eq).1;obtain⟨ag,ah⟩:=A.ob;obtain⟨aw,au,d2,d3⟩:=A.ta;have aH:B.length<=i:=by rw[Gq Y];have:=scan_len (ρ:=Ji) (ky:=Zp (Yi b) (Zq b) (Zd x a k)) (l:=(x.Xr a).take i) (t:=x.tab) (f:=[]);rw[List.length_take]at this;simp at this;ext
   refine{_,Xb,n,j,ag,_,_,Xb,ah,h.cl,h.table,qY _,{d.t,aw,Xb,au.at_},_,Xb,n,ag,_,Xb,ah,pX _,_,Xb,n,d,b,_,_,u,Xb,A,ae.lt u ai,λq hq=>ae.pts u ai q hq,by have:=ae.few u;ext,λc H6 l c6 av=>{_,Xb,?_}};have Y6:=A.same l;obtain⟨aa,D6,aG,af⟩:=Y6.ta;have kc:=av.key (ae.str u);have kk:Yh aa (Xg (Zp (Yi b) (Zq b) (Zd x a k) u))=((zm (ρ:=Ji) (Zp (Yi b) (Zq b) (Zd x a k)) ((x.Xr a).take i) x.tab []).1 (Zp (Yi b) (Zq b) (Zd x a k) u)).map jv:=af (Zp (Yi b) (Zq b) (Zd x a k) u);have D:=A5 (ky:=Zp (Yi b) (Zq b) (Zd x a k)) (t:=x.tab) eq;have rO:¬gF d x.S o:=λz=>by rcases X.own z with⟨_,e⟩|⟨_,e⟩|⟨_,e⟩|⟨_,e⟩<;>rw[T]at e<;>cases e
   refine{d.t,c,jv u,aa,_,Xb,Xb,D6,kc,by rw[GV];ext,λv hv=>?_,λhn=>?_}
   ·
    rw[kk]at hv;cases ev:(zm (ρ:=Ji) (Zp (Yi b) (Zq b) (Zd x a k)) ((x.Xr a).take i) x.tab []).1 (Zp (Yi b) (Zq b) (Zd x a k) u)with
    |none=>rw[ev]at hv;cases hv
    |some I=>
     rw[ev]at hv;cases hv;rw[ev]at D;exists _,Xb,_,Xb,Xb,_,Xb;rw[lG];by_cases U:I=u
     .rw[Gw U];refine Q5 {_,_,B,Xb,?_,F5.trans (R3.of l),l _ _ N,?_}
      .rw[D];exact Y6.mono (by ext)
      .rw[D];simp only[Gp U];exact L2.Paired.Z8 Y λ_ _ M=>M.Qs (Q4.of l)
     .rw[Gr U];refine Yp ?_;refine{_,Xb,.inl {Xb,_,Za.of (l _ _ N)},_,Xb,_,Xb,by show 3<=Gj;decide,λg ab=>?_};have s7:=Qf ab (.tup [jv u,jv I,.non]);exists o,B,.ref g,Xb,Xb,s7 _ _ (l _ _ N),(by rw[GV];ext);have H:=l.trans s7;have Y7:=A.same H;have aj:=H _ _ N;have ad:Q4 r (zj (zj H6 g (.tup [jv u,jv I,.non])) o (.lst (B++[.ref g]))):=λL xs e=>by rw[Qg (Yj e N nofun)];exact H _ _ e
      have ak:(zj (zj H6 g (.tup [jv u,jv I,.non])) o (.lst (B++[.ref g]))) g=Ga (.tup [jv u,jv I,.non]):=by rw[Qg (λz=>by rw[z,l _ _ N]at ab;cases ab),Qb]
      have Y8:Z9 P w j (zj (zj H6 g (.tup [jv u,jv I,.non])) o (.lst (B++[.ref g]))) n d b (tb+i) _:=Y7.keep (λL ac e m=>by
       rw[Qg λz=>?_]
       .exact e
       .subst z;rcases m with m|m|m
        .exact rO m
        .obtain⟨ws,Z,_⟩:=X.fo;rw[m,Z]at T;cases T
        .rw[m,o1]at T;cases T) (Z0 λxs e=>by rw[aj]at e;cases e)
      exists _,_,_,Xb,?_,{λL ac e m=>?_,λL m=>?_},Qb
      .rw[D];exact Y8.mono (by ext)
      .rw[Qg (Qd e T)];exact H _ _ (F5.keep L ac e m)
      .by_cases e:L=o
       .subst e;exact T
       .rw[Qg e]at m;exact F5.there L (H.free m)
      .rw[D];simp only[Gi U];exact Yl (L2.Paired.Z8 Y λ_ _ M=>M.Qs ad) (.cons {g,.non,Xb,ak,Xb} .nil)
   ·
    rw[kk]at hn;have ev:(zm (ρ:=Ji) (Zp (Yi b) (Zq b) (Zd x a k)) ((x.Xr a).take i) x.tab []).1 (Zp (Yi b) (Zq b) (Zd x a k) u)=Gh:=by
     cases ev:(zm (ρ:=Ji) (Zp (Yi b) (Zq b) (Zd x a k)) ((x.Xr a).take i) x.tab []).1 (Zp (Yi b) (Zq b) (Zd x a k) u)with
     |none=>rfl
     |some I=>rw[ev]at hn;cases hn
    rw[ev]at D;exists _,Xb,_,Xb,Xb,_,Xb;rw[lG,Gw rfl];have U:Yh aa (Xg (Zp (Yi b) (Zq b) (Zd x a k) u))=Gh:=by rw[kk];exact hn
    have Y8:=Y6.tE (kvs':=aa++[(Xg (Zp (Yi b) (Zq b) (Zd x a k) u),c,jv u)]) D6 (by rw[List.length_append,List.length_singleton];ext) (λp g=>by
     rcases List.mem_append.mp g with g|g
     .exact D6.keys p g
     .rw[List.mem_singleton]at g;subst g;exact kc) (t':=λH=>if H=Zp (Yi b) (Zq b) (Zd x a k) u then Ga u else(zm (ρ:=Ji) (Zp (Yi b) (Zq b) (Zd x a k)) ((x.Xr a).take i) x.tab []).1 H) (λH=>by
     rw[pO _ _ _ _ _ U];by_cases e:H=Zp (Yi b) (Zq b) (Zd x a k) u
     .rw[Gp (by rw[e]),Gp e];rfl
     .rw[Gi (λz=>e (U6 z)),Gi e];exact af H)
    have Z:o≠d.t:=λz=>rO (by rw[z];exact .inr (.inr (.inr (.inl Xb))));have ad:Q4 r (zj H6 d.t (V5 P w d.t (aa++[(Xg (Zp (Yi b) (Zq b) (Zd x a k) u),c,jv u)]))):=λL xs e=>by rw[Qg (Yj (l _ _ e) D6.at_ nofun)];exact l _ _ e
    refine Q5 {_,_,B,Xb,?_,F5.trans ((R3.of l).trans (R3.zj (.inr (.inr (.inr (.inl Xb)))))),?_,?_}
    .rw[D];exact Y8
    .rw[Qg Z];exact l _ _ N
    .rw[D];exact L2.Paired.Z8 Y λ_ _ M=>M.Qs ad
 .rintro O r ⟨x5,x6,B,rfl,A,F5,N,Y⟩;rw[List.length_map,List.take_length]at A Y;exact{_,Xb,q o B r A F5 T N Y}
end
end K03
namespace Nt
theorem Xt{l S:List Nat}(nd:l.Nodup)(h:∀p∈l,p∈S):l.length<=S.length:=by
 induction l generalizing S with
 |nil=>simp
 |cons a r e=>rw[List.nodup_cons]at nd;have b:=h a (by simp);have:=e (S:=S.erase a) nd.2 λp c=>(List.mem_erase_of_ne (show p≠a fromλz=>nd.1 (by rw[<-z];exact c))).mpr (h p (by simp[c]));rw[List.length_erase_of_mem b]at this;have d:=List.length_pos_of_mem b;simp only[List.length_cons];ext
theorem uN{f:Nat->Nat}{g k:Nat}(a:g≠k):∀{S:List Nat},g∈S->k∈S->f g+f k<=(S.map f).sum
 |[],h,_=>by simp at h
 |x::r,d,e=>by
  simp only[List.map_cons,List.sum_cons];by_cases b:x=g
  .subst b;have:=Jn (f:=f) ((List.mem_cons.mp e).resolve_left (Gn a));lia
  .by_cases c:x=k
   .subst c;have:=Jn (f:=f) ((List.mem_cons.mp d).resolve_left a);lia
   .have:=uN (f:=f) a ((List.mem_cons.mp d).resolve_left (Gn b)) ((List.mem_cons.mp e).resolve_left (Gn c));lia
theorem gI.chS{f:Type}{S:List Nat}{d:List (Nat×Nat×f)}{Xj:Nat->Nat->Option Nat}{c:Nat->Option Nat}(F:gI S d Xj c):∀{p:Nat}{l:List Nat},Ch c p l->p∈S->∀q∈l,q∈S
 |_,_,.top _,b,q,a=>by simp at a;subst a;exact b
 |_,_,.step e h,b,q,a=>by
  rcases List.mem_cons.mp a with rfl|a
  .exact b
  .exact F.chS h (F.inS _ _ e).2 q a
theorem xj{W a:Type}(x:gK W a):cls x<=x.S.length:=List.countP_le_length
end Nt
namespace K03
open PySem L2 Sb Nt
variable{C:Gc}{fd:Tq}
inductive Oe(P:Gg)(w:Gu)(C:Gc)(vs:List V)(H:Hp)(Q:VK):Prop
 |mk (n:Gc) (A:Na) (fs:List Fm) (tb:Nat) (x:Nn) (c:Gc) (a:Nat) (b:Nat) (r:Option Ji) (pend:List Lk) (h0:vs=[.ref n,.ref c]) (h1:Z9 P w C H n A fs tb x) (h2:hZ fs x.S) (h3:Ri H (.ref c) (a,b,r)) (h4:Wk (Yi fs) (Zq fs) x (pend++[(a,b,r)])) (h5:x.lead a≠x.lead b) (h6:x.S.length<=10000) (h7:Ud x<=10000) (h8:x.links.length<=100000) (h9:tb+Ud x<=1000000) (h10:∀(lo hi:Nat)(cl:List Nat)(l:Gc)(es:List V)(H':Hp),((lo=a/\hi=b)\/(lo=b/\hi=a))->Ch x.up lo cl->Z9 P w C H' n A fs (tb+Ud x) (Yq (Yi fs) (Zq fs) x a b r lo hi cl).1->R3 A x.S H H'->H l=Gh->H' l=Ga (.lst es)->
  Paired (Ri H') es (Yq (Yi fs) (Zq fs) x a b r lo hi cl).2->Q (.ref l) H'):Oe P w C vs H Q
def rR(P:Gg)(w:Gu)(C:Gc):Sp:=λa H Q _=>Oe P w C a H Q
section
variable{P:Gg}{w:Gu}{K:Gd}{mg:Tb->Option Value}{base:Heap}
theorem yG:Q3 ["self","link","one","other"] ["self","link"] (Ql Xq):=by eq_refl
theorem Hx{H:Hp}{a b:Gc}{o u:HO}(h:a≠b):zj (zj H a o) b u=zj (zj H b u) a o:=by
 funext c
 by_cases d:c=b
 .subst d;rw[Qb,Qg (Gn h),Qb]
 .rw[Qg d];by_cases e:c=a
  .subst e;rw[Qb,Qb]
  .rw[Qg e,Qg e,Qg d]
theorem Rh(x y:V)(a:List V):atI (x::y::a) (1:Int)=Ga y:=Qj (xs:=x::y::a) (j:=1) rfl
theorem iJ(x y z:V)(a:List V):atI (x::y::z::a) (2:Int)=Ga z:=Qj (xs:=x::y::z::a) (j:=2) rfl
theorem Ab{f fH fG:Gc}{aq ap:Tq}(F:We K "merge_link" "Net.merge_link" Xq f fd)(e:Ut K mg C)(T:J2 mg)(mH:Ye K C "hang" fH)(GH:Qy P w K mg base Z5 1 fH aq ["self","low","high"] (oF P w C))(bH:zk K aq ["self","low","high"] [])
  (mG:Ye K C "give_over" fG)(GG:Qy P w K mg base Z5 2 fG ap ["self","gone","kept"] (oi P w C))(bG:zk K ap ["self","gone","kept"] []):
  Qy P w K mg base Z5 3 f fd ["self","link"] (rR P w C):=by
 refine F.ok yG (λE A an ac m=>?_) (λJ d aV s A E an ac hr m=>?_)
 .obtain⟨n,d,fs,S,x,c,a,b,ak,aM,rfl,_⟩:=m;rfl
 obtain⟨n,d,fs,S,x,c,a,b,ak,aM,rfl,X,aH,hc,h,ay,hS,hT,hL,aQ,q⟩:=m;have o:=Je hr;have az:Yd 1 _:=hr.mono (by lia);have aA:Yd 2 _:=hr.mono (by lia);have nd:=yG.nd;show∃t,Ia ?my _ t/\_;let w8:Xk ?my Xq 7:={_,Qh (Qt (Zh (pv 0) e.cl mG GG aA bG .nil Q7 (Qa (Zx o (Qu (pv 0) rfl) (pv 3) (λ_ _=>rfl)) (Qa (Zx o (Qu (pv 0) rfl) (pv 2) (λ_ _=>rfl)) Qe))))}
 let w7:Xk ?my Xq 6:={_,Qc (Zj (Zh (pv 0) e.cl mH GH az bH .nil Q7 (Qa (pv 3) (Qa (pv 2) Qe)))) w8.2}
 let w6:Xk ?my Xq 5:=⟨_,Qc (Q8 (Qn lK (Qp Zs rfl T.len Gx (Qa (Zx o (Qu (pv 0) rfl) (Zx o (Qu (pv 0) rfl) (pv 2) (λ_ _=>rfl)) (λ_ _=>rfl)) Qe)) (Qp Zs rfl T.len Gx (Qa (Zx o (Qu (pv 0) rfl) (Zx o (Qu (pv 0) rfl) (pv 3) (λ_ _=>rfl)) (λ_ _=>rfl)) Qe)) (Qr _))
   (Qc (Zj (Zh (pv 0) e.cl mH GH az bH .nil Q7 (Qa (pv 2) (Qa (pv 3) Qe))))
    (Qh (Qt (Zh (pv 0) e.cl mG GG aA bG .nil Q7 (Qa (Zx o (Qu (pv 0) rfl) (pv 2) (λ_ _=>rfl)) (Qa (Zx o (Qu (pv 0) rfl) (pv 3) (λ_ _=>rfl)) Qe)))))) Qv) w7.2⟩
 let w5:Xk ?my Xq 4:={_,Qc (Zj (X0 Gv GQ GX Zy (Qu (pv 0) rfl) (Qa (pv 1) Qe))) w6.2}
 let w4:Xk ?my Xq 3:={_,Qc (Ws o (Qu (pv 0) rfl) (Zg (Qa (pv 3) (Qa (pv 2) Qe))) (Qp Zs rfl T.len Gx (Qa (Qu (pv 0) rfl) Qe)) rfl) w5.2}
 let w3:Xk ?my Xq 2:={_,Qc (Ws o (Qu (pv 0) rfl) (Zg (Qa (pv 2) (Qa (pv 3) Qe))) (Qp Zs rfl T.len Gx (Qa (Qu (pv 0) rfl) Qe)) rfl) w4.2}
 let w2:Xk ?my Xq 1:={_,Qc (Qz 3 nd (Qm Qo (pv 1) Qi)) w3.2}
 exists _,Qc (Qz 2 nd (Qm Qo (pv 1) Qi)) w2.2;subst_vars;obtain⟨D,R⟩:=X.ob;obtain⟨c',rv,ec,ar,aP⟩:=id hc;and_intros;cases ec;subst_vars;obtain⟨r,l1,l2⟩:=X.li;obtain⟨kv,W,a2,a3⟩:=X.at_;have ll:r.length=x.links.length:=Gq l2;obtain⟨Y,Z,_⟩:=h.pnd a b ak (by simp);and_intros;have lv:(V.int (r.length:Int))=jv x.links.length:=by rw[ll];rfl
 exists _,Xb,c,_,_,_,Xb,Xb,Q9.of ar,Rz _ _,_,Xb,c,_,_,_,Xb,Xb,Q9.of ar,Rh _ _ _;exists _,Xb,n,C,D,_,_,Xb,R,e.cl,e.links,Jh _,d.k,r,Xb,.inl (Za.of l1);rw[lv];refine{_,Xb,n,C,D,_,_,Xb,R,e.cl,e.Qcn,pe _,_,Xb,_,Xb,by show 2<=Gj;decide,λH af=>?_};have s1:=Qf af (.tup [jv a,jv b]);exists d.a,_,Xb,Rm.t (k:=[ki a,ki b]) (s1 _ _ W) Qb (by rw[GV];lia);have aN:H≠d.a:=λz=>by rw[z,W]at af;cases af
 have nA:n≠d.a:=Yj R W nofun;have kA:d.k≠d.a:=Yj l1 W nofun;generalize av:Vm kv [ki a,ki b] (jv x.links.length)=O;have o2:(zj (zj A H (.tup [jv a,jv b])) d.a (.dT O)) n=Ga (.ins C D (Xi d)):=by rw[Qg nA];exact s1 _ _ R
 have aJ:(zj (zj A H (.tup [jv a,jv b])) d.a (.dT O)) d.k=Ga (.lst r):=by rw[Qg kA];exact s1 _ _ l1
 exists _,Xb,n,C,D,_,_,Xb,o2,e.cl,e.links,Jh _,d.k,r,Xb,.inl (Za.of aJ);rw[lv];refine{_,Xb,n,C,D,_,_,Xb,o2,e.cl,e.Qcn,pe _,_,Xb,_,Xb,by show 2<=Gj;decide,λM N=>?_};have s2:=Qf N (.tup [jv b,jv a]);have ao:M≠d.a:=λz=>by rw[z,Qb]at N;cases N
 have aR:O.length<=2*x.links.length+1:=by rw[<-av];have:=Wp kv [ki a,ki b] (jv x.links.length);lia
 exists d.a,_,Xb,Rm.t (k:=[ki b,ki a]) (s2 _ _ Qb) Qb (by rw[GV];lia);generalize aw:Vm O [ki b,ki a] (jv x.links.length)=kv2;have aK:kv2.length<=2*(x.links.length+1):=by rw[<-aw];have:=Wp O [ki b,ki a] (jv x.links.length);lia
 rw[Hx (a:=d.a) (b:=M) (Gn ao),Wu];have aI:(zj A H (.tup [jv a,jv b])) M=Gh:=by rw[Qg ao]at N;exact N
 have G:Q6 A (zj (zj A H (.tup [jv a,jv b])) M (.tup [jv b,jv a])):=s1.trans (Qf aI _);generalize aO:zj (zj A H (.tup [jv a,jv b])) M (.tup [jv b,jv a])=U at G;have o3:(zj U d.a (.dT kv2)) n=Ga (.ins C D (Xi d)):=by rw[Qg nA];exact G _ _ R
 have l3:(zj U d.a (.dT kv2)) d.k=Ga (.lst r):=by rw[Qg kA];exact G _ _ l1
 exists _,Xb,n,C,D,_,_,Xb,o3,e.cl,e.links,Jh _,.inl {Xb,_,Za.of l3},_,Xb,d.k,r,_,Xb,Xb,l3,(by rw[GV];lia);have Xa:=X.same G;have v:=Xa.I2 (kv2:=kv2) (ls':=r++[.ref c]) (lks:=x.links++[(a,b,ak)]) (lat':=gU x.Xj a b x.links.length) (by rw[List.length_append,List.length_singleton];exact aK) (λi j=>by
  rw[<-aw,ql,<-av,ql,a3];unfold gU;by_cases B:(i=a/\j=b)\/(i=b/\j=a)
  .rw[Gp B];rcases B with⟨rfl,rfl⟩|⟨rfl,rfl⟩
   .rw[Gp rfl];split<;>rfl
   .rw[Gp rfl];rfl
  .rw[Gi B,Gi (λz=>B (by simp only[List.cons.injEq,FH]at z;exact .inr {Jr z.1,Jr z.2})),Gi (λz=>B (by simp only[List.cons.injEq,FH]at z;exact .inl {Jr z.1,Jr z.2}))])
  (Yl (L2.Paired.Z8 l2 λ_ _ m=>m.Qs (Q4.of G)) (.cons (hc.Qs (Q4.of G)) .nil))
 have Fb:R3 d x.S A (zj (zj U d.a (.dT kv2)) d.k (.lst (r++[.ref c]))):=((R3.of G).trans (R3.zj (.inr (.inr (.inr (.inr (.inr (.inl Xb)))))))).trans (R3.zj (.inr (.inr (.inr (.inr (.inl Xb))))));generalize zj (zj U d.a (.dT kv2)) d.k (.lst (r++[.ref c]))=Hb at v Fb;obtain⟨I,L⟩:=v.ob;have aB:=h.ld a Y;have aC:=h.ld b Z;have go:∀g k,((g=a/\k=b)\/(g=b/\k=a))->oF P w C [.ref n,jv g,jv k] Hb (λ_ u=>∃l,u n=Ga (.ins C l (Xi d))/\u d.l=Ga (.dK (dS x.S λp=>jv (x.lead p)))/\oi P w C [.ref n,jv (x.lead g),jv (x.lead k)] u an ac) ac:=by
  intro g k aa;have ab:g∈x.S:=by rcases aa with⟨m,_⟩|⟨m,_⟩<;>rw[m]<;>assumption
  have au:k∈x.S:=by rcases aa with⟨_,m⟩|⟨_,m⟩<;>rw[m]<;>assumption
  have ax:x.lead g≠x.lead k:=by
   rcases aa with⟨B,h2⟩|⟨B,h2⟩<;>rw[B,h2]
   .exact ay
   .exact Gn ay
  have J:=h.ld g ab;have gg:=h.idem g ab;have kS:=h.ld k au;have kk:=h.idem k au;obtain⟨cl,ag⟩:=h.fst.chain g ab;refine{n,d,fs,S,_,g,k,cl,Xb,v,ag,h.fst.chS ag ab,by show x.S.length<=_;lia,λu X1 k1 t1=>?_};obtain⟨l,y⟩:=X1.ob;have F1:R3 d x.S Hb u:={λb aL aG hb=>k1 b aL aG (λz=>hb (z▸.inr (.inr (.inr (.inr (.inr (.inr (.inl Xb)))))))),t1};have aT:=Xt (h.Qlt _ J gg) λp E=>((h.Qce _ J gg p).mp E).1;have aU:=Xt (h.Qlt _ kS kk) λp E=>((h.Qce _ kS kk p).mp E).1;have am:=uN (f:=λp=>if x.lead p=p then(x.Xr p).length else 0) ax J kS;rw[Gp gg,Gp kk]at am;have am:(x.Xr (x.lead g)).length+(x.Xr (x.lead k)).length<=Ud x:=am;refine{l,y,X1.le,n,d,fs,S,_,x.lead g,x.lead k,Xb,X1,aH,J,kS,ax,λp E=>((h.Qce _ J gg p).mp E).1,λp E=>h.Qjo _ J p E,by show x.S.length<=_;lia,?_,?_,?_,λai es H' aD FY lY rY pY=>?_}
  .show(x.mem (x.lead k)).length+(x.mem (x.lead g)).length<=_;lia
  .show(x.Xr (x.lead k)).length+(x.Xr (x.lead g)).length<=_;lia
  .show S+(x.Xr (x.lead g)).length<=_;lia
  .refine q g k cl ai es H' aa ag (Z9.mono ?_ aD) ((Fb.trans F1).trans FY) (Fb.there ai (t1 ai lY)) rY pY;show S+(x.Xr (x.lead g)).length<=_;lia
 have aE:=go a b (.inl ⟨Xb,Xb⟩);have aF:=go b a (.inr ⟨Xb,Xb⟩);exists _,Xb,n,C,I,_,_,Xb,L,e.cl,e.members,Vo _,_,Xb,n,C,I,_,_,Xb,L,e.cl,e.Vh,Yu _,_,Xb,d.l,_,Xb,Xu v.le Y,d.m,_,Xb,Xu v.me aB,_,_,Xb,.inl (Za.of (v.ml _ aB)),_,Xb,n,C,I,_,_,Xb,L,e.cl,e.members,Vo _,_,Xb,n,C,I,_,_,Xb,L,e.cl,e.Vh,Yu _,_,Xb,d.l,_,Xb,Xu v.le Z,d.m,_,Xb,Xu v.me aC,_,_,Xb,.inl (Za.of (v.ml _ aC)),_,_,Xb,Xb,_,Xb;refine Uu (λ_=>?_) (λ_=>?_)
 .subst_vars;obtain⟨n',A',ae,al,x',aj,ah,ad,e1,e2,e3,e4,e5,e6⟩:=aE;and_intros;refine{_,Xb,n,I,_,Xb,L,tT _,_,Xb,_,Xb,n',A',ae,al,x',aj,ah,ad,e1,e2,e3,e4,e5,λu y1 y2 y3=>?_};obtain⟨l,y,Q,g1⟩:=e6 u y1 y2 y3;exact{_,Xb,n,l,_,Xb,y,wJ _,_,Xb,n,C,l,_,_,Xb,y,e.cl,e.Vh,Yu _,_,Xb,d.l,_,Xb,Xu Q Y,_,Xb,n,C,l,_,_,Xb,y,e.cl,e.Vh,Yu _,_,Xb,d.l,_,Xb,Xu Q Z,g1}
 .subst_vars;obtain⟨n',A',ae,al,x',aj,ah,ad,e1,e2,e3,e4,e5,e6⟩:=aF;and_intros;refine{_,Xb,n,I,_,Xb,L,tT _,_,Xb,_,Xb,n',A',ae,al,x',aj,ah,ad,e1,e2,e3,e4,e5,λu y1 y2 y3=>?_};obtain⟨l,y,Q,g1⟩:=e6 u y1 y2 y3;exact{_,Xb,n,l,_,Xb,y,wJ _,_,Xb,n,C,l,_,_,Xb,y,e.cl,e.Vh,Yu _,_,Xb,d.l,_,Xb,Xu Q Z,_,Xb,n,C,l,_,_,Xb,y,e.cl,e.Vh,Yu _,_,Xb,d.l,_,Xb,Xu Q Y,g1}
end
structure gQ(fs:List Fm)(x x':Nn)(a b:Nat)(r:Option Ji)(pend:List Lk):Prop where
 inv:Wk (Yi fs) (Zq fs) x' pend
 S:x'.S=x.S
 Ud:Ud x'=Ud x
 eq:Cj x.S x'.lead pend a b
 mono:∀p∈x.S,∀q∈x.S,x.lead p=x.lead q->x'.lead p=x'.lead q
 snd:∀E,Ec (Yi fs) (Zq fs) x.S E->gM E x [(a,b,r)]->gM E x' pend
 rsn:∀y∈x'.links,y∈x.links\/y=(a,b,r)\/y.2.2=Gh
 pnd:∀y∈pend,y=(a,b,r)\/y.2.2=Gh
 less:cls x'+x'.links.length<=cls x+x.links.length
 more:x.links.length<=x'.links.length
inductive sT(P:Gg)(w:Gu)(C:Gc)(vs:List V)(H:Hp)(Q:VK):Prop
 |mk (n:Gc) (A:Na) (fs:List Fm) (tb:Nat) (x:Nn) (a:Nat) (b:Nat) (rv:V) (r:Option Ji) (h0:vs=[.ref n,jv a,jv b,rv]) (h1:Z9 P w C H n A fs tb x) (h2:hZ fs x.S) (h3:jk H rv r) (h4:r≠Gh) (h5:a∈x.S) (h6:b∈x.S) (h7:Wk (Yi fs) (Zq fs) x []) (h8:x.S.length<=10000) (h9:Ud x<=10000) (h10:cls x+x.links.length<=10000) (h11:tb+cls x*Ud x<=900000) (h12:∀(x':Nn)(H':Hp),Z9 P w C H' n A fs (tb+(x'.links.length - x.links.length)*Ud x) x'->gQ fs x x' a b r []->R3 A x.S H H'->Q .non H'):sT P w C vs H Q
def oz(P:Gg)(w:Gu)(C:Gc):Sp:=λa H Q _=>sT P w C a H Q
theorem gQ.start{c:List Fm}{x:Nn}{a b:Nat}{r:Option Ji}(I:Wk (Yi c) (Zq c) x [])(g:r≠Gh)(d:a∈x.S)(f:b∈x.S):gQ c x x a b r [(a,b,r)]:=
 {I.xq (λ_ _ _ h=>by simp at h) λi j k h=>by simp at h;obtain⟨rfl,rfl,rfl⟩:=h;exact{d,f,λe=>absurd e g},Xb,Xb,.wait (r:=r) (by simp),λ_ _ _ _ e=>e,λE _ h=>h,λy h=>.inl h,λy h=>by simp at h;exact .inl h,Gm _,Gm _}
theorem gQ.drop{k:List Fm}{x d:Nn}{a b f g:Nat}{r l:Option Ji}{c:List Lk}(M:gQ k x d a b r (c++[(f,g,l)]))(e:d.lead f=d.lead g):gQ k x d a b r c:=by
 obtain⟨i,j,_⟩:=M.inv.pnd f g l (by simp);rw[M.S]at i j;refine{M.inv.drop e,M.S,M.Ud,M.eq.map (λp n q o e=>.lead n o e) (λp q w m=>?_),M.mono,λE X h=>{(M.snd E X h).1,λu v s m=>(M.snd E X h).2 u v s (List.mem_append_left _ m)},M.rsn,λy t=>M.pnd y (List.mem_append_left _ t),M.less,M.more};rcases List.mem_append.mp m with m|m
 .exact .wait m
 .simp at m;obtain⟨rfl,rfl,rfl⟩:=m;exact .lead i j e
theorem gQ.join{g:List Fm}{x c:Nn}{a b d f:Nat}{r l:Option Ji}{o:List Lk}(M:gQ g x c a b r (o++[(d,f,l)]))(w:c.lead d≠c.lead f){k n:Nat}{t:List Nat}(j:(k=d/\n=f)\/(k=f/\n=d))(C:Ch c.up k t):
  gQ g x (Yq (Yi g) (Zq g) c d f l k n t).1 a b r (o++(Yq (Yi g) (Zq g) c d f l k n t).2):=by
 obtain⟨F,G,_⟩:=M.inv.pnd d f l (by simp);obtain⟨J,L⟩:=M.inv.join w j C;obtain⟨K,H,N,O⟩:=M.inv.less w j C;have D:∀p∈c.S,∀q∈c.S,c.lead p=c.lead q->(Yq (Yi g) (Zq g) c d f l k n t).1.lead p=(Yq (Yi g) (Zq g) c d f l k n t).1.lead q:=λp z q A e=>by rw[L p z,L q A,e]
 have B:(Yq (Yi g) (Zq g) c d f l k n t).1.lead d=(Yq (Yi g) (Zq g) c d f l k n t).1.lead f:=by
  rw[L d F,L f G];rcases j with⟨rfl,rfl⟩|⟨rfl,rfl⟩
  .rw[Gp rfl];split<;>rfl
  .rw[Gp rfl];split<;>rfl
 exists J,M.S,H.trans M.Ud,M.eq.map (λp z q A e=>.lead z A (D p (M.S▸z) q (M.S▸A) e)) (λp q I m=>?_),λp z q A e=>D p (M.S▸z) q (M.S▸A) (M.mono p z q A e),λE X h=>gM.join (M.snd E X h) (by rw[M.S];exact X) M.inv w j C,λy i=>?_,λy i=>?_,?_
 .rcases List.mem_append.mp m with m|m
  .exact .wait (List.mem_append_left _ m)
  .simp at m;obtain⟨rfl,rfl,rfl⟩:=m;exact .lead (M.S▸F) (M.S▸G) B
 .have i:y∈c.links++[(d,f,l)]:=i;rcases List.mem_append.mp i with i|i
  .exact M.rsn y i
  .rw[List.mem_singleton]at i;subst i;exact .inr (M.pnd _ (by simp))
 .rcases List.mem_append.mp i with i|i
  .exact M.pnd y (List.mem_append_left _ i)
  .obtain⟨u,v,s⟩:=y;exact .inr (Ah i)
 .have:=M.less;lia
 .have:=M.more;lia
section
variable{P:Gg}{w:Gu}{K:Gd}{mg:Tb->Option Value}{base:Heap}
theorem ze:Q3 ["self","one","other","reason","waiting","link"] ["self","one","other","reason"] (Ql ox):=by eq_refl
theorem Jz{c d:Type}{F:c->d->Prop}:∀{a:List c}{b:List d},Paired F a b->a≠[]->∃x y,a[a.length - 1]?=Ga x/\b=b.dropLast++[y]/\F x y/\Paired F a.dropLast b.dropLast
 |_,_,.nil,h=>absurd rfl h
 |_,_,.cons h .nil,_=>{_,_,Xb,Xb,h,.nil}
 |_,_,.cons h (.cons k t),_=>by
  obtain⟨x,y,e,f,g,i⟩:=Jz (.cons k t) (by simp);exists x,y,?_,?_,g
  .simpa using e
  .simp only[List.dropLast_cons_cons,List.cons_append];rw[<-f]
  .simp only[List.dropLast_cons_cons];exact .cons h i
theorem PD{ak fE fM:Gc}{al am:Tq}(F:We K "merge" "Net.merge" ox ak fd)(ah:Ut K mg C)(mE:Ye K C "equal" fE)(GE:Qy P w K mg base Z5 1 fE al ["self","one","other"] (lX P w C))(bE:zk K al ["self","one","other"] [])
  (mM:Ye K C "merge_link" fM)(GM:Qy P w K mg base Z5 3 fM am ["self","link"] (rR P w C))(bM:zk K am ["self","link"] []):
  Qy P w K mg base Z5 4 ak fd ["self","one","other","reason"] (oz P w C):=by
 refine F.ok ze (λe H ag b o=>?_) (λh m p s H e ag b hr o=>?_)
 .obtain⟨n,m,j,tb,x,a,J,Z,ac,rfl,_⟩:=o;rfl
 obtain⟨n,m,j,tb,x,a,J,Z,ac,rfl,X,az,aG,aF,aS,bS,aw,hS,hT,aL,aP,q⟩:=o;have aD:Yd 1 _:=hr.mono (by lia);have aE:Yd 3 _:=hr.mono (by lia);have nd:=ze.nd;exists _,Qc (Qz 4 nd (Zu (Qa (Zg (Qa (pv 1) (Qa (pv 2) (Qa (pv 3) Qe)))) Qe)))
  (Qh (Vd Gy (xB (pv 4) (λ_=>rfl))
   (Qc (Qz 5 nd (jx Gv DB DC jr (pv 4)))
   (Qh (Q8 (Yn (Yb (Zh (pv 0) ah.cl mE GE aD bE .nil Q7 (Qa (Qm Qo (pv 5) Qi) (Qa (Qm Qo (pv 5) Qi) Qe)))))
    (Qh (Zj (X0 Gv EA EB o9 (pv 4) (Qa (Zh (pv 0) ah.cl mM GM aE bM .nil Q7 (Qa (pv 5) Qe)) Qe)))) Qv)))))
 obtain⟨dx,o1⟩:=X.ob;refine{_,Xb,_,Xb,_,Xb,by show 3<=Gj;decide,λc U=>?_};have s1:=Qf U (.tup [jv a,jv J,Z]);refine{by show 1<=Gj;decide,λg aq=>?_};have s2:=Qf aq (.lst [.ref c]);have ad:=s1.trans s2;have u:H g=Gh:=s1.free aq;have wO:¬gF m x.S g:=X.zC u;have wf:g≠m.f:=λz=>by obtain⟨f,f1,_⟩:=X.fo;rw[z,f1]at u;cases u
 have wn:g≠n:=λz=>by rw[z,o1]at u;cases u
 dsimp only[V2];let aH:Nat->St->Hp->Prop:=λau af l=>hA λ(x5:Option V)(f:List V)(d:Nn)(t:List Lk)=>hB (au=cls d*(Ud x+1)+t.length) (af=[Ga (.ref n),Ga (jv a),Ga (jv J),Ga Z,Ga (.ref g),x5]) (l g=Ga (.lst f)) (Paired (Ri l) f t) (Z9 P w C l n m j (tb+(d.links.length - x.links.length)*Ud x) d) (gQ j x d a J ac t) (R3 m x.S H l) (t.length<=1+(cls x - cls d)*Ud x)
 refine qd aH
  {_,Gh,[.ref c],x,[(a,J,ac)],Xb,Xb,Qb,.cons {c,Z,Xb,s2 _ _ Qb,aG.Qs (Q4.of ad)} .nil,(X.same ad).mono (by lia),gQ.start aw aF aS bS,R3.of ad,by simp} ?_ (λaf H ag e b=>λo=>by obtain⟨av,e1,k,S,e3⟩:=o;exact{av,e1,k,S,b _ _ e3})
 rintro au af l ⟨x5,f,d,t,rfl,rfl,w2,p2,ai,i,F2,pl⟩;exists _,Xb,_,.inl {f,Za.of w2,Xb};have aT:=Gq p2;have aK:=xj x;cases hw:f with
 |nil=>refine Q5 ?_;subst hw;cases p2;exact q d l ai i F2
 |cons z zs=>
  refine Yp ?_;have aC:f≠[]:=by rw[hw];simp
  obtain⟨av,⟨p,r,v⟩,e1,S,e3,e4⟩:=Jz p2 aC;have ap:t.length=t.dropLast.length+1:=by rw[S];simp
  obtain⟨L,aI,rfl,an,aA⟩:=e3;exists _,Xb,.inl {Xb,_,Za.of w2},g,f,_,Xb,Xb,w2,e1;have aa:Q4 l (zj l g (.lst f.dropLast)):=Z0 λxs e=>by rw[w2]at e;cases e
  have y:=i.S;have A:Z9 P w C (zj l g (.lst f.dropLast)) n m j (tb+(d.links.length - x.links.length)*Ud x) d:=ai.keep (λh E e b=>by
   rw[Qg λz=>?_]
   .exact e
   .subst z;rcases b with b|b|b
    .rw[y]at b;exact wO b
    .exact wf b
    .exact wn b) aa
  have Q:R3 m x.S H (zj l g (.lst f.dropLast)):=⟨λh E e b=>by rw[Qg (Qd e u)];exact F2.keep h E e b,λh b=>by
   by_cases e:h=g
   .subst e;exact u
   .rw[Qg e]at b;exact F2.there h b⟩
  have O:(zj l g (.lst f.dropLast)) g=Ga (.lst f.dropLast):=Qb;have M:Paired (Ri (zj l g (.lst f.dropLast))) f.dropLast t.dropLast:=L2.Paired.Z8 e4 λ_ _ o=>o.Qs aa;have l3:Ri (zj l g (.lst f.dropLast)) (.ref L) (p,r,v):=Ri.Qs aa ⟨L,aI,Xb,an,aA⟩;have ab:=aa _ _ an;generalize zj l g (.lst f.dropLast)=H3 at A Q O M l3 ab;rw[S]at i;generalize t.dropLast=N at i M ap;obtain⟨ax,ay,_⟩:=i.inv.pnd p r v (by simp);obtain⟨aj,o3⟩:=A.ob;exists _,Xb,n,aj,_,Xb,o3,qu _,_,Xb,L,_,_,_,Xb,Xb,Q9.of ab,Rz _ _,_,Xb,L,_,_,_,Xb,Xb,Q9.of ab,Rh _ _ _,n,m,j,_,d,p,r,Xb,A,ax,ay,_,Xb;by_cases D:d.lead p=d.lead r
  .rw[Gw D];refine Q5 {_,?_,_,f.dropLast,d,N,Xb,Xb,O,M,A,i.drop D,Q,by lia};lia
  .rw[Gr D];refine Yp ?_;have aB:d.links.length - x.links.length<=cls x:=by have:=i.less;lia
   have aO:(d.links.length - x.links.length)*Ud x<=cls x*Ud x:=D2 _ aB;have B:=i.Ud;have aR:f.dropLast.length=N.length:=Gq M;have aM:N.length+Ud x<=1000000:=by have:(cls x - cls d)*Ud x<=cls x*Ud x:=D2 _ (Nat.sub_le _ _);lia
   refine{_,Xb,.inl {Xb,_,Za.of O},_,Xb,n,aj,_,Xb,o3,CZ _,_,Xb,n,m,j,_,d,L,p,r,v,N,Xb,A,by rw[y];exact az,l3,i.inv,D,by rw[y];exact hS,by rw[B];exact hT,by have:=i.less;lia,by rw[B];lia,λY W R ar T I ao U Y4 G hl r4 p4=>?_};rw[y]at G;have w4:I g=Ga (.lst f.dropLast):=G.keep _ _ O wO;have aN:ar≠g:=λz=>by rw[z,O]at hl;cases hl
   obtain⟨j1,j2,j3,j4⟩:=i.inv.less D ao U;have aQ:T.length<=Ud x:=by rw[Gq p4,<-B];exact j3
   exists g,ar,f.dropLast,T,Xb,Xb,w4,r4,small (by lia);have aJ:Q4 H3 I:=λh xs e=>G.keep h _ e (by rw[<-y];exact A.n7 e);have ae:Q4 I (zj I g (.lst (f.dropLast++T))):=Z0 λxs e=>by rw[w4]at e;cases e
   have Y5:Z9 P w C (zj I g (.lst (f.dropLast++T))) n m j _ _:=Y4.keep (λh E e b=>by
    rw[Qg λz=>?_]
    .exact e
    .subst z;rcases b with b|b|b
     .have b:gF m d.S h:=b;rw[y]at b;exact wO b
     .exact wf b
     .exact wn b) ae
   have M5:=i.join D ao U;exists cls (Yq (Yi j) (Zq j) d p r v Y W R).1*(Ud x+1)+(N++(Yq (Yi j) (Zq j) d p r v Y W R).2).length,?_,_,_,_,_,Xb,Xb,Qb,Yl (L2.Paired.Z8 M λ_ _ o=>(o.Qs aJ).Qs ae) (L2.Paired.Z8 p4 λ_ _ o=>o.Qs ae),Y5.mono ?_,M5,{λh E e b=>?_,λh b=>?_}
   .rw[List.length_append,ap];have hj:cls (Yq (Yi j) (Zq j) d p r v Y W R).1+1<=cls d:=j1;have:=D2 (Ud x+1) hj;rw[Eg,Fs]at this;rw[B]at j3;lia
   .rw[B,j4];have:=i.more;rw[show d.links.length+1 - x.links.length=(d.links.length - x.links.length)+1 by lia,Eg,Fs];lia
   .rw[Qg (Qd e u)];exact G.keep h E (Q.keep h E e b) b
   .by_cases e:h=g
    .subst e;exact u
    .rw[Qg e]at b;exact Q.there h (G.there h b)
   .rw[List.length_append];have h1:cls x - cls d+1<=cls x - cls (Yq (Yi j) (Zq j) d p r v Y W R).1:=by have:=i.less;have:=i.more;lia
    have:=D2 (Ud x) h1;rw[Eg,Fs]at this;rw[B]at j3;lia
end
inductive wQ(P:Gg)(w:Gu)(C:Gc)(vs:List V)(H:Hp)(Q:VK):Prop
 |mk (n:Gc) (dx:Gc) (f:Gc) (ws:List V) (fs:List Fm) (h0:vs=[.ref n,.ref f]) (h1:H n=Ga (.ins C dx [])) (h2:H f=Ga (.lst ws)) (h3:Paired (Rk H) ws fs) (h4:∀(A:Na)(H':Hp),A.f=f->Z9 P w C H' n A fs 0 (fresh (Yi fs) (Zq fs) [])->(∀b o,H b=Ga o->b≠n->H' b=Ga o)->(∀b,gF A [] b->H b=Gh)->Q .non H'):wQ P w C vs H Q
def yl(P:Gg)(w:Gu)(C:Gc):Sp:=λa H Q _=>wQ P w C a H Q
section
variable{P:Gg}{w:Gu}{K:Gd}{mg:Tb->Option Value}{base:Heap}
theorem AS:Q3 ["self","forms"] ["self","forms"] (Ql Wl):=by eq_refl
theorem CL{f0:Gc}(F:We K "__init__" "Net.__init__" Wl f0 fd)(B:Ut K mg C):Qy P w K mg base Z5 1 f0 fd ["self","forms"] (yl P w C):=by
 refine F.ok AS (λvs A ao aj W=>?_) (λaB aA aC s A vs ao aj hr W=>?_)
 .obtain⟨n,f,r,ws,fs,rfl,_⟩:=W;rfl
 obtain⟨n,f,r,ws,fs,rfl,hn,hf,az,q⟩:=W;show∃t,Ia ?my _ t/\_;let w8:Xk ?my Wl 7:={_,Qh (Xd (pv 0) Jc Xb)}
 let w7:Xk ?my Wl 6:={_,Qc (Xd (pv 0) Oj Xb) w8.2}
 let w6:Xk ?my Wl 5:={_,Qc (Xd (pv 0) (Zu Qe) rfl) w7.2}
 let w5:Xk ?my Wl 4:={_,Qc (Xd (tv:=nU P w) (pv 0) Ii Xb) w6.2}
 let w4:Xk ?my Wl 3:={_,Qc (Xd (pv 0) Jc Xb) w5.2}
 let w3:Xk ?my Wl 2:={_,Qc (Xd (pv 0) Jc Xb) w4.2}
 let w2:Xk ?my Wl 1:={_,Qc (Xd (pv 0) Jc Xb) w3.2}
 exists _,Qc (Xd (pv 0) (pv 1) rfl) w2.2;have l:∀{v:Hp}{b a:Gc}{c Y:HO}{ab:List (Tb×V)},v b=Ga c->b≠n->v a=Gh->(zj (zj v a Y) n (.ins C f ab)) b=Ga c:=λe d ha=>by rw[Qg d,Qg (Qd e ha)];exact e
 have Z:∀{v:Hp}{a:Gc}{Y:HO}{ab:List (Tb×V)}{c:HO},v n=Ga c->v a=Gh->(zj (zj v a Y) n (.ins C f ab)) a=Ga Y:=λe ha=>by rw[Qg (Gn (Qd e ha)),Qb]
 exists _,Xb,_,Xb,n,C,f,[],Xb,hn,B.cl,B.Qdq,(by show 0<1000;decide);have fn:r≠n:=Yj hf hn nofun;have g0:∀b c,A b=Ga c->b≠n->(zj A n (.ins C f (Yo "forms" (.ref r) []))) b=Ga c:=λb c e d=>by rw[Qg d];exact e
 have n0:(zj A n (.ins C f (Yo "forms" (.ref r) []))) n=Ga (.ins C f (Yo "forms" (.ref r) [])):=Qb;have t0:∀b,(zj A n (.ins C f (Yo "forms" (.ref r) []))) b=Gh->A b=Gh:=λb d=>by
  by_cases e:b=n
  .subst e;rw[Qb]at d;cases d
  .rw[Qg e]at d;exact d
 generalize zj A n (.ins C f (Yo "forms" (.ref r) []))=v at g0 n0 t0;have tt:∀{v:Hp}{a:Gc}{Y:HO}{ab:List (Tb×V)},(∀b,v b=Gh->A b=Gh)->∀b,(zj (zj v a Y) n (.ins C f ab)) b=Gh->A b=Gh:=λW b d=>by
  refine W b ?_;by_cases e:b=n
  .subst e;rw[Qb]at d;cases d
  .rw[Qg e]at d
   rename_i v a Y ab
   by_cases e2:b=a
   .subst e2;rw[Qb]at d;cases d
   .rw[Qg e2]at d;exact d
 intro h ae;exists _,Xb,n,C,f,_,Xb,(by rw[Qg (Qd n0 ae)];exact n0),B.cl,B.Vh,(by show 1<1000;decide);have l1:=@Z v h (.dK []) (Yo "leads" (.ref h) (Yo "forms" (.ref r) [])) _ n0 ae;have n1:=@Qb (zj v h (.dK [])) n (.ins C f (Yo "leads" (.ref h) (Yo "forms" (.ref r) [])));have g1:∀b c,A b=Ga c->b≠n->_:=λb c e d=>@l v b h c (.dK []) (Yo "leads" (.ref h) (Yo "forms" (.ref r) [])) (g0 b c e d) d ae;have t1:=@tt v h (.dK []) (Yo "leads" (.ref h) (Yo "forms" (.ref r) [])) t0;have ln:h≠n:=Gn (Qd n0 ae);have aq:=t0 _ ae;generalize zj (zj v h (.dK [])) n (.ins C f (Yo "leads" (.ref h) (Yo "forms" (.ref r) [])))=H1 at l1 n1 g1 t1⊢;intro m X;exists _,Xb,n,C,f,_,Xb,(by rw[Qg (Qd n1 X)];exact n1),B.cl,B.members,(by show 2<1000;decide);generalize ac:Yo "members" (.ref m) (Yo "leads" (.ref h) (Yo "forms" (.ref r) []))=T;have m2:=@Z H1 m (.dK []) T _ n1 X;have n2:=@Qb (zj H1 m (.dK [])) n (.ins C f T);have g2:∀b c,A b=Ga c->b≠n->_:=λb c e d=>@l H1 b m c (.dK []) T (g1 b c e d) d X;have t2:=@tt H1 m (.dK []) T t1;have mn:m≠n:=Gn (Qd n1 X);have ar:=t1 _ X;have l2:=@l H1 h m _ (.dK []) T l1 ln X;have lm:h≠m:=Qd l1 X;generalize zj (zj H1 m (.dK [])) n (.ins C f T)=U at m2 n2 g2 t2 l2⊢;intro o N;exists _,Xb,n,C,f,_,Xb,(by rw[Qg (Qd n2 N)];exact n2),B.cl,B.Qe2,(by rw[<-ac];show 3<1000;decide);generalize ad:Yo "users" (.ref o) T=O;have u3:=@Z U o (.dK []) O _ n2 N;have n3:=@Qb (zj U o (.dK [])) n (.ins C f O);have g3:∀b c,A b=Ga c->b≠n->_:=λb c e d=>@l U b o c (.dK []) O (g2 b c e d) d N;have t3:=@tt U o (.dK []) O t2;have un:o≠n:=Gn (Qd n2 N);have ax:=t2 _ N;have l3:=@l U h o _ (.dK []) O l2 ln N;have m3:=@l U m o _ (.dK []) O m2 mn N;have lu:h≠o:=Qd l2 N;have mu:m≠o:=Qd m2 N;generalize zj (zj U o (.dK [])) n (.ins C f O)=Q at u3 n3 g3 t3 l3 m3⊢;intro g R;exists _,Xb,n,C,f,_,Xb,(by rw[Qg (Qd n3 R)];exact n3),B.cl,B.table,by rw[<-ad,<-ac];show 4<1000;decide,Gz _;generalize af:Yo "table" (.ref g) O=I;have d4:=@Z Q g (V5 P w g []) I _ n3 R;have n4:=@Qb (zj Q g (V5 P w g [])) n (.ins C f I);have g4:∀b c,A b=Ga c->b≠n->_:=λb c e d=>@l Q b g c (V5 P w g []) I (g3 b c e d) d R;have t4:=@tt Q g (V5 P w g []) I t3;have dn:g≠n:=Gn (Qd n3 R);have aw:=t3 _ R;have l4:=@l Q h g _ (V5 P w g []) I l3 ln R;have m4:=@l Q m g _ (V5 P w g []) I m3 mn R;have u4:=@l Q o g _ (V5 P w g []) I u3 un R;generalize zj (zj Q g (V5 P w g [])) n (.ins C f I)=J at d4 n4 g4 t4 l4 m4 u4⊢;intro u M;exists _,Xb,n,C,f,_,Xb,(by rw[Qg (Qd n4 M)];exact n4),B.cl,B.links,(by rw[<-af,<-ad,<-ac];show 5<1000;decide);generalize ah:Yo "links" (.ref u) I=E;have k5:=@Z J u (.lst []) E _ n4 M;have n5:=@Qb (zj J u (.lst [])) n (.ins C f E);have g5:∀b c,A b=Ga c->b≠n->_:=λb c e d=>@l J b u c (.lst []) E (g4 b c e d) d M;have t5:=@tt J u (.lst []) E t4;have kn:u≠n:=Gn (Qd n4 M);have ag:=t4 _ M;have l5:=@l J h u _ (.lst []) E l4 ln M;have m5:=@l J m u _ (.lst []) E m4 mn M;have u5:=@l J o u _ (.lst []) E u4 un M;have d5:=@l J g u _ (.lst []) E d4 dn M;generalize zj (zj J u (.lst [])) n (.ins C f E)=G at k5 n5 g5 t5 l5 m5 u5 d5⊢;intro x H;exists _,Xb,n,C,f,_,Xb,(by rw[Qg (Qd n5 H)];exact n5),B.cl,B.Qcn,(by rw[<-ah,<-af,<-ad,<-ac];show 6<1000;decide);generalize ai:Yo "link_at" (.ref x) E=D;have a6:=@Z G x (.dT []) D _ n5 H;have n6:=@Qb (zj G x (.dT [])) n (.ins C f D);have g6:∀b c,A b=Ga c->b≠n->_:=λb c e d=>@l G b x c (.dT []) D (g5 b c e d) d H;have t6:=@tt G x (.dT []) D t5;have an:x≠n:=Gn (Qd n5 H);have ap:=t5 _ H;have l6:=@l G h x _ (.dT []) D l5 ln H;have m6:=@l G m x _ (.dT []) D m5 mn H;have u6:=@l G o x _ (.dT []) D u5 un H;have d6:=@l G g x _ (.dT []) D d5 dn H;have k6:=@l G u x _ (.dT []) D k5 kn H;generalize zj (zj G x (.dT [])) n (.ins C f D)=H6 at a6 n6 g6 t6 l6 m6 u6 d6 k6⊢;intro L S;exists _,Xb,n,C,f,_,Xb,(by rw[Qg (Qd n6 S)];exact n6),B.cl,B.above,(by rw[<-ai,<-ah,<-af,<-ad,<-ac];show 7<1000;decide);have ay:Yo "above" (.ref L) D=Xi {r,h,m,o,g,u,x,L,λ_=>0,λ_=>0}:=by rw[<-ai,<-ah,<-af,<-ad,<-ac];rfl
 rw[ay];have v7:=@Z H6 L (.dK []) (Xi {r,h,m,o,g,u,x,L,λ_=>0,λ_=>0}) _ n6 S;have g7:∀b c,A b=Ga c->b≠n->_:=λb c e d=>@l H6 b L c (.dK []) (Xi {r,h,m,o,g,u,x,L,λ_=>0,λ_=>0}) (g6 b c e d) d S;have s7:∀{b c},H6 b=Ga c->b≠n->_:=λ{b c}e d=>@l H6 b L c (.dK []) (Xi {r,h,m,o,g,u,x,L,λ_=>0,λ_=>0}) e d S;refine q {r,h,m,o,g,u,x,L,λ_=>0,λ_=>0} _ rfl ⟨⟨f,Qb⟩,{ws,g7 _ _ hf fn,L2.Paired.Z8 az λ_ _ W=>W.Qs λb xs e=>g7 b _ e (Yj e hn nofun)},s7 l6 ln,s7 m6 mn,s7 u6 un,{[],{s7 d6 dn,(λp y=>nomatch y)},Gm _,λk=>rfl},{[],s7 k6 kn,.nil},{[],s7 a6 an,Gm _,λi j=>rfl},v7,(λp y=>nomatch y),(λp y=>nomatch y),
  {lm,lu,Qd l6 S,mu,Qd m6 S,Qd u6 S,λz=>?_,(λp y=>nomatch y),(λp y=>nomatch y),(λp y=>nomatch y),(λp y=>nomatch y),(λp y=>nomatch y)}⟩ g7 (λb d=>?_)
 .have z:u=r:=z;rw[z,hf]at ag;cases ag
 .rcases d with rfl|rfl|rfl|rfl|rfl|rfl|rfl|⟨p,y,_⟩
  .exact aq
  .exact ar
  .exact ax
  .exact aw
  .exact ag
  .exact ap
  .exact t6 _ S
  .exact nomatch y
end
end K03
namespace Nt
theorem sq{a:Nat->List Nat}{M:Nat}(h:∀p,(a p).length<=M):∀(S:List Nat)(q:Nat),(Xe a S q).length<=S.length*M
 |[],q=>by simp[Xe]
 |p::S,q=>by have b:=sq h S q;have c:((a p).count q)<=(a p).length:=List.count_le_length;have d:=h p;unfold Xe at b⊢;rw[List.flatMap_cons,List.length_append,List.length_replicate,List.length_cons,Eg];lia
theorem A2{a:Nat->List Nat}{S:List Nat}{p:Nat}(h:∀q∈S,p∉a q):Xe a S p=[]:=by unfold Xe;rw[List.flatMap_eq_nil_iff];intro q b;have:(a q).count p=0:=List.count_eq_zero.mpr (h q b);rw[this];rfl
theorem Kb{l:List Nat}{i u q:Nat}(h:l[i]?=Ga u):(l.take (i+1)).count q=(l.take i).count q+if u=q then 1 else 0:=by
 rw[List.take_add_one,h,List.count_append];congr 1;simp only[Option.toList];rw[List.count_singleton];by_cases e:u=q
 .rw[Gp e];simp[e]
 .rw[Gi e];simp[e]
end Nt
namespace K03
open PySem L2 Sb Nt
variable{A:Na}{S:List Nat}{H:Hp}{C:Gc}
structure mQ(fs:List Fm)(rk:Nat->Nat):Prop where
 str:∀p,TR (Yi fs p)=Gf
 few:∀p,(Zq fs p).length<=100
 pts:∀p,p<fs.length->∀q∈Zq fs p,q<fs.length/\rk q<rk p
 inj:∀p q,p<fs.length->q<fs.length->Yi fs p=Yi fs q->Zq fs p=Zq fs q->p=q
 len:fs.length<=1000
structure Frs(P:Gg)(w:Gu)(C:Gc)(H:Hp)(n:Gc)(A:Na)(fs:List Fm)(S:List Nat):Prop where
 at_:Z9 P w C H n A fs S.length (fresh (Yi fs) (Zq fs) S)
 nd:S.Nodup
 cl:∀p∈S,∀q∈Zq fs p,q∈S
 lt:∀p∈S,p<fs.length
structure gY(A:Na)(S:List Nat)(A':Na)(S':List Nat)(H H':Hp):Prop where
 keep:∀b o,H b=Ga o->¬gF A S b->H' b=Ga o
 own:∀b,gF A' S' b->gF A S b\/H b=Gh
 there:∀b,H' b=Gh->H b=Gh
theorem gY.refl:gY A S A S H H:={λ_ _ e _=>e,λ_ h=>.inl h,λ_ h=>h}
theorem gY.trans{a c:Na}{g i:List Nat}{d f:Hp}(x:gY A S a g H d)(y:gY a g c i d f):gY A S c i H f:=by
 refine{λb o e h=>y.keep b o (x.keep b o e h) λz=>?_,λb h=>?_,λb h=>x.there b (y.there b h)}
 .rcases x.own b z with z|z
  .exact h z
  .rw[e]at z;cases z
 .rcases y.own b h with h|h
  .exact x.own b h
  .exact .inr (x.there b h)
def na(A:Na)(ml ul:Nat->Gc):Na:={A with ml:=ml,ul:=ul}
inductive xM(P:Gg)(w:Gu)(C:Gc)(k:Nat)(vs:List V)(H:Hp)(Q:VK):Prop
 |mk (n:Gc) (A:Na) (fs:List Fm) (rk:Nat->Nat) (S:List Nat) (p:Nat) (h0:vs=[.ref n,jv p]) (h1:Frs P w C H n A fs S) (h2:mQ fs rk) (h3:p<fs.length) (h4:rk p<k) (h5:∀(S':List Nat)(ml ul:Nat->Gc)(H':Hp),Frs P w C H' n (na A ml ul) fs S'->(∀q∈S,q∈S')->p∈S'->(∀q∈S',q∈S\/rk q<=rk p)->gY A S (na A ml ul) S' H H'->Q .non H'):xM P w C k vs H Q
def ji(P:Gg)(w:Gu)(C:Gc)(k:Nat):Sp:=λa H Q _=>xM P w C k a H Q
section
variable{P:Gg}{w:Gu}{K:Gd}{mg:Tb->Option Value}{base:Heap}
theorem ud:Q3 ["self","place","part"] ["self","place"] (Ql Wx):=by eq_refl
theorem JH{P:Gg}{w:Gu}{n:Gc}{g:List Fm}{p:Nat}{m0 u0:Gc}(X:Z9 P w C H n A g S.length (fresh (Yi g) (Zq g) S))(hp:p∉S)(hm:H m0=Gh)(hu:H u0=Gh)(t:m0≠u0)(x:Xe (Zq g) S p=[]):
  Z9 P w C (zj (zj (zj (zj (zj (zj H A.l (.dK (dS (S++[p]) λq=>jv q))) m0 (.lst [jv p])) A.m (.dK (dS (S++[p]) λq=>.ref (if q=p then m0 else A.ml q)))) u0 (.lst [])) A.u (.dK (dS (S++[p]) λq=>.ref (if q=p then u0 else A.ul q)))) A.v (.dK (dS (S++[p]) λ_=>.non)))
   n (na A (λq=>if q=p then m0 else A.ml q) (λq=>if q=p then u0 else A.ul q)) g S.length {fresh (Yi g) (Zq g) (S++[p])with Xr:=Xe (Zq g) S,tab:=iA (Yi g) (Zq g) S}:=by
 obtain⟨V,o1⟩:=X.ob;obtain⟨ws,B,W⟩:=X.fo;obtain⟨i,D,T,U⟩:=X.ta;obtain⟨ls,E,l2⟩:=X.li;obtain⟨kv,Q,R⟩:=X.at_;have j:∀{b o},H b=Ga o->b≠m0:=λe=>Qd e hm;have k:∀{b o},H b=Ga o->b≠u0:=λe=>Qd e hu;have u:∀{b o},H b=Ga o->b≠A.l->b≠A.m->b≠A.u->b≠A.v->(zj (zj (zj (zj (zj (zj H A.l (.dK (dS (S++[p]) λq=>jv q))) m0 (.lst [jv p])) A.m (.dK (dS (S++[p]) λq=>.ref (if q=p then m0 else A.ml q)))) u0 (.lst [])) A.u (.dK (dS (S++[p]) λq=>.ref (if q=p then u0 else A.ul q)))) A.v (.dK (dS (S++[p]) λ_=>.non))) b=Ga o:=λe m s Y Z=>by rw[Qg Z,Qg Y,Qg (k e),Qg s,Qg (j e),Qg m];exact e
 have y:∀{b o},H b=Ga o->(∀i,o≠.dK i)->b≠A.l/\b≠A.m/\b≠A.u/\b≠A.v:=λe h=>{Yj e X.le (h _),Yj e X.me (h _),Yj e X.us (h _),Yj e X.ab (h _)};have l:∀{b o},H b=Ga o->(∀i,o≠.dK i)->_:=λ{b o}e h=>u e (y e h).1 (y e h).2.1 (y e h).2.2.1 (y e h).2.2.2;have K:Q4 H _:=λb xs e=>l e (λ_ z=>nomatch z);have F:=j X.le;have I:=j X.me;have L:=j X.us;have N:=j X.ab;have G:=k X.le;have J:=k X.me;have M:=k X.us;have O:=k X.ab;have f:∀q∈S,q≠p:=λq a z=>hp (z▸a);refine{{V,l o1 (λ_ z=>nomatch z)},{ws,l B (λ_ z=>nomatch z),L2.Paired.Z8 W λ_ _ h=>h.Qs K},?_,?_,?_,{i,{l D.at_ (λ_ z=>nomatch z),Zi K D.keys},T,U},{ls,l E (λ_ z=>nomatch z),L2.Paired.Z8 l2 λ_ _ h=>h.Qs K},{kv,l Q (λ_ z=>nomatch z),R},Qb,λq a=>?_,λq a=>?_,{X.ap.lm,X.ap.lu,X.ap.lv,X.ap.mu,X.ap.mv,X.ap.uv,X.ap.kf,λq a r v=>?_,λq a r v=>?_,λq a r v=>?_,λq a=>?_,λq a=>?_}}
 .show(zj _ A.v _) A.l=Ga (HO.dK (dS (S++[p]) λq=>jv q));rw[Qg X.ap.lv,Qg X.ap.lu,Qg G,Qg X.ap.lm,Qg F,Qb]
 .show(zj _ A.v _) A.m=Ga (HO.dK (dS (S++[p]) λq=>.ref (if q=p then m0 else A.ml q)));rw[Qg X.ap.mv,Qg X.ap.mu,Qg J,Qb]
 .show(zj _ A.v _) A.u=Ga (HO.dK (dS (S++[p]) λq=>.ref (if q=p then u0 else A.ul q)));rw[Qg X.ap.uv,Qb]
 .show(zj _ A.v _) (if q=p then m0 else A.ml q)=Ga (.lst [jv q]);rcases List.mem_append.mp a with a|a
  .rw[Gi (f q a)];exact l (X.ml q a) (λ_ z=>nomatch z)
  .have:q=p:=by simpa using a
   subst this;rw[Gp Xb,Qg (Gn N),Qg (Gn L),Qg t,Qg (Gn I),Qb]
 .show(zj _ A.v _) (if q=p then u0 else A.ul q)=Ga (.lst ((Xe (Zq g) S q).map jv));rcases List.mem_append.mp a with a|a
  .rw[Gi (f q a)];exact l (X.ul q a) (λ_ z=>nomatch z)
  .have:q=p:=by simpa using a
   subst this;rw[Gp Xb,x,Qg (Gn O),Qg (Gn M),Qb];rfl
 .show(if q=p then m0 else A.ml q)=(if r=p then m0 else A.ml r)->q=r;rcases List.mem_append.mp a with c|c<;>rcases List.mem_append.mp v with d|d
  .rw[Gi (f q c),Gi (f r d)];exact X.ap.mm q c r d
  .have:r=p:=by simpa using d
   subst this;rw[Gi (f q c),Gp rfl];intro z;exact absurd z (j (X.ml q c))
  .have:q=p:=by simpa using c
   subst this;rw[Gi (f r d),Gp rfl];intro z;exact absurd z.symm (j (X.ml r d))
  .intro _;have m:q=p:=by simpa using c
   have s:r=p:=by simpa using d
   rw[m,s]
 .show(if q=p then u0 else A.ul q)=(if r=p then u0 else A.ul r)->q=r;rcases List.mem_append.mp a with c|c<;>rcases List.mem_append.mp v with d|d
  .rw[Gi (f q c),Gi (f r d)];exact X.ap.uu q c r d
  .have:r=p:=by simpa using d
   subst this;rw[Gi (f q c),Gp rfl];intro z;exact absurd z (k (X.ul q c))
  .have:q=p:=by simpa using c
   subst this;rw[Gi (f r d),Gp rfl];intro z;exact absurd z.symm (k (X.ul r d))
  .intro _;have m:q=p:=by simpa using c
   have s:r=p:=by simpa using d
   rw[m,s]
 .show(if q=p then m0 else A.ml q)≠(if r=p then u0 else A.ul r);rcases List.mem_append.mp a with c|c<;>rcases List.mem_append.mp v with d|d
  .rw[Gi (f q c),Gi (f r d)];exact X.ap.mul q c r d
  .have:r=p:=by simpa using d
   subst this;rw[Gi (f q c),Gp rfl];exact k (X.ml q c)
  .have:q=p:=by simpa using c
   subst this;rw[Gi (f r d),Gp rfl];exact Gn (j (X.ul r d))
  .have m:q=p:=by simpa using c
   have s:r=p:=by simpa using d
   rw[Gp m,Gp s];exact t
 .show(if q=p then m0 else A.ml q)≠A.k/\(if q=p then m0 else A.ml q)≠A.f;rcases List.mem_append.mp a with a|a
  .rw[Gi (f q a)];exact X.ap.mkf q a
  .have:q=p:=by simpa using a
   rw[Gp this];exact{Gn (j E),Gn (j B)}
 .show(if q=p then u0 else A.ul q)≠A.k/\(if q=p then u0 else A.ul q)≠A.f;rcases List.mem_append.mp a with a|a
  .rw[Gi (f q a)];exact X.ap.ukf q a
  .have:q=p:=by simpa using a
   rw[Gp this];exact{Gn (k E),Gn (k B)}
end
section
variable{P:Gg}{w:Gu}{K:Gd}{mg:Tb->Option Value}{base:Heap}
theorem Z4{b c:Gc}{o:HO}(h:zj H b o c=Gh):H c=Gh:=by
 by_cases e:c=b
 .subst e;rw[Qb]at h;cases h
 .rw[Qg e]at h;exact h
theorem Qk{b c:Gc}{o u:HO}(e:H c=Ga u)(h:c≠b):zj H b o c=Ga u:=by rw[Qg h];exact e
theorem AX{k:Nat}{af fK:Gc}{fd av:Tq}(F:We K "take_in" "Net.take_in" Wx af fd)(o:Ut K mg C)(mT:Ye K C "take_in" af)(bT:zk K fd ["self","place"] [])(aD:Qy P w K mg base Z5 (k+1) af fd ["self","place"] (ji P w C k))
  (mK:Ye K C "key_of" fK)(GK:Qy P w K mg base Z5 1 fK av ["self","place"] (lO P w C))(bK:zk K av ["self","place"] []):Qy P w K mg base Z5 (k+2) af fd ["self","place"] (ji P w C (k+1)):=by
 refine F.ok ud (λU aa Q m b=>?_) (λaq f ar s aa U Q m l b=>?_)
 .obtain⟨n,f,e,rk,S,p,rfl,_⟩:=b;rfl
 obtain⟨n,f,e,rk,S,p,rfl,X,T,M,hk,q⟩:=b;have G:=Je l;have aO:=l.units;have aN:Yd 1 _:=l.mono (by ext);have nd:=ud.nd;show∃t,Ia ?my _ t/\_;let w8:Xk ?my Wx 7:={_,Qh (Rt (pv 1) (jJ (Qu (pv 0) rfl) (Zh (pv 0) o.cl mK GK aN bK .nil Q7 (Qa (pv 1) Qe)) (jA aO)))}
 let w7:Xk ?my Wx 6:=⟨_,Qc (Z6 Gy rfl (Uj (Qm Qo (Qm Zc (Qu (pv 0) rfl) (pv 1)) Qi)) (Zz 2 nd)
   (Qh (Zj (X0 Gv GQ GX Zy (Zx G (Qu (pv 0) rfl) (pv 2) (λ_ _=>rfl)) (Qa (pv 1) Qe))))) w8.2⟩
 let w6:Xk ?my Wx 5:={_,Qc (Ws G (Qu (pv 0) rfl) (pv 1) Uo Xb) w7.2}
 let w5:Xk ?my Wx 4:={_,Qc (Ws G (Qu (pv 0) rfl) (pv 1) (Zu Qe) rfl) w6.2}
 let w4:Xk ?my Wx 3:={_,Qc (Ws G (Qu (pv 0) rfl) (pv 1) (Zu (Qa (pv 1) Qe)) rfl) w5.2}
 let w3:Xk ?my Wx 2:={_,Qc (Ws G (Qu (pv 0) rfl) (pv 1) (pv 1) rfl) w4.2}
 let w2:Xk ?my Wx 1:=⟨_,Qc (Z6 Gy rfl (Uj (Qm Qo (Qm Zc (Qu (pv 0) rfl) (pv 1)) Qi)) (Zz 2 nd)
   (Qh (Zj (Zh (pv 0) o.cl mT aD l bT .nil Q7 (Qa (pv 2) Qe))))) w3.2⟩
 exists _,Qc (Q8 (jO (nJ G (pv 1) (Qu (pv 0) rfl))) (Qh Hs) Qv) w2.2;obtain⟨dx,o1⟩:=X.at_.ob;have a8:S.length<=e.length:=Xt (S:=List.range e.length) X.nd (λa l=>List.mem_range.mpr (X.lt a l))|>λb=>by rw[List.length_range]at b;exact b
 have a6:=T.len;have gl:Vf aa f.l (jv p) (Xh (dS S λa=>jv a) (ki p)):=Vf.k (k:=ki p) X.at_.le;exists _,Xb,_,Xb,n,C,dx,_,_,Xb,o1,o.cl,o.Vh,Yu _,f.l,_,Xb,gl,_,Xb;rw[vF];by_cases ag:p∈S
 .rw[Gw ag];refine Yp ?_;exact q S f.ml f.ul aa X (λ_ b=>b) ag (λa b=>.inl b) gY.refl
 rw[Gr ag];refine Q5 ?_;subst_vars;obtain⟨ws,f1,f2⟩:=X.at_.fo;have hw:p<ws.length:=by rw[Gq f2];exact M
 obtain⟨y,hy,c,B,ec,H,A⟩:=Qw f2 (List.getElem?_eq_getElem hw);and_intros;rw[jd M]at hy;cases hy;have a5:=T.few p;let aV:Nat->St->Hp->Prop:=λi I v=>hA λ(x2:Option V)(d:List Nat)(x r:Nat->Gc)=>kJ (I=[Ga (.ref n),Ga (jv p),x2]) (Frs P w C v n (na f x r) e d) (∀a∈S,a∈d) (∀a∈(Zq e p).take i,a∈d) (∀a∈d,a∈S\/rk a<rk p) (gY f S (na f x r) d aa v)
 refine⟨_,Xb,n,C,dx,_,_,Xb,o1,o.cl,o.Qdq,U8 _,_,Xb,f.f,ws,_,_,Xb,Xb,Za.of f1,Qj (List.getElem?_eq_getElem hw),c,_,_,_,ec,Xb,Q9.of H,Rh _ _ _,B,Xb,{_,Q9.of A},nZ (K:=K) (a:=B) (xs:=(Zq e p).map jv)
  aV
  {_,S,f.ml,f.ul,Xb,X,λ_ b=>b,by simp,λa b=>.inl b,gY.refl} (by rintro i I v _ ⟨_,_,_,_,_,_,_,_,_,F2⟩;exact Q9.of (F2.keep _ _ A (X.at_.n7 A))) ?_ ?_⟩
 .rintro i y I v D ⟨x2,d,x,r,rfl,h,sub,done,ai,F2⟩;rw[List.getElem?_map]at D;cases eq:(Zq e p)[i]? with
  |none=>rw[eq]at D;cases D
  |some a=>
   rw[eq]at D;cases D;obtain⟨rl,rr⟩:=T.pts p M a (List.mem_of_getElem? eq);obtain⟨L,N⟩:=h.at_.ob;refine{_,Xb,n,L,_,Xb,N,qm _,_,Xb,n,na f x r,e,rk,d,a,Xb,h,T,rl,by ext,λS3 aj al H3 X3 Q r3 ak U=>?_};refine{_,S3,aj,al,Xb,X3,λt m=>Q t (sub t m),λt m=>?_,λt m=>?_,F2.trans U}
   .rw[List.take_add_one,eq]at m;rcases List.mem_append.mp m with m|m
    .exact Q t (done t m)
    .have:t=a:=by simpa using m
     rw[this];exact r3
   .rcases ak t m with b|b
    .exact ai t b
    .exact .inr (by ext)
 rintro I v ⟨x2,d,x,r,rfl,h,sub,done,ai,F2⟩;rw[List.length_map,List.take_length]at done;have O:p∉d:=λz=>by
  rcases ai p z with b|b
  .exact ag b
  .ext
 have a7:d.length<=1000:=by have:=Xt (S:=List.range e.length) h.nd (λa l=>List.mem_range.mpr (h.lt a l));rw[List.length_range]at this;ext
 have aM:Xe (Zq e) d p=[]:=A2 λa l z=>O (h.cl a l p z);obtain⟨L,N⟩:=h.at_.ob;have aL:(dS d λa=>jv a).length<Gj:=by rw[Vr,GV];ext
 have aP:v f.l=Ga (.dK (dS d λa=>jv a)):=h.at_.le;have aQ:v f.m=Ga (.dK (dS d λa=>.ref (x a))):=h.at_.me;have aZ:v f.u=Ga (.dK (dS d λa=>.ref (r a))):=h.at_.us;have aE:v f.v=Ga (.dK (dS d λ_=>.non)):=h.at_.ab;have k1:=Rm.k (k:=ki p) (v:=jv p) aP aL;rw[jn O]at k1;have e1:(dS (d++[p]) λa=>if a=p then jv p else jv a)=dS (d++[p]) λa=>jv a:=W8 λa _=>by
  by_cases b:a=p
  .rw[Gp b,b]
  .rw[Gi b]
 rw[e1]at k1;exists _,Xb,_,Xb,n,C,L,_,_,Xb,N,o.cl,o.Vh,Yu _,_,Xb,f.l,_,Xb,k1;have nl:n≠f.l:=Yj N h.at_.le nofun;have o3:(zj v f.l (.dK (dS (d++[p]) λa=>jv a))) n=Ga (.ins C L (Xi f)):=by rw[Qg nl];exact N
 refine{_,Xb,by show 1<=Gj;decide,λm0 ab=>?_};have s3:=Qf ab (.lst [jv p]);have ap:v m0=Gh:=by
  by_cases b:m0=f.l
  .subst b;rw[Qb]at ab;cases ab
  .rw[Qg b]at ab;exact ab
 have aR:(zj v f.l (.dK (dS (d++[p]) λa=>jv a))) f.m=Ga (.dK (dS d λa=>.ref (x a))):=Qk aQ (Gn h.at_.ap.lm);have k2:=Rm.k (k:=ki p) (v:=.ref m0) (s3 _ _ aR) (by rw[Vr,GV];ext);rw[jn O]at k2;have e2:(dS (d++[p]) λa=>if a=p then V.ref m0 else .ref (x a))=dS (d++[p]) λa=>.ref (if a=p then m0 else x a):=W8 λa _=>by split<;>rfl
 rw[e2]at k2;exists _,Xb,n,C,L,_,_,Xb,s3 _ _ o3,o.cl,o.members,Vo _,_,Xb,f.m,_,Xb,k2;have aT:n≠f.m:=Yj N h.at_.me nofun;generalize an:zj (zj (zj v f.l (.dK (dS (d++[p]) λa=>jv a))) m0 (.lst [jv p])) f.m (.dK (dS (d++[p]) λa=>.ref (if a=p then m0 else x a)))=R;have cA:∀{j ad},v j=Ga ad->j≠f.l->j≠f.m->R j=Ga ad:=λB H A=>by rw[<-an,Qg A,Qg (Qd B ap),Qg H];exact B
 have cN:∀{j},R j=Gh->v j=Gh/\j≠m0:=λ{j}b=>by
  rw[<-an]at b;by_cases H:j=f.m
  .subst H;rw[Qb]at b;cases b
  .rw[Qg H]at b;by_cases A:j=m0
   .subst A;rw[Qb]at b;cases b
   .rw[Qg A]at b;by_cases m:j=f.l
    .subst m;rw[Qb]at b;cases b
    .rw[Qg m]at b;exact⟨b,A⟩
 have o4:=cA N nl aT;refine{Gz _,λu0 ax=>?_};obtain⟨aB,aX⟩:=cN ax;have Y:=Qf ax (.lst []);have aY:=cA aZ (Gn h.at_.ap.lu) (Gn h.at_.ap.mu);have k3:=Rm.k (k:=ki p) (v:=.ref u0) (Y _ _ aY) (by rw[Vr,GV];ext);rw[jn O]at k3;have e3:(dS (d++[p]) λa=>if a=p then V.ref u0 else .ref (r a))=dS (d++[p]) λa=>.ref (if a=p then u0 else r a):=W8 λa _=>by split<;>rfl
 rw[e3]at k3;exists _,Xb,n,C,L,_,_,Xb,Y _ _ o4,o.cl,o.Qe2,Il _,_,Xb,f.u,_,Xb,k3;have nu:n≠f.u:=Yj N h.at_.us nofun;have o5:(zj (zj R u0 (.lst [])) f.u (.dK (dS (d++[p]) λa=>.ref (if a=p then u0 else r a)))) n=Ga (.ins C L (Xi f)):=by rw[Qg nu];exact Y _ _ o4
 have a0:(zj (zj R u0 (.lst [])) f.u (.dK (dS (d++[p]) λa=>.ref (if a=p then u0 else r a)))) f.v=Ga (.dK (dS d λ_=>.non)):=by exact Qk (Y _ _ (cA aE (Gn h.at_.ap.lv) (Gn h.at_.ap.mv))) (Gn h.at_.ap.uv)
 have k4:=Rm.k (k:=ki p) (v:=.non) a0 (by rw[Vr,GV];ext);rw[jn O]at k4;have e4:(dS (d++[p]) λa=>if a=p then V.non else .non)=dS (d++[p]) λ_=>.non:=W8 λa _=>by split<;>rfl
 rw[e4]at k4;exists _,Xb,n,C,L,_,_,Xb,o5,o.cl,o.above,O8 _,_,Xb,f.v,_,Xb,k4;have J:=JH (m0:=m0) (u0:=u0) h.at_ O ap aB (Gn aX) aM;have FY:gY (na f x r) d (na f (λa=>if a=p then m0 else x a) (λa=>if a=p then u0 else r a)) (d++[p]) v (zj (zj (zj R u0 (.lst [])) f.u (.dK (dS (d++[p]) λa=>.ref (if a=p then u0 else r a)))) f.v (.dK (dS (d++[p]) λ_=>.non))):=by
  refine{λj ad B g=>?_,λj g=>?_,λj g=>?_}
  .rw[Qg (λz=>g (by rw[z];exact .inr (.inr (.inr (.inr (.inr (.inr (.inl Xb)))))))),Qg (λz=>g (by rw[z];exact .inr (.inr (.inl Xb))))];exact Y _ _ (cA B (λz=>g (by rw[z];exact .inl Xb)) (λz=>g (by rw[z];exact .inr (.inl Xb))))
  .rcases g with b|b|b|b|b|b|b|⟨a,U,b⟩
   .exact .inl (.inl b)
   .exact .inl (.inr (.inl b))
   .exact .inl (.inr (.inr (.inl b)))
   .exact .inl (.inr (.inr (.inr (.inl b))))
   .exact .inl (.inr (.inr (.inr (.inr (.inl b)))))
   .exact .inl (.inr (.inr (.inr (.inr (.inr (.inl b))))))
   .exact .inl (.inr (.inr (.inr (.inr (.inr (.inr (.inl b)))))))
   .have b:j=(if a=p then m0 else x a)\/j=(if a=p then u0 else r a):=b;by_cases m:a=p
    .rw[Gp m,Gp m]at b;rcases b with b|b
     .rw[b];exact .inr ap
     .rw[b];exact .inr aB
    .rw[Gi m,Gi m]at b;have Q:a∈d:=by
      rcases List.mem_append.mp U with z|z
      .exact z
      .exact absurd (by simpa using z) m
     exact .inl (.inr (.inr (.inr (.inr (.inr (.inr (.inr ⟨a,Q,b⟩)))))))
  .by_cases H:j=f.v
   .subst H;rw[Qb]at g;cases g
   .rw[Qg H]at g;by_cases A:j=f.u
    .subst A;rw[Qb]at g;cases g
    .rw[Qg A]at g;exact(cN (Y.free g)).1
 have J:Z9 P w C (zj (zj (zj R u0 (.lst [])) f.u (.dK (dS (d++[p]) λa=>.ref (if a=p then u0 else r a)))) f.v (.dK (dS (d++[p]) λ_=>.non))) n (na f (λa=>if a=p then m0 else x a) (λa=>if a=p then u0 else r a)) e d.length {fresh (Yi e) (Zq e) (d++[p])with Xr:=Xe (Zq e) d,tab:=iA (Yi e) (Zq e) d}:=by rw[<-an];exact J
 generalize zj (zj (zj R u0 (.lst [])) f.u (.dK (dS (d++[p]) λa=>.ref (if a=p then u0 else r a)))) f.v (.dK (dS (d++[p]) λ_=>.non))=H4 at J FY⊢;generalize (λa=>if a=p then m0 else x a)=ac at J FY;generalize (λa=>if a=p then u0 else r a)=Z at J FY;have F4:=F2.trans FY;subst_vars;obtain⟨aG,aU⟩:=J.ob;obtain⟨aC,aI,au⟩:=J.fo;have ay:p<aC.length:=by rw[Gq au];exact M
 obtain⟨y4,az,c4,am,aH,aK,aw⟩:=Qw au (List.getElem?_eq_getElem ay);and_intros;rw[jd M]at az;cases az;let aW:Nat->St->Hp->Prop:=λi I W=>iN λ(x2:Option V)=>jK (I=[Ga (.ref n),Ga (jv p),x2]) (Z9 P w C W n (na f ac Z) e d.length {fresh (Yi e) (Zq e) (d++[p])with Xr:=(λa=>Xe (Zq e) d a++List.replicate (((Zq e p).take i).count a) p),tab:=iA (Yi e) (Zq e) d}) (gY f S (na f ac Z) (d++[p]) aa W) (W am=Ga (.tup ((Zq e p).map jv)))
 refine⟨_,Xb,n,C,aG,_,_,Xb,aU,o.cl,o.Qdq,U8 _,_,Xb,f.f,aC,_,_,Xb,Xb,Za.of aI,Qj (List.getElem?_eq_getElem ay),c4,_,_,_,aH,Xb,Q9.of aK,Rh _ _ _,am,Xb,{_,Q9.of aw},nZ (K:=K) (a:=am) (xs:=(Zq e p).map jv)
  aW
  {_,Xb,?_,F4,aw} (by rintro i I W _ ⟨_,_,_,_,b⟩;exact Q9.of b) ?_ ?_⟩
 .have:(λa=>Xe (Zq e) d a++List.replicate (((Zq e p).take 0).count a) p)=Xe (Zq e) d:=by funext a;simp
  rw[this];exact J
 .rintro i y I W D ⟨x5,rfl,E,F5,h5⟩;rw[List.getElem?_map]at D;cases eq:(Zq e p)[i]? with
  |none=>rw[eq]at D;cases D
  |some a=>
   rw[eq]at D;cases D;have Q:a∈d++[p]:=List.mem_append_left _ (done a (List.mem_of_getElem? eq));have U:=E.ul a Q;obtain⟨ae,ah⟩:=E.ob;have a2:=sq T.few d a;have a1:((Zq e p).take i).count a<=100:=Tw List.count_le_length (by rw[List.length_take];ext);exists _,Xb,n,C,ae,_,_,Xb,ah,o.cl,o.Qe2,Il _,_,Xb,f.u,_,Xb,Xu E.us Q,.inl {Xb,_,Za.of U},_,Xb,_,_,_,Xb,Xb,U,?_
   .rw[List.length_map,GV];show(Xe (Zq e) d a++List.replicate (((Zq e p).take i).count a) p).length<_;rw[List.length_append,List.length_replicate];ext
   .have Y6:=E.tK Q (Xe (Zq e) d a++List.replicate (((Zq e p).take i).count a) p++[p]);have eH:(HO.lst ((Xe (Zq e) d a++List.replicate (((Zq e p).take i).count a) p++[p]).map jv))=.lst ((Xe (Zq e) d a++List.replicate (((Zq e p).take i).count a) p).map jv++[jv p]):=by rw[List.map_append];rfl
    rw[eH]at Y6;have oR:gF (na f ac Z) (d++[p]) (Z a):=.inr (.inr (.inr (.inr (.inr (.inr (.inr {a,Q,.inr Xb}))))));have eU:(λm=>if m=a then Xe (Zq e) d a++List.replicate (((Zq e p).take i).count a) p++[p]else Xe (Zq e) d m++List.replicate (((Zq e p).take i).count m) p)=λm=>Xe (Zq e) d m++List.replicate (((Zq e p).take (i+1)).count m) p:=by
     funext m
     rw[Kb eq];by_cases b:m=a
     .rw[Gp b,Gp b.symm,b,List.replicate_succ',List.append_assoc]
     .rw[Gi b,Gi (Gn b),L4]
    exists _,Xb,?_,F5.trans {λj ad B g=>?_,λj g=>.inl g,λj g=>?_}
    .rw[<-eU];exact Y6
    .exact Qk B (λz=>g (by rw[z];exact oR))
    .exact Z4 g
    .exact Qk h5 (Yj h5 U nofun)
 rintro I W ⟨x5,rfl,E,F5,h5⟩;rw[List.length_map,List.take_length]at E;have eU:(λa=>Xe (Zq e) d a++List.replicate ((Zq e p).count a) p)=Xe (Zq e) (d++[p]):=by
  funext a
  rw[Al]
 rw[eU]at E;obtain⟨ae,ah⟩:=E.ob;have aA:∀a∈Zq e p,a∈d++[p]:=λa l=>List.mem_append_left _ (done a l);refine{_,Xb,_,Xb,n,C,ae,_,_,Xb,ah,o.cl,o.table,qY _,_,Xb,n,ae,_,Xb,ah,pX _,_,Xb,n,na f ac Z,e,_,_,p,Xb,E,M,aA,by ext,λc6 H6 g6 a3 aJ=>?_};have Y6:=E.same g6;obtain⟨ao,D6,a4,aF⟩:=Y6.ta;have kc:=aJ.key (T.str p);exists f.t,c6,_,ao,Xb,Xb,D6,kc,(by rw[GV];ext);have aS:∀a∈d,Zp (Yi e) (Zq e) id a≠Zp (Yi e) (Zq e) id p:=λa l z=>by simp only[Zp,List.map_id,Dg]at z;exact O (T.inj a p (h.lt a l) M z.1 z.2▸l)
 have Y7:=Y6.tE (kvs':=Ww ao (Xg (Zp (Yi e) (Zq e) id p)) c6 (jv p)) D6 (by have:=O7 ao (Xg (Zp (Yi e) (Zq e) id p)) c6 (jv p);ext) (D6.keys.put kc) (t':=iA (Yi e) (Zq e) (d++[p])) (λm=>by
  rw[U3,As _ _ aS];by_cases b:m=Zp (Yi e) (Zq e) id p
  .rw[Gp (by rw[b]),Gp b];rfl
  .rw[Gi (λz=>b (U6 z)),Gi b];exact aF m)
 refine q (d++[p]) ac Z _ {?_,?_,λa l=>?_,λa l=>?_} (λa l=>List.mem_append_left _ (sub a l)) (by simp) (λa l=>?_) (F5.trans {λj ad B g=>?_,λj g=>.inl ?_,λj g=>?_})
 .rw[List.length_append,List.length_singleton];exact Y7
 .rw[List.nodup_append];refine{h.nd,by simp,λa l u G=>?_};have:u=p:=by simpa using G
  rw[this];exactλz=>O (z▸l)
 .rcases List.mem_append.mp l with b|b
  .exactλu G=>List.mem_append_left _ (h.cl a b u G)
  .have:a=p:=by simpa using b
   subst this;exact aA
 .rcases List.mem_append.mp l with b|b
  .exact h.lt a b
  .have:a=p:=by simpa using b
   subst this;exact M
 .rcases List.mem_append.mp l with b|b
  .rcases ai a b with b|b
   .exact .inl b
   .exact .inr (by ext)
  .have:a=p:=by simpa using b
   subst this;exact .inr (Gm _)
 .exact Qk (g6 _ _ B) (λz=>g (by rw[z];exact .inr (.inr (.inr (.inl Xb)))))
 .exact g
 .exact g6.free (Z4 g)
theorem CH{f:Gc}{e:Tq}:Qy P w K mg base Z5 1 f e ["self","place"] (ji P w C 0):=by
 have d:∀a H Q E,¬ji P w C 0 a H Q E:=λa H Q E h=>by obtain⟨n,A,g,j,S,p,_,_,_,_,i,_⟩:=h;lia
 exact{λa H Q E h=>absurd h (d a H Q E),λA b s H c k a Q E _ _ _ _ h=>absurd h (d a H Q E)}
theorem vC{f g C:Gc}{b a:Tq}(F:We K "take_in" "Net.take_in" Wx f b)(T:Ut K mg C)(i:Ye K C "take_in" f)(e:zk K b ["self","place"] [])
  (h:Ye K C "key_of" g)(c:Qy P w K mg base Z5 1 g a ["self","place"] (lO P w C))(d:zk K a ["self","place"] []):∀k:Nat,Qy P w K mg base Z5 (k+1) f b ["self","place"] (ji P w C k)
 |0=>CH
 |k+1=>AX F T i e (vC F T i e h c d k) h c d
end
end K03
namespace Nt
theorem Om{l:List Nat}:∀{S:List Nat},S.Nodup->(S.map λq=>l.count q).sum<=l.length
 |[],_=>by simp
 |q::S,b=>by
  rw[List.nodup_cons]at b;have d:=Om (l:=l.filter (λz=>z !=q)) b.2;have e:(S.map λr=>(l.filter (λz=>z !=q)).count r)=S.map λr=>l.count r:=List.map_congr_left λr c=>by rw[List.count_filter];simp only[bne_iff_ne,ne_eq];intro z;exact b.1 (z▸c)
  rw[e]at d;have g:(l.filter (λz=>z !=q)).length+l.count q=l.length:=by
   have:=List.length_eq_countP_add_countP (λz=>z !=q) (l:=l);rw[<-List.countP_eq_length_filter];have f:l.countP (λa=>¬(a !=q)=Gf)=l.count q:=by unfold List.count;refine List.countP_congr λx _=>?_;simp
   lia
  simp only[List.map_cons,List.sum_cons];lia
theorem vw{f g:Nat->Nat}:∀S:List Nat,(S.map λq=>f q+g q).sum=(S.map f).sum+(S.map g).sum
 |[]=>rfl
 |q::S=>by simp only[List.map_cons,List.sum_cons,vw S];lia
theorem Cv{W ρ:Type}[DecidableEq W]{f:Nat->W}{b:Nat->List Nat}{S:List Nat}{M:Nat}(nd:S.Nodup)(h:∀p,(b p).length<=M):Ud (fresh (ρ:=ρ) f b S)<=S.length*M:=by
 have c:∀T:List Nat,(S.map λq=>(Xe b T q).length).sum<=T.length*M:=by
  intro T;induction T with
  |nil=>
   have:(S.map λq=>(Xe b [] q).length)=S.map λ_=>0:=List.map_congr_left λq _=>by simp[Xe]
   rw[this];clear this nd;have z:∀S:List Nat,(S.map λ_=>0).sum=0:=by
    intro S;induction S with
    |nil=>rfl
    |cons a S d=>simpa using d
   rw[z];lia
  |cons p T d=>
   have e:(S.map λq=>(Xe b (p::T) q).length)=S.map λq=>(b p).count q+(Xe b T q).length:=List.map_congr_left λq _=>by simp only[Xe,List.flatMap_cons,List.length_append,List.length_replicate]
   rw[e,vw];have g:=Om (l:=b p) nd;have i:=h p;rw[List.length_cons,Eg];lia
 unfold Ud;refine Tw (E6 ?_) (c S);congr 1;refine List.map_congr_left λq _=>?_;rw[Gp (show(fresh (ρ:=ρ) f b S).lead q=q from rfl)];rfl
end Nt
namespace K03
open PySem L2 Sb Nt
variable{C:Gc}
abbrev En:=Tb×Nat×Nat
abbrev sme(p q:Nat):En:=(("same":Tb),p,q)
abbrev unl(p q:Nat):En:=(("unlike":Tb),p,q)
inductive gW(H:Hp)(v:V)(e:En):Prop
 |mk (c:_) (h0:v=.ref c) (h1:H c=Ga (.tup [.str e.1,jv e.2.1,jv e.2.2])):gW H v e
theorem gW.Qs{H a:Hp}{v:V}{e:En}(t:Q4 H a)(h:gW H v e):gW a v e:=by obtain⟨c,b,d⟩:=h;exact{c,b,t _ _ d}
structure gP(P:Gg)(w:Gu)(C:Gc)(H0 H:Hp)(n:Gc)(A:Na)(fs:List Fm)(tb:Nat)(x:Nn):Prop where
 at_:Z9 P w C H n A fs tb x
 inv:Wk (Yi fs) (Zq fs) x []
 fok:hZ fs x.S
 new:∀b,gF A x.S b->H0 b=Gh
 nn:H0 n=Gh
 sam:Q6 H0 H
 len:x.S.length<=60
 tt:Ud x<=6000
 cl:cls x+x.links.length<=x.S.length
 tbb:tb<=x.S.length+x.links.length*Ud x
structure hY(fs:List Fm)(x:Nn)(ens:List En)(i:Nat):Prop where
 ins:∀e∈ens,e.2.1∈x.S/\e.2.2∈x.S
 eq:∀(j p q:Nat),j<i->ens[j]?=Ga (sme p q)->x.lead p=x.lead q
 snd:∀E,Ec (Yi fs) (Zq fs) x.S E->(∀(j p q:Nat),j<i->ens[j]?=Ga (sme p q)->E p q)->∀p∈x.S,∀q∈x.S,x.lead p=x.lead q->E p q
 rsn:∀y∈x.links,y.2.2=Gh\/∃(j p q:Nat),y=(p,q,Ga (.told j))/\ens[j]?=Ga (sme p q)
inductive qK(P:Gg)(w:Gu)(C:Gc)(vs:List V)(H:Hp)(Q:VK):Prop
 |mk (f:Gc) (t:Gc) (ws:List V) (es:List V) (fs:List Fm) (ens:List En) (rk:Nat->Nat) (h0:vs=[.ref f,.ref t]) (h1:H f=Ga (.lst ws)) (h2:Paired (Rk H) ws fs) (h3:H t=Ga (.lst es)) (h4:Paired (gW H) es ens) (h5:mQ fs rk) (h6:fs.length<=60) (h7:(∀p,rk p<59)) (h8:(∀e∈ens,e.2.1<fs.length/\e.2.2<fs.length)) (h9:ens.length<=1000) (h10:∀(n:Gc)(A:Na)(tb:Nat)(x:Nn)(H':Hp),gP P w C H H' n A fs tb x->A.f=f->hY fs x ens ens.length->Q (.ref n) H'):qK P w C vs H Q
def qr(P:Gg)(w:Gu)(C:Gc):Sp:=λa H Q _=>qK P w C a H Q
theorem gP.merged{P:Gg}{w:Gu}{j H g:Hp}{n:Gc}{A:Na}{f:List Fm}{i:Nat}{x d:Nn}{a b:Nat}{r:Option Ji}(N:gP P w C j H n A f i x)(Y:Z9 P w C g n A f (i+(d.links.length - x.links.length)*Ud x) d)(M:gQ f x d a b r [])(F:R3 A x.S H g):gP P w C j g n A f (i+(d.links.length - x.links.length)*Ud x) d:=by
 have e:=M.S;exists Y,M.inv,by rw[e];exact N.fok,by rw[e];exact N.new,N.nn,λc o h=>F.keep c o (N.sam c o h) (λz=>by rw[N.new c z]at h;cases h),by rw[e];exact N.len,by rw[M.Ud];exact N.tt,(by rw[e];have:=N.cl;have:=M.less;ext);rw[e,M.Ud];have k:=N.tbb;have l:=M.more;have:d.links.length*Ud x=x.links.length*Ud x+(d.links.length - x.links.length)*Ud x:=by rw[<-Eg];congr 1;ext
 ext
theorem hY.step{f:List Fm}{x k:Nn}{d:List En}{i a b:Nat}(U:hY f x d i)(e:d[i]?=Ga (sme a b))(M:gQ f x k a b (Ga (.told i)) []):hY f k d (i+1):=by
 have g:=M.S;obtain⟨r,t⟩:=U.ins _ (List.mem_of_getElem? e);refine{by rw[g];exact U.ins,λj p q n c=>?_,λE X h=>?_,λy o=>?_}
 .rcases Tp j i with h|h
  .obtain⟨l,m⟩:=U.ins _ (List.mem_of_getElem? c);exact M.mono p l q m (U.eq j p q h c)
  .have:j=i:=by lia
   subst this;rw[e]at c;cases c;exact M.eq.nil
 .rw[g]at X;have l:=U.snd E X λj p q n=>h j p q (by lia);have:=M.snd E X {l,λu v s m=>by simp at m;obtain⟨rfl,rfl,rfl⟩:=m;exact h i u v (by lia) e}
  exact this.1
 .rcases M.rsn y o with h|h|h
  .exact U.rsn y h
  .exact .inr ⟨i,a,b,h,e⟩
  .exact .inl h
theorem hY.skip{f:List Fm}{x:Nn}{c:List En}{i:Nat}{k:Tb}{a b:Nat}(U:hY f x c i)(e:c[i]?=Ga (k,a,b))(l:k≠"same"):hY f x c (i+1):=by
 refine{U.ins,λj p q g d=>?_,λE X h=>U.snd E X λj p q g=>h j p q (by ext),U.rsn};rcases Tp j i with h|h
 .exact U.eq j p q h d
 .have:j=i:=by ext
  subst this;rw[e]at d;cases d;exact absurd rfl l
def qe(x:Nn)(a:List En):Option Nat->Prop
 |none=>∀(j p q:Nat),a[j]?=Ga (unl p q)->x.lead p≠x.lead q
 |some i=>(∃p q,a[i]?=Ga (unl p q)/\x.lead p=x.lead q)/\∀(j p q:Nat),j<i->a[j]?=Ga (unl p q)->x.lead p≠x.lead q
inductive tL(P:Gg)(w:Gu)(C:Gc)(vs:List V)(H:Hp)(Q:VK):Prop
 |mk (n:Gc) (t:Gc) (A:Na) (fs:List Fm) (tb:Nat) (x:Nn) (es:List V) (ens:List En) (h0:vs=[.ref n,.ref t]) (h1:Z9 P w C H n A fs tb x) (h2:H t=Ga (.lst es)) (h3:Paired (gW H) es ens) (h4:(∀e∈ens,e.2.1∈x.S/\e.2.2∈x.S)) (h5:∀(o:Option Nat)(H':Hp),Q6 H H'->qe x ens o->Q (ov o) H'):tL P w C vs H Q
def ny(P:Gg)(w:Gu)(C:Gc):Sp:=λa H Q _=>tL P w C a H Q
section
variable{P:Gg}{w:Gu}{K:Gd}{mg:Tb->Option Value}{base:Heap}
theorem uF:Q3 ["net","entries","number","entry"] ["net","entries"] (Ql pz):=by eq_refl
theorem Zb{a b:Tb}:decide (V.str a=V.str b)=(a==b):=by rw[EC];simp
theorem OB{M N:Gc}{O Q:Tq}(F:We K "least_clash" "least_clash" pz M O)(Z:Ut K mg C)(W:J2 mg)(mE:Ye K C "equal" N)(Y:Qy P w K mg base Z5 1 N Q ["self","one","other"] (lX P w C))(bE:zk K Q ["self","one","other"] []):
  Qy P w K mg base Z5 2 M O ["net","entries"] (ny P w C):=by
 refine F.ok uF (λm I h e b=>?_) (λo z r s I m h e hr b=>?_)
 .obtain⟨n,t,z,R,V,x,D,L,rfl,_⟩:=b;rfl
 obtain⟨n,t,z,R,V,x,D,L,rfl,X,T,S,ab,q⟩:=b;have ac:Yd 1 _:=hr.mono (by lia);have U:=uF.nd;exists _,Qc (Z6 Gy rfl (yK rfl W.enumerate (Qa (pv 1) Qe)) (Vx rfl (Zn (Zz 2 U) (Zn (Zz 3 U) Wm)))
   (Qh (Q8 (PW.pt (Ir (Qn Xn (Qm Qo (pv 3) Qi) Zk (Qr _)) (Jl (Yb (Zh (pv 0) Z.cl mE Y ac bE .nil Q7 (Qa (Qm Qo (pv 3) Qi) (Qa (Qm Qo (pv 3) Qi) Qe)))))))
    (Qh (Qt (pv 2))) Qv)))
  (Qh (Qt Uo))
 let ad:Nat->St->Hp->Prop:=λi v f=>kP (∃G H,v=[Ga (.ref n),Ga (.ref t),G,H]) (Q6 I f) (∀(j p d:Nat),j<i->L[j]?=Ga (unl p d)->x.lead p≠x.lead d)
 refine⟨_,Xb,t,D,Xb,Za.of T,yY (K:=K) (a:=t) (xs:=D) ad
  {{_,_,Xb},λ_ _ b=>b,λ_ _ _ b=>by lia} (by rintro i v f _ ⟨_,g,_⟩;exact Za.of (g _ _ T)) ?_ ?_⟩
 .rintro i y c v f hi ⟨⟨G,H,rfl⟩,g,l⟩ hc;subst_vars;obtain⟨⟨k,a,A⟩,o,m,rfl,aa⟩:=Qw S hi;have s3:=Qf hc (.tup [.int (i:Int),.ref m]);have h:=g.trans s3;obtain⟨aS,bS⟩:=ab _ (List.mem_of_getElem? o);and_intros;have B:=h _ _ aa;exists c,_,Xb,Q9.of Qb,Xb,_,_,Xb,_,_,Xb,Xb;exists _,Xb,m,_,_,_,Xb,Xb,Q9.of B,Rz _ _,Xb,_,Xb;rw[Zb];by_cases E:k="unlike"
  .subst E;rw[Ev];refine Yp ?_;have J:=X.same h;obtain⟨dx,o1⟩:=J.ob;exists _,Xb,n,dx,_,Xb,o1,qu _,_,Xb,m,_,_,_,Xb,Xb,Q9.of B,Rh _ _ _,_,Xb,m,_,_,_,Xb,Xb,Q9.of B,iJ _ _ _ _,n,z,R,V,x,a,A,Xb,J,aS,bS,_,Xb;by_cases r:x.lead a=x.lead A
   .rw[Gw r];refine Yp {_,Xb,q (Ga i) _ h {⟨a,A,o,r⟩,l}}
   .rw[Gr r];refine Q5 {{_,_,Xb},h,λj p d u e=>?_};rcases Tp j i with b|b
    .exact l j p d b e
    .have:j=i:=by lia
     subst this;rw[o]at e;cases e;exact r
  .have:(k==("unlike":Tb))=Gs:=by simpa using E
   rw[this];refine Q5 ?_;refine Q5 {{_,_,Xb},h,λj p d u e=>?_};rcases Tp j i with b|b
   .exact l j p d b e
   .have:j=i:=by lia
    subst this;rw[o]at e;cases e;exact absurd rfl E
 .rintro v f ⟨⟨G,H,rfl⟩,g,l⟩;refine q Gh f g λj p d u=>l j p d ?_ u;rw[Gq S];exact(List.getElem?_eq_some_iff.mp u).1
theorem sJ:Q3 ["forms","told","net","kind","one","other","number","entry"] ["forms","told"] (Ql ju):=by eq_refl
theorem Hn{G fI fT fM:Gc}{fd av ax aw:Tq}(F:We K "net_of" "net_of" ju G fd)(ab:Ut K mg C)(aA:J2 mg)(aB:Mk K C fI)(GI:Qy P w K mg base Z5 1 fI av ["self","forms"] (yl P w C))(bI:zk K av ["self","forms"] [])
  (mT:Ye K C "take_in" fT)(GT:Qy P w K mg base Z5 60 fT ax ["self","place"] (ji P w C 59))(bT:zk K ax ["self","place"] [])(mM:Ye K C "merge" fM)(GM:Qy P w K mg base Z5 4 fM aw ["self","one","other","reason"] (oz P w C))(bM:zk K aw ["self","one","other","reason"] []):
  Qy P w K mg base Z5 61 G fd ["forms","told"] (qr P w C):=by
 refine F.ok sJ (λT h R au m=>?_) (λaq g ar s h T R au v m=>?_)
 .obtain⟨G,t,ws,Y,f,W,rk,rfl,_⟩:=m;rfl
 obtain⟨G,t,ws,Y,f,W,rk,rfl,hf,aG,ht,ah,Q,aP,ay,aD,aO,q⟩:=m;have aE:Yd 2 _:=v.mono (by lia);have aF:Yd 4 _:=v.mono (by lia);have O:=sJ.nd;show∃t,Ia ?my _ t/\_;let w4:Xk ?my ju 3:={_,Qh (Qt (pv 2))}
 let w3:Xk ?my ju 2:=⟨_,Qc (Z6 Gy rfl (yK rfl aA.enumerate (Qa (pv 1) Qe)) (Vx rfl (Zn (Zz 6 O) (Zn (Zz 7 O) Wm)))
   (Qh (Q8 (Qn Xn (Qm Qo (pv 7) Qi) Zk (Qr _))
    (Qh (Zj (Zh (pv 2) ab.cl mM GM aF bM .nil Q7 (Qa (Qm Qo (pv 7) Qi) (Qa (Qm Qo (pv 7) Qi) (Qa (Zg (Qa Zk (Qa (pv 6) Qe))) Qe)))))) Qv))) w4.2⟩
 let w2:Xk ?my ju 1:=⟨_,Qc (Z6 Gy rfl (Yg (pv 1)) (Vx rfl (Zn (Zz 3 O) (Zn (Zz 4 O) (Zn (Zz 5 O) Wm))))
   (Qc (Zj (Zh (pv 2) ab.cl mT GT v bT .nil Q7 (Qa (pv 4) Qe)))
   (Qh (Zj (Zh (pv 2) ab.cl mT GT v bT .nil Q7 (Qa (pv 5) Qe)))))) w3.2⟩
 exists _,Qc (Qz 2 O (pH aB GI aE rfl ab.mgC bI .nil Q7 (Qa (pv 0) Qe))) w2.2;refine{_,Xb,λn dx hn aC aQ=>?_};have s0:Q6 h (zj (zj h dx (.own n)) n (.ins C dx [])):=λc A d=>by rw[Qg (Qd d hn),Qg (Qd d aC)];exact d
 refine{n,dx,G,ws,f,Xb,Qb,s0 _ _ hf,L2.Paired.Z8 aG λ_ _ m=>m.Qs (Q4.of s0),λg H1 fA X1 k1 w1=>{Xb,?_}};have s1:Q6 h H1:=λc A d=>k1 c A (s0 c A d) (Qd d hn);have n1:∀e,gF g [] e->h e=Gh:=λe hb=>s0.free (w1 e hb);have az:Y.length=W.length:=Gq ah;let aH:Nat->St->Hp->Prop:=λi B I=>iy λ(x3 x4 x5:Option V)(S:List Nat)(o r:Nat->Gc)=>iZ (B=[Ga (.ref G),Ga (.ref t),Ga (.ref n),x3,x4,x5,Gh,Gh]) (Frs P w C I n (na g o r) f S) (Q6 h I) (∀e,gF (na g o r) S e->h e=Gh) (∀d∈W.take i,d.2.1∈S/\d.2.2∈S)
 refine⟨_,Xb,t,Xb,{_,Za.of (s1 _ _ ht)},Y9 (K:=K) (a:=t) (xs:=Y) aH
  {_,_,_,[],g.ml,g.ul,Xb,{X1,List.nodup_nil,(λp N=>nomatch N),(λp N=>nomatch N)},s1,n1,by simp} (by rintro i B I _ ⟨_,_,_,_,_,_,_,_,R,_⟩;exact Za.of (R _ _ ht)) ?_ ?_⟩
 .rintro i y B I hi ⟨x3,x4,x5,S,o,r,rfl,l,L,n2,U⟩;subst_vars;obtain⟨⟨k,a,e⟩,M,D,rfl,ag⟩:=Qw ah hi;obtain⟨al,bl⟩:=aD _ (List.mem_of_getElem? M);obtain⟨am,o2⟩:=l.at_.ob;and_intros;exists D,_,Xb,Q9.of (L _ _ ag),Xb,_,_,Xb,_,_,Xb,_,_,Xb,Xb;refine{_,Xb,n,am,_,Xb,o2,qm _,_,Xb,n,na g o r,f,rk,S,a,Xb,l,Q,al,ay a,λS3 ad af u X3 ae a3 _ T=>?_};have g3:Q6 h u:=λc A d=>T.keep c A (L c A d) (λz=>by rw[n2 c z]at d;cases d);have n3:∀e,gF (na g ad af) S3 e->h e=Gh:=λe hb=>(T.own e hb).elim (n2 e) (λz=>L.free z);obtain⟨an,o3⟩:=X3.at_.ob;refine{_,Xb,n,an,_,Xb,o3,qm _,_,Xb,n,na g ad af,f,rk,S3,e,Xb,X3,Q,bl,ay e,λS4 ao ap H4 X4 R b4 _ F4=>?_};have Z:Q6 h H4:=λc A d=>F4.keep c A (g3 c A d) (λz=>by rw[n3 c z]at d;cases d);refine{_,_,_,S4,ao,ap,Xb,X4,Z,λe hb=>(F4.own e hb).elim (n3 e) (λz=>g3.free z),λd ac=>?_};rw[List.take_add_one,M]at ac;rcases List.mem_append.mp ac with m|m
  .exact{R _ (ae _ (U d m).1),R _ (ae _ (U d m).2)}
  .have:d=(k,a,e):=by simpa using m
   subst this;exact{R _ a3,b4}
 rintro B I ⟨x3,x4,x5,S,o,r,rfl,l,L,n2,U⟩;rw[az,List.take_length]at U;have aN:S.length<=f.length:=Xt (S:=List.range f.length) l.nd (λH v=>List.mem_range.mpr (l.lt H v))|>λm=>by rw[List.length_range]at m;exact m
 have ni:Wk (ρ:=Ji) (Yi f) (Zq f) (fresh (Yi f) (Zq f) S) []:=AQ l.nd l.cl λp N H v e1 e2=>Q.inj p H (l.lt p N) (l.lt H v) e1 e2;have N0:gP P w C h I n (na g o r) f S.length (fresh (Yi f) (Zq f) S):={l.at_,ni,{Q.str,l.lt,l.cl,λp=>by have:=Q.few p;lia},n2,hn,L,by show S.length<=60;lia,Tw (Cv l.nd Q.few) (by lia),xj _,by show S.length<=S.length+0*_;lia};have U0:hY f (fresh (Yi f) (Zq f) S) W 0:={U,λj p H hj=>by lia,λau X _ p N H v d=>by have d:p=H:=d;subst d;exact X.refl p,λy R=>nomatch R}
 let aI:Nat->St->Hp->Prop:=λi B u=>hA λ(x6 x7:Option V)(E:Nat)(x:Nn)=>kP (B=[Ga (.ref G),Ga (.ref t),Ga (.ref n),x3,x4,x5,x6,x7]) (gP P w C h u n (na g o r) f E x) (hY f x W i)
 refine⟨_,Xb,t,Y,Xb,Za.of (L _ _ ht),yY (K:=K) (a:=t) (xs:=Y) aI
  {_,_,_,_,Xb,N0,U0} (by rintro i B u _ ⟨_,_,_,_,_,b,_⟩;exact Za.of (b.sam _ _ ht)) ?_ ?_⟩
 .rintro i y c B u hi ⟨x6,x7,E,x,rfl,b,J⟩ hc;subst_vars;obtain⟨⟨k,a,e⟩,M,D,rfl,ag⟩:=Qw ah hi;have s4:=Qf hc (.tup [.int (i:Int),.ref D]);have Z:=b.sam.trans s4;have aa:=Z _ _ ag;obtain⟨aS,bS⟩:=J.ins _ (List.mem_of_getElem? M);and_intros;have T:gP P w C h (zj u c (.tup [.int (i:Int),.ref D])) n (na g o r) f E x:={b.at_.same s4,b.inv,b.fok,b.new,b.nn,Z,b.len,b.tt,b.cl,b.tbb};exists c,_,Xb,Q9.of Qb,Xb,_,_,Xb,_,_,Xb,Xb;exists _,Xb,D,_,_,_,Xb,Xb,Q9.of aa,Rz _ _,Xb,_,Xb;rw[Zb];by_cases hk:k="same"
  .subst hk;rw[Ev];refine Yp ?_;obtain⟨ai,o4⟩:=T.at_.ob;refine{_,Xb,n,ai,_,Xb,o4,vL _,_,Xb,D,_,_,_,Xb,Xb,Q9.of aa,Rh _ _ _,_,Xb,D,_,_,_,Xb,Xb,Q9.of aa,iJ _ _ _ _,_,Xb,by show 2<=Gj;decide,λR ak=>?_};have s5:=Qf ak (.tup [.str "told",.int (i:Int)]);have g5:=Z.trans s5;have N5:gP P w C h (zj (zj u c (.tup [.int (i:Int),.ref D])) R (.tup [.str "told",.int (i:Int)])) n (na g o r) f E x:={T.at_.same s5,b.inv,b.fok,b.new,b.nn,g5,b.len,b.tt,b.cl,b.tbb};have aJ:=b.len;have aj:=b.tt;have aK:=b.cl;have aL:=b.tbb;have aM:x.links.length*Ud x+cls x*Ud x<=60*6000:=by rw[<-Eg];exact FI (by lia) aj
   refine{n,na g o r,f,E,x,a,e,.ref R,Ga (.told i),Xb,N5.at_,b.fok,⟨R,Xb,Qb⟩,by simp,aS,bS,b.inv,by lia,by lia,by lia,by lia,λx' H6 Y6 M6 F6=>?_};exact{_,_,_,x',Xb,N5.merged Y6 M6 F6,J.step M M6}
  .have:(k==("same":Tb))=Gs:=by simpa using hk
   rw[this];exact Q5 {_,_,E,x,Xb,T,J.skip M hk}
 .rintro B u ⟨x6,x7,E,x,rfl,b,J⟩;rw[az]at J;exact{_,Xb,q n (na g o r) E x u b fA J}
end
end K03
namespace L2
open PySem PySem.Spec PyProof.Rows
inductive tZ(x:V)(vs:List V)(H:Hp)(Q:VK):Prop
 |mk (d:_) (k:_) (dv:_) (zw:_) (h0:x=.ref d) (h1:vs=[kV k,dv]) (h2:H d=Ga (.dK zw)) (h3:zw.length<Gj) (h4:(∀v,Xh zw k=Ga v->Q v H)) (h5:(Xh zw k=Gh->Q dv (zj H d (.dK (Vm zw k dv))))):tZ x vs H Q
def Ao:V->List V->Hp->VK->Prop:=λx a H Q=>tZ x a H Q
theorem K6{X:Cx}:hH X "dict.setdefault" Ao:=by
 intro l s N H x M v L Q I D C h;obtain⟨d,k,g,a,rfl,rfl,e,J,u,A⟩:=h;cases(show v=Value.ref d from D);obtain⟨K,E,rfl,B,m⟩:=vals2 C;obtain⟨z,j,G,b,i⟩:=lB I.Z3 e;refine SU F.slot_dict_setdefault i.typeIs F.entry_dict_setdefault (F.args_dict_setdefault_3 _ _ _) (kt_meets_setdefault (Yt X.prog X.w) d (js B) j E) {G,i,by rw[<-b.length];exact z,λw hw=>?_,λr n f t=>?_}
 .have c:=b.val k;rw[hw]at c;cases q:Xh a k with
  |none=>rw[q]at c;exact(show False from c).elim
  |some y=>rw[q]at c;exact{y,H,I.tok _,c,u y q}
 .have c:=b.val k;rw[r]at c;cases q:Xh a k with
  |some y=>rw[q]at c;exact(show False from c).elim
  |none=>
   have o:∃q,n.get? d=Ga q:=let⟨q,_,_,hq,_⟩:=f;⟨q,hq⟩;have p:(Vm a k g).length<=Gj:=by have:=Wp a k g;ext
   exact{g,_,I9 I (by rw[e];exact T9) t o (rK p j (b.put k m) f),m,A q}
end L2
namespace PySem
variable{Q:Value->Gk->Prop}{it:Gc}{xs:Array Value}{i:Nat}{x:Value}
structure lV(prog:Gg)(w:Gu)(A:TQ)(I S:Gc)(fp:List Gc)(n:Nat)(St:Nat->Heap->List Value->Prop)(Out:Heap->List Value->Prop):Prop where
 item:∀(i:Nat)(s:Gk)(acc:List Value)(Q:Option Value->Gk->Prop)(E:Value->Gk->Prop),i<n->St i s.heap acc->(∀v h' tk,St (i+1) h' (acc++[v])->(∀b o,b∉fp->s.heap.get? b=Ga o->h'.get? b=Ga o)->Q (Ga v) {s with heap:=h',toks:=tk})->wpAny (Tc prog w) A (pyNext (.ref I)) Q E s
 done:∀(s:Gk)(acc:List Value)(Q:Option Value->Gk->Prop)(E:Value->Gk->Prop),St n s.heap acc->(∀h' tk,Out h' acc->(∀b o,b∉fp->s.heap.get? b=Ga o->h'.get? b=Ga o)->Q Gh {s with heap:=h',toks:=tk})->wpAny (Tc prog w) A (pyNext (.ref I)) Q E s
 keep:∀(i:Nat)(h h':Heap)(acc:List Value),St i h acc->(∀b o,b≠S->h.get? b=Ga o->h'.get? b=Ga o)->S<h'.objs.size->St i h' acc
section
variable{prog:Gg}{w:Gu}{A:TQ}{E:Value->Gk->Prop}{s:Gk}{R:MU->Gk->Prop}{I S:Gc}{fp:List Gc}{n:Nat}{St:Nat->Heap->List Value->Prop}{Out:Heap->List Value->Prop}
theorem zZ(G:lV prog w A.in1 I S fp n St Out)(t:S∉fp)(g:n<=Gj)(res:Value){h₁:Heap}
  (B:∀f p a c,(∀b o,b≠S->b∉fp->h₁.get? b=Ga o->f.get? b=Ga o)->f.get? S=Ga {cls:=.type "list",dict:=Gh,data:=.seq a c,slots:=#[]}->a.size=n->Out f a.toList->R (.ok (.ret res)) {s with heap:=f,toks:=p}):
  ∀(k i:Nat)(h:Heap)(p c:Nat)(a:Array Value),n - i=k->i<=n->St i h a.toList->(∀b o,b≠S->b∉fp->h₁.get? b=Ga o->h.get? b=Ga o)->a.size=i->
   h.get? S=Ga {cls:=.type "list",dict:=Gh,data:=.seq a c,slots:=#[]}->codeAny (Tc prog w) A (.builtin "list.extend.loop" {[.ref S,.ref I,res],[]}) R {s with heap:=h,toks:=p}:=by
 intro k;induction k with
 |zero=>
  intro i h p c a E D m d j y;have g:i=n:=by lia
  subst g;refine Fv Sm ?_;rw[Lo Dz _];show wpAny _ A.in1 (pyNext (.ref I)>>=_) _ _ _;refine Gb (G.done {s with heap:=h,toks:=p} a.toList _ _ m λf q u l=>?_);exact Ge (B f q a c (λb o x r e=>l b o r (d b o x r e)) (l S _ t y) j u)
 |succ k F=>
  intro i h p c a E D m d j y;refine Fv Sm ?_;rw[Lo Dz _];show wpAny _ A.in1 (pyNext (.ref I)>>=_) _ _ _;refine Gb (G.item i {s with heap:=h,toks:=p} a.toList _ _ (by lia) m λv f q u l=>?_);dsimp only at l⊢;have g:=l S _ t y;have z:∀b o,b≠S->f.get? b=Ga o->(f.update S (Et (·.push v))).get? b=Ga o:=λb o C e=>(Heap.get?_update_other _ _ (Gn C)).trans e;show wpAny _ A.in1 (updateSeq S (·.push v)>>=_) _ _ _;refine Gb ?_;refine E1 g rfl (Ge ⟨LB Dz _,F (i+1) _ q _ (a.push v) (by lia) (by lia) (G.keep _ _ _ _ (by rw[Array.toList_push];exact u) z (Heap.lt_size (Heap.get?_update_self _ g Xb)))
   (λb o x r e=>z b o x (l b o r (d b o x r e))) (by rw[Fw,j]) (Heap.get?_update_self _ g Xb)⟩) (by lia) (by show(a.push v).size<=Gj+1;rw[Fw];lia)
theorem sO{T:String}{hb:Bool}(G:lV prog w A.in1.in1 I s.heap.objs.size fp n St Out)(B:∀b∈fp,b<s.heap.objs.size)(L:I<s.heap.objs.size)(P:n<=Gj)(C:∀f:Heap,(∀b o,s.heap.get? b=Ga o->f.get? b=Ga o)->s.heap.objs.size<f.objs.size->St 0 f [])
  (N:∀h d,St 0 h d->MC {s with heap:=h} (.ref I) T)(U:(Value.type T==Value.type "list")=Gs)(V:(Value.type T==Value.type "tuple")=Gs)
  (self:∀(A:TQ)(E:Value->Gk->Prop)(h:Heap)(Q:Value->Gk->Prop),St 0 h []->Q (.ref I) {s with heap:=h}->wpAny (Tc prog w) A (pyIter (.ref I)) Q E {s with heap:=h})
  (hint:∀(A:TQ)(E:Value->Gk->Prop)(h:Heap)(Q:Bool->Gk->Prop),St 0 h []->Q hb {s with heap:=h}->wpAny (Tc prog w) A (Builtin.List.listLengthHint (.ref I)) Q E {s with heap:=h})
  (M:∀l F d c,(∀b o,b∉fp->s.heap.get? b=Ga o->l.get? b=Ga o)->l.get? s.heap.objs.size=Ga {cls:=.type "list",dict:=Gh,data:=.seq d c,slots:=#[]}->d.size=n->Out l d.toList->Q (.ref s.heap.objs.size) {s with heap:=l,toks:=F}):
  wpAny (Tc prog w) A (call (.type "list") [.ref I]) Q E s:=by
 have z:s.heap.objs.size∉fp:=λr=>Dq _ (B _ r);have y:s.heap.objs.size≠I:=Tx L;refine callType_codes (Q₁:=λt k=>t=.ref s.heap.objs.size/\k={s with heap:=s.heap.push {cls:=.type "list",data:=.seq #[]}}) Nz (MI _) MJ
  (code_list_new _ ⟨Xb,Xb⟩) λt k h₁=>?_
 obtain⟨rfl,rfl⟩:=h₁;have v:(s.heap.push {cls:=.type "list",data:=.seq #[]}).get? s.heap.objs.size=Ga {cls:=.type "list",data:=.seq #[]}:=Heap.get?_push_size _ rfl;exists {_,v,Xb},MD _ _;show wpAny _ _ (do let r<-Builtin.List.listItems (.ref s.heap.objs.size);Builtin.List.listUpdate (.ref s.heap.objs.size) (λ_=>#[]);letGo r.toList.reverse;Builtin.List.listExtendWith (.ref s.heap.objs.size) (.ref I) .none) _ _ _;refine Gb ?_;unfold Builtin.List.listItems;refine Gb (Dc v rfl (Ge ?_));show wpAny _ _ (updateSeq s.heap.objs.size (λ_=>#[])>>=λ_=>letGo (#[]:Array Value).toList.reverse>>=λ_=>Builtin.List.listExtendWith (.ref s.heap.objs.size) (.ref I) .none) _ _ _;refine Gb (E1 v rfl ?_);have a:=Heap.get?_update_self (Et (λ_=>(#[]:Array Value))) v rfl;refine Gb (Ss ?_);generalize q:(s.heap.push {cls:=.type "list",data:=.seq #[]}).update s.heap.objs.size (Et (λ_=>(#[]:Array Value)))=f at a;have H:∀b o,s.heap.get? b=Ga o->f.get? b=Ga o:=λb o e=>by rw[<-q];exact(Heap.get?_update_other _ _ (Gn (Tf (Heap.lt_size e)))).trans (Heap.get?_push_of_some _ e)
 have j:St 0 f []:=C f H (Heap.lt_size a);clear q;unfold Builtin.List.listExtendWith;refine Gb (MX (T:=T) (N _ _ j) ?_);have K:Builtin.List.listSameRef (.ref s.heap.objs.size) (.ref I)=Gs:=by simp[Builtin.List.listSameRef,y]
 simp only[K,U,V,Mu,TH,Do];refine Gb (self _ _ f _ j ?_);refine Gb (T1 (hint _ _ f _ j ?_));have p:∀(m:Heap)(c:Nat),St 0 m []->(∀b o,b≠s.heap.objs.size->f.get? b=Ga o->m.get? b=Ga o)->m.get? s.heap.objs.size=Ga {cls:=.type "list",dict:=Gh,data:=.seq #[] c,slots:=#[]}->
   codeAny (Tc prog w) A.in1 (.builtin "list.extend.loop" {[.ref s.heap.objs.size,.ref I,.none],[]}) (wants (λr u=>r=Value.none/\Q (Value.ref s.heap.objs.size) u) E) {s with heap:=m,toks:=s.toks}:=by
  intro m c D S x;refine zZ (A:=A.in1) (s:=s) (h₁:=s.heap) G z P .none (λl F d c u r O R=>{Xb,M l F d c (λb o hb e=>u b o (Tf (Heap.lt_size e)) hb e) r O R}) n 0 m s.toks c #[] (by lia) (Gz _) D (λb o hb _ e=>S b o hb (H b o e)) rfl x
 refine E2 (λ_=>?_) (λ_=>Ge {LB Dz _,p f _ j (λb o _ e=>e) a});refine Gb (EN ?_);refine Gb ?_;show wpAny _ _ (updateSeq s.heap.objs.size (·.push .none)>>=λ_=>updateSeq s.heap.objs.size (·.pop)) _ _ _;refine Gb (E1 a rfl ?_);have g:=Heap.get?_update_self (Et (·.push Value.none)) a rfl;refine E1 (hz:=by seq_fits) g rfl ?_;have i:=Heap.get?_update_self (Et (·.pop)) g rfl;have J:∀b o,b≠s.heap.objs.size->f.get? b=Ga o->((f.update s.heap.objs.size (Et (·.push Value.none))).update s.heap.objs.size (Et (·.pop))).get? b=Ga o:=λb o hb e=>(Heap.get?_update_other _ _ (Gn hb)).trans ((Heap.get?_update_other _ _ (Gn hb)).trans e)
 exact Ge {LB Dz _,p _ _ (G.keep _ _ _ _ j J (Heap.lt_size i)) J i}
end
structure g8(prog:Gg)(w:Gu)(it l:Gc)(xs:Array Value)(St:Nat->Heap->Prop):Prop where
 item:∀(A:TQ)(E:Value->Gk->Prop)(s:Gk)(i:Nat)(x:Value)(Q:Value->Gk->Prop),St i s.heap->xs[i]?=Ga x->(∀h',St (i+1) h'->Heap.SameBut it s.heap h'->Q x {s with heap:=h'})->wpAny (Tc prog w) A (Builtin.SmallTypes.nextOf (.ref it)) Q E s
 fin:∀(A:TQ)(E:Value->Gk->Prop)(s:Gk)(i:Nat)(Q:Value->Gk->Prop),A.handled=Gh->St i s.heap->xs[i]?=Gh->(∀h' e,Heap.ExtBut it s.heap h'->(∃o,h'.get? e=Ga o/\o.cls=.type "StopIteration")->E (.ref e) {s with heap:=h'})->wpAny (Tc prog w) A (Builtin.SmallTypes.nextOf (.ref it)) Q E s
 keep:∀(i:Nat)(h h':Heap),St i h->(∀b,b=it\/b=l->∀o,h.get? b=Ga o->h'.get? b=Ga o)->St i h'
 there:∀(i:Nat)(h:Heap),St i h->it<h.objs.size/\l<h.objs.size
theorem sL{b:Gg}{w:Gu}{l:Gc}(d:l≠it):g8 b w it l xs (λi h=>h.IsListIter it l i/\h.IsList l xs) where
 item:=λA E s i x Q a f n=>wpAny_nextOf_list_item a.1 a.2 f λg c j=>n g {c,a.2.extBut j.extBut d} j
 fin:=λA E s i Q p a f m=>wpAny_nextOf_list_end p a.1 a.2 f m
 keep:=λi h g a k=>{a.1.at λo e=>k it (.inl Xb) o e,a.2.at λo e=>k l (.inr Xb) o e}
 there:=λi h a=>{let⟨_,e,_⟩:=a.1;Heap.lt_size e,let⟨_,e,_⟩:=a.2;Heap.lt_size e}
section
variable{prog:Gg}{w:Gu}{A:TQ}{E:Value->Gk->Prop}{s:Gk}
theorem Jg{t:Gc}{a:Array Value}(b:s.heap.IsTupleIter it t i)(k:s.heap.IsTuple t a)(l:a[i]?=Ga x)
  (h:∀e,e.IsTupleIter it t (i+1)->Heap.SameBut it s.heap e->Q x {s with heap:=e}):wpAny (Tc prog w) A (Builtin.SmallTypes.nextOf (.ref it)) Q E s:=by
 obtain⟨o,d,j,c⟩:=id b;obtain⟨n,g,_,m,f⟩:=k;unfold Builtin.SmallTypes.nextOf;refine Gb (TL (name:=Dw "__next__") b.typeIs F.slot_tuple_iterator_next
  (Tz F.slot_tuple_iterator_next b.typeIs F.entry_tuple_iterator_next ?_ (F.args_tuple_iterator_next_1 _)))
 show wpAny _ _ (field (.ref it) 0>>=_) _ _ s;refine Gb (TF d c (x:=.ref t) rfl ?_);show wpAny _ _ (if(Value.ref t==Value.none)=Gf then _ else _) _ _ s;rw[Gi (show¬((Value.ref t==Value.none)=Gf)from GJ)];show wpAny _ _ (field (.ref it) 1>>=_) _ _ s;refine Gb (TF d c (x:=.int i 0) rfl ?_);show wpAny _ _ (seqItems? (.ref t)>>=_) _ _ s;refine Gb (Dc g f ?_);simp only[Dk,l];refine Gb (Eu d c (by simp) (Ge {x,Xb,Ge (h _ ?_ (Heap.SameBut.update ..))}));exact{_,Heap.get?_update_self _ d (EL (DW c _)),(Sw ..).trans j,by rw[DW c];simp[rawInt]}
theorem Jw{t:Gc}{a:Array Value}(j:A.handled=Gh)(b:s.heap.IsTupleIter it t i)(l:s.heap.IsTuple t a)(m:a[i]?=Gh)
  (k:∀c e,Heap.ExtBut it s.heap c->(∃o,c.get? e=Ga o/\o.cls=.type "StopIteration")->E (.ref e) {s with heap:=c}):wpAny (Tc prog w) A (Builtin.SmallTypes.nextOf (.ref it)) Q E s:=by
 obtain⟨o,g,c,d⟩:=id b;obtain⟨p,h,_,n,f⟩:=l;unfold Builtin.SmallTypes.nextOf;refine Gb (TL (name:=Dw "__next__") b.typeIs F.slot_tuple_iterator_next
  (Tz F.slot_tuple_iterator_next b.typeIs F.entry_tuple_iterator_next ?_ (F.args_tuple_iterator_next_1 _)))
 show wpAny _ _ (field (.ref it) 0>>=_) _ _ s;refine Gb (TF g d (x:=.ref t) rfl ?_);show wpAny _ _ (if(Value.ref t==Value.none)=Gf then _ else _) _ _ s;rw[Gi (show¬((Value.ref t==Value.none)=Gf)from GJ)];show wpAny _ _ (field (.ref it) 1>>=_) _ _ s;refine Gb (TF g d (x:=.int i 0) rfl ?_);show wpAny _ _ (seqItems? (.ref t)>>=_) _ _ s;refine Gb (Dc h f ?_);simp only[Dk,m];refine Gb (EN (Gb (Eu g d (by simp) ?_)));show wpAny _ _ (newExc (.type "StopIteration") []>>=_) _ _ _;refine Gb ?_;simp only[newExc,newTuple];refine Gb (TB ?_ (by size_fits));refine Gb (m:=firstArgMember _ _) (Fp (a:=Value.none) (by first|rfl|(simp only[firstArgMember];rfl)) ?_);refine TB ?_ (by size_fits);simp only[raiseNew];refine Gb (LA ?_);first|rw[show A.in1.handled=Gh from j]|rw[j]
 refine Gb (Ge (Fq ?_));exact k _ _ (((Heap.SameBut.update ..).extBut.push _).push _) {_,Heap.get?_push_size _ Xb,Xb}
end
theorem uJ{b:Gg}{w:Gu}{l:Gc}(d:l≠it):g8 b w it l xs (λi h=>h.IsTupleIter it l i/\h.IsTuple l xs) where
 item:=λA E s i x Q a f n=>Jg a.1 a.2 f λg c j=>n g {c,a.2.extBut j.extBut d} j
 fin:=λA E s i Q p a f m=>Jw p a.1 a.2 f m
 keep:=λi h g a k=>{let⟨o,ho,r⟩:=a.1;{o,k it (.inl Xb) o ho,r},let⟨o,ho,r⟩:=a.2;{o,k l (.inr Xb) o ho,r}}
 there:=λi h a=>{let⟨_,e,_⟩:=a.1;Heap.lt_size e,let⟨_,e,_⟩:=a.2;Heap.lt_size e}
abbrev Iw(h:Heap)(z TI TO a:Gc)(f:Bool):Prop:=h.get? z=Ga {cls:=.type "zip",dict:=Gh,data:=.fields #[rawInt a,.bool f,.bool Gs,.ref TI,.ref TO],slots:=#[]}
section
variable{prog:Gg}{w:Gu}{A:TQ}{E:Value->Gk->Prop}{s:Gk}{z TI TO i1 i2 l1 l2:Gc}{k:Nat}{xs ys:Array Value}{S1 S2:Nat->Heap->Prop}
theorem PH{y a t:Value}(d:FJ z TI TO i1 i2 l1 l2)(C:g8 prog w i1 l1 xs S1)(D:g8 prog w i2 l2 ys S2)
  (r:SY s.heap z TI TO .none)(ac:DL s.heap TI (.ref i1) (.ref i2))(ad:DL s.heap TO a t)(h1:S1 k s.heap)(h2:S2 k s.heap)(hx:xs[k]?=Ga x)(hy:ys[k]?=Ga y)
  (hQ:∀h,Iw h z TI TO s.heap.objs.size Gs->DL h TO x y->S1 (k+1) h->S2 (k+1) h->DL h s.heap.objs.size x y->
   (∀c b,c≠z->c≠TO->c≠i1->c≠i2->s.heap.get? c=Ga b->h.get? c=Ga b)->Q (.ref s.heap.objs.size) {s with heap:=h}):
  wpAny (Tc prog w) A (Builtin.«zip.__next__» {[.ref z],[]}) (λfin s'=>∃h,fin=.done (.ret h)/\Q h s') E s:=by
 show wpAny _ _ (field (.ref z) 2>>=_) _ _ _;refine Gb (TF r rfl (x:=.bool Gs) rfl ?_);show wpAny _ _ (field (.ref z) 3>>=_) _ _ _;refine Gb (TF r rfl (x:=.ref TI) rfl ?_);refine Gb (Dc ac rfl ?_);show wpAny _ _ (Builtin.SmallTypes.ownedTupleIsFree (.ref z)>>=_) _ _ _;refine Gb ?_;unfold Builtin.SmallTypes.ownedTupleIsFree;refine Gb (TF r rfl (x:=.none) rfl (Ge ?_));simp only[Sq];refine Gb (EN ?_);refine Gb (TF r rfl (x:=.ref TO) rfl ?_);refine Gb (DF r (by simp) λL J S=>?_);replace J:SY L z TI TO .ellipsis:=J;have F:∀c b,c≠z->s.heap.get? c=Ga b->L.get? c=Ga b:=λc b Z e=>S.extBut _ _ Z e;refine Gb ?_;simp only[List.zipIdx_cons,List.zipIdx_nil,List.forIn_cons,List.forIn_nil];refine Gb (Gb (SA ?_));show wpAny _ _ (Builtin.SmallTypes.nextOf (.ref i1)>>=_) _ _ _;refine Gb (C.item _ _ _ k x _ (C.keep k _ L h1 λc i b e=>F c b (by rcases i with rfl|rfl;exact d.i1z;exact d.l1z) e) hx λag aa v=>Ge ?_);have N:DL ag TO a t:=v.extBut _ _ d.TOi1 (F _ _ d.TOz ad);refine Gb (Dc N rfl ?_);refine Gb (EX N λM I q=>?_);replace I:DL M TO x t:=I;refine Gb (Ss (Ge ?_));have G:∀c b,c≠z->c≠i1->c≠TO->s.heap.get? c=Ga b->M.get? c=Ga b:=λc b g l p e=>q.extBut _ _ p (v.extBut _ _ l (F c b g e));refine Gb (Gb (SA ?_));show wpAny _ _ (Builtin.SmallTypes.nextOf (.ref i2)>>=_) _ _ _;refine Gb (D.item _ _ _ k y _ (D.keep k _ M h2 λc i b e=>by
  rcases i with rfl|rfl
  .exact G _ b d.i2z d.i12.symm d.TOi2.symm e
  .exact G _ b d.l2z d.l2i1 d.l2TO e) hy λah ab m=>Ge ?_)
 have O:DL ah TO x t:=m.extBut _ _ d.TOi2 I;refine Gb (Dc O rfl ?_);refine Gb (EX O λf u j=>?_);replace u:DL f TO x y:=u;refine Gb (Ss (Ge (Ge ?_)));refine Gb (Dc u rfl ?_);refine Gb (FK ?_);have R:f.objs.size=s.heap.objs.size:=by rw[j.1,m.1,q.1,v.1,S.1]
 have W:SY f z TI TO .ellipsis:=j.extBut _ _ d.TOz.symm (m.extBut _ _ d.i2z.symm (q.extBut _ _ d.TOz.symm (v.extBut _ _ d.i1z.symm J)));have ae:∀c b,c≠z->c≠TO->c≠i1->c≠i2->s.heap.get? c=Ga b->f.get? c=Ga b:=λc b g l p H e=>j.extBut _ _ l (m.extBut _ _ H (G c b g p l e));have V:z<f.objs.size:=Heap.lt_size W;show wpAny _ _ (Builtin.SmallTypes.ownedTupleHandOut (.ref z) (.ref f.objs.size)>>=_) _ _ _;refine Gb ?_;unfold Builtin.SmallTypes.ownedTupleHandOut;have af:SY (f.push {cls:=.type "tuple",data:=.seq #[x,y]}) z TI TO .ellipsis:=Heap.get?_push_of_some _ W;refine Gb (DF af (by simp) λai K T=>?_);replace K:SY ai z TI TO (rawInt f.objs.size):=K;refine DF K (by simp) λn B U=>?_;replace B:SY n z TI TO (rawInt f.objs.size):=B;have o:∀c b,c≠z->f.get? c=Ga b->n.get? c=Ga b:=λc b g e=>U.extBut _ _ g (T.extBut _ _ g (Heap.get?_push_of_some _ e));have P:DL n f.objs.size x y:=U.extBut _ _ (Tx V) (T.extBut _ _ (Tx V) (Heap.get?_push_size _ Xb));rw[R]at B P;refine Ge {_,Xb,?_};show Q (.ref f.objs.size) _;rw[R];have X:S1 (k+1) n:=C.keep _ _ _ aa λc i b e=>by
  rcases i with rfl|rfl
  .exact o _ b d.i1z (j.extBut _ _ d.TOi1.symm (m.extBut _ _ d.i12 (q.extBut _ _ d.TOi1.symm e)))
  .exact o _ b d.l1z (j.extBut _ _ d.l1TO (m.extBut _ _ d.l1i2 (q.extBut _ _ d.l1TO e)))
 have Y:S2 (k+1) n:=D.keep _ _ _ ab λc i b e=>by
  rcases i with rfl|rfl
  .exact o _ b d.i2z (j.extBut _ _ d.TOi2.symm e)
  .exact o _ b d.l2z (j.extBut _ _ d.l2TO e)
 exact hQ n B (o _ _ d.TOz u) X Y P λc b g l p H e=>o c b g (ae c b g l p H e)
theorem y0{a:Gc}{f:Bool}{i:Ef}{Q:Bool->Gk->Prop}(e:Iw s.heap z TI TO a f)(h:s.heap.get? a=Ga i)(g:∀b,Iw b z TI TO a Gf->Heap.SameBut z s.heap b->Q Gs {s with heap:=b}):
  wpAny (Tc prog w) A (Builtin.SmallTypes.ownedTupleIsFree (.ref z)) Q E s:=by
 unfold Builtin.SmallTypes.ownedTupleIsFree;refine Gb (TF e rfl (x:=rawInt a) rfl ?_);show wpAny _ _ (loadIfAlive ((a:Int).toNat)>>=_) _ _ _;rw[Dk];refine Gb (RC h ?_);simp only[Option.isNone_some,TH,Do];refine Gb (TF e rfl (x:=.bool f) rfl ?_);cases f with
 |true=>rw[Gi (show¬((Value.bool Gf !=Value.bool Gf)=Gf)from GJ)];exact Ge (g _ e (Heap.SameBut.refl _ _))
 |false=>rw[Gp (show(Value.bool Gs !=Value.bool Gf)=Gf from rfl)];exact Gb (DF e (by simp) λd b c=>Ge (g d b c))
end
section
variable{prog:Gg}{w:Gu}{A:TQ}{E:Value->Gk->Prop}{s:Gk}{z TI TO i1 i2 l1 l2:Gc}{k:Nat}{xs ys:Array Value}{S1 S2:Nat->Heap->Prop}
theorem A6{y:Value}{a:Gc}{f:Bool}{S:Ef}(D:FJ z TI TO i1 i2 l1 l2)(u:g8 prog w i1 l1 xs S1)(B:g8 prog w i2 l2 ys S2)
  (I:Iw s.heap z TI TO a f)(O:s.heap.get? a=Ga S)(H:DL s.heap TI (.ref i1) (.ref i2))(L:S1 k s.heap)(M:S2 k s.heap)(P:xs[k]?=Ga x)(R:ys[k]?=Ga y)
  (N:∀q,Iw q z TI TO a Gf->S1 (k+1) q->S2 (k+1) q->DL q s.heap.objs.size x y->
   (∀c o,c≠z->c≠i1->c≠i2->s.heap.get? c=Ga o->q.get? c=Ga o)->Q (.ref s.heap.objs.size) {s with heap:=q}):
  wpAny (Tc prog w) A (Builtin.«zip.__next__» {[.ref z],[]}) (λfin s'=>∃v,fin=.done (.ret v)/\Q v s') E s:=by
 show wpAny _ _ (field (.ref z) 2>>=_) _ _ _;refine Gb (TF I rfl (x:=.bool Gs) rfl ?_);show wpAny _ _ (field (.ref z) 3>>=_) _ _ _;refine Gb (TF I rfl (x:=.ref TI) rfl ?_);refine Gb (Dc H rfl ?_);show wpAny _ _ (Builtin.SmallTypes.ownedTupleIsFree (.ref z)>>=_) _ _ _;refine Gb (y0 I O λj p i=>?_);have J:∀c o,c≠z->s.heap.get? c=Ga o->j.get? c=Ga o:=λc o h e=>i.extBut _ _ h e;simp only[TH,Do];refine Gb ?_;rw[<-ED];simp only[List.forIn_cons,List.forIn_nil];refine Gb (Gb (T1 ?_));show wpAny _ _ (Builtin.SmallTypes.nextOf (.ref i1)>>=_) _ _ _;refine Gb (u.item _ _ _ k x _ (u.keep k _ j L λc r o e=>J c o (by rcases r with rfl|rfl;exact D.i1z;exact D.l1z) e) P λl m d=>Ge (Ge ?_));have C:∀c o,c≠z->c≠i1->s.heap.get? c=Ga o->l.get? c=Ga o:=λc o F G e=>d.extBut _ _ G (J c o F e);refine Gb (Gb (T1 ?_));show wpAny _ _ (Builtin.SmallTypes.nextOf (.ref i2)>>=_) _ _ _;refine Gb (B.item _ _ _ k y _ (B.keep k _ l M λc r o e=>by
  rcases r with rfl|rfl
  .exact C _ o D.i2z D.i12.symm e
  .exact C _ o D.l2z D.l2i1 e) R λg n b=>Ge (Ge (Ge ?_)))
 refine Gb (FK (hsz:=by show 2<=Gj;decide) ?_);have hsz:g.objs.size=s.heap.objs.size:=by rw[b.1,d.1,i.1]
 refine Ge {_,Xb,?_};show Q (.ref g.objs.size) _;rw[hsz];have t:∀c o,g.get? c=Ga o->(g.push {cls:=.type "tuple",data:=.seq #[x,y]}).get? c=Ga o:=λc o e=>Heap.get?_push_of_some _ e;refine N _ (t _ _ (b.extBut _ _ D.i2z.symm (d.extBut _ _ D.i1z.symm p))) (u.keep _ _ _ m λc r o e=>t _ _ ?_) (B.keep _ _ _ n λc r o e=>t _ _ e) (by rw[<-hsz];exact Heap.get?_push_size _ Xb) λc o F G K e=>t _ _ (b.extBut _ _ K (C c o F G e));rcases r with rfl|rfl
 .exact b.extBut _ _ D.i12 e
 .exact b.extBut _ _ D.l1i2 e
theorem Kz{a N:Value}{Y:Fin->Gk->Prop}(G:A.handled=Gh)(e:FJ z TI TO i1 i2 l1 l2)(r:g8 prog w i1 l1 xs S1)(D:g8 prog w i2 l2 ys S2)
  (h:SY s.heap z TI TO .none\/∃c O X,Iw s.heap z TI TO c O/\s.heap.get? c=Ga X)(R:DL s.heap TI (.ref i1) (.ref i2))(aa:DL s.heap TO a N)(P:S1 k s.heap)(Q:S2 k s.heap)(T:xs[k]?=Gh\/ys[k]?=Gh)
  (F:∀p d,(∀c b,c≠z->c≠TO->c≠i1->c≠i2->s.heap.get? c=Ga b->p.get? c=Ga b)->(∃b,p.get? d=Ga b/\b.cls=.type "StopIteration")->E (.ref d) {s with heap:=p}):
  wpAny (Tc prog w) A (Builtin.«zip.__next__» {[.ref z],[]}) Y E s:=by
 rcases h with h|⟨p,O,X,h,ha⟩
 .show wpAny _ _ (field (.ref z) 2>>=_) _ _ _;refine Gb (TF h rfl (x:=.bool Gs) rfl ?_);show wpAny _ _ (field (.ref z) 3>>=_) _ _ _;refine Gb (TF h rfl (x:=.ref TI) rfl ?_);refine Gb (Dc R rfl ?_);show wpAny _ _ (Builtin.SmallTypes.ownedTupleIsFree (.ref z)>>=_) _ _ _;refine Gb ?_;unfold Builtin.SmallTypes.ownedTupleIsFree;refine Gb (TF h rfl (x:=.none) rfl (Ge ?_));simp only[Sq];refine Gb (EN ?_);refine Gb (TF h rfl (x:=.ref TO) rfl ?_);refine Gb (DF h (by simp) λt B K=>?_);replace B:SY t z TI TO .ellipsis:=B;have l:∀c b,c≠z->s.heap.get? c=Ga b->t.get? c=Ga b:=λc b g d=>K.extBut _ _ g d;refine Gb ?_;simp only[List.zipIdx_cons,List.zipIdx_nil,List.forIn_cons,List.forIn_nil];refine Gb (Gb (SA ?_));show wpAny _ _ (Builtin.SmallTypes.nextOf (.ref i1)>>=_) _ _ _;have C:=r.keep k _ t P λc n b d=>l c b (by rcases n with rfl|rfl;exact e.i1z;exact e.l1z) d;cases hx:xs[k]? with
  |none=>
   refine Gb (r.fin _ _ _ k _ G C hx λm d i o=>?_);obtain⟨M,p,y⟩:=o;have H:SY m z TI TO .ellipsis:=i _ _ e.i1z.symm B;have J:d≠z:=λx=>by subst x;rw[H]at p;cases p;simp at y
   refine DF H (by simp) λu _ q=>F u d (λc b f _ j _ x=>q.extBut _ _ f (i _ _ j (l _ _ f x))) {M,q.extBut _ _ J p,y}
  |some x=>
   have L:ys[k]?=Gh:=by rcases T with g|g;rw[hx]at g;cases g;exact g
   refine Gb (r.item _ _ _ k x _ C hx λm Z i=>Ge ?_);have S:DL m TO a N:=i.extBut _ _ e.TOi1 (l _ _ e.TOz aa);refine Gb (Dc S rfl ?_);refine Gb (EX S λu ad q=>?_);refine Gb (Ss (Ge ?_));have H:∀c b,c≠z->c≠i1->c≠TO->s.heap.get? c=Ga b->u.get? c=Ga b:=λc b f v j d=>q.extBut _ _ j (i.extBut _ _ v (l c b f d));refine Gb (Gb (SA ?_));show wpAny _ _ (Builtin.SmallTypes.nextOf (.ref i2)>>=_) _ _ _;refine Gb (D.fin _ _ _ k _ G (D.keep k _ u Q λc n b d=>by
    rcases n with rfl|rfl
    .exact H _ b e.i2z e.i12.symm e.TOi2.symm d
    .exact H _ b e.l2z e.l2i1 e.l2TO d) L λab d U o=>?_)
   obtain⟨M,p,y⟩:=o;have W:SY ab z TI TO .ellipsis:=U _ _ e.i2z.symm (q.extBut _ _ e.TOz.symm (i.extBut _ _ e.i1z.symm B));have J:d≠z:=λx=>by subst x;rw[W]at p;cases p;simp at y
   refine DF W (by simp) λac _ V=>F ac d (λc b f v j I x=>V.extBut _ _ f (U _ _ I (H c b f j v x))) {M,V.extBut _ _ J p,y}
 .show wpAny _ _ (field (.ref z) 2>>=_) _ _ _;refine Gb (TF h rfl (x:=.bool Gs) rfl ?_);show wpAny _ _ (field (.ref z) 3>>=_) _ _ _;refine Gb (TF h rfl (x:=.ref TI) rfl ?_);refine Gb (Dc R rfl ?_);show wpAny _ _ (Builtin.SmallTypes.ownedTupleIsFree (.ref z)>>=_) _ _ _;refine Gb (y0 h ha λt B K=>?_);have l:∀c b,c≠z->s.heap.get? c=Ga b->t.get? c=Ga b:=λc b g d=>K.extBut _ _ g d;simp only[TH,Do];refine Gb ?_;rw[<-ED];simp only[List.forIn_cons,List.forIn_nil];refine Gb (Gb (T1 ?_));show wpAny _ _ (Builtin.SmallTypes.nextOf (.ref i1)>>=_) _ _ _;have C:=r.keep k _ t P λc n b d=>l c b (by rcases n with rfl|rfl;exact e.i1z;exact e.l1z) d;cases hx:xs[k]? with
  |none=>exact Gb (r.fin _ _ _ k _ G C hx λm d i o=>F m d (λc b f _ j _ x=>i _ _ j (l _ _ f x)) o)
  |some x=>
   have L:ys[k]?=Gh:=by rcases T with g|g;rw[hx]at g;cases g;exact g
   refine Gb (r.item _ _ _ k x _ C hx λm Z i=>Ge (Ge ?_));have p:∀c b,c≠z->c≠i1->s.heap.get? c=Ga b->m.get? c=Ga b:=λc b f v d=>i.extBut _ _ v (l c b f d);refine Gb (Gb (T1 ?_));show wpAny _ _ (Builtin.SmallTypes.nextOf (.ref i2)>>=_) _ _ _;exact Gb (D.fin _ _ _ k _ G (D.keep k _ m Q λc n b d=>by
    rcases n with rfl|rfl
    .exact p _ b e.i2z e.i12.symm d
    .exact p _ b e.l2z e.l2i1 d) L λu d q o=>F u d (λc b f _ j I x=>q _ _ I (p c b f j x)) o)
structure mY(S1 S2:Nat->Heap->Prop)(xs ys:Array Value)(z TI TO i1 i2 S:Gc)(i:Nat)(h:Heap)(acc:List Value):Prop where
 zip:(i=0/\SY h z TI TO .none)\/∃c f oa,Iw h z TI TO c f/\h.get? c=Ga oa/\c≠S/\c≠z/\c≠TO/\c≠i1/\c≠i2
 ti:DL h TI (.ref i1) (.ref i2)
 to:∃a b,DL h TO a b
 s1:S1 i h
 s2:S2 i h
 len:acc.length=i
 sl:S<h.objs.size
 out:∀(j:Nat)v,acc[j]?=Ga v->∃c x y,v=.ref c/\xs[j]?=Ga x/\ys[j]?=Ga y/\DL h c x y/\c≠S/\c≠z/\c≠TO/\c≠i1/\c≠i2/\z<c
theorem wZ{Q:Option Value->Gk->Prop}{R:Value->Gk->Prop}(b:s.TypeIs (.ref z) "zip")(h:wpAny (Tc prog w) A.in1 (Builtin.«zip.__next__» {[.ref z],[]}) (λfin s'=>∃v,fin=.done (.ret v)/\Q (Ga v) s') (λe s'=>∃o,(∃a,e=.ref a/\s'.heap.get? a=Ga o/\o.cls=.type "StopIteration")/\Q Gh s') s):wpAny (Tc prog w) A (pyNext (.ref z)) Q E s:=by
 unfold pyNext;refine Gb (ES (TL (name:=Dw "__next__") b F.slot_zip_next
  (Tz F.slot_zip_next b F.entry_zip_next (DE h (λfin s'⟨v,e,q⟩=>{v,e,Ge q}) λe s'⟨o,⟨a,c,f,d⟩,q⟩=>?_) (F.args_zip_next_1 _))))
 subst c;exact Gb (Ew (T:="StopIteration") (b:=Gf) ⟨o,f,d⟩ Lj (Ge q))
theorem mY.type{S:Gc}{h:Heap}{a:List Value}(x:mY S1 S2 xs ys z TI TO i1 i2 S i h a):MC {s with heap:=h} (.ref z) "zip":=by
 rcases x.zip with⟨_,e⟩|⟨c,f,b,e,_⟩
 .exact{_,e,Xb}
 .exact{_,e,Xb}
theorem K5{S:Gc}(hh:A.handled=Gh)(q:FJ z TI TO i1 i2 l1 l2)(F:g8 prog w i1 l1 xs S1)(G:g8 prog w i2 l2 ys S2)(B:S≠z/\S≠TI/\S≠TO/\S≠i1/\S≠i2/\S≠l1/\S≠l2):
  lV prog w A z S [z,TO,i1,i2] (min xs.size ys.size) (mY S1 S2 xs ys z TI TO i1 i2 S)
   (λh H=>∀(j:Nat)v,H[j]?=Ga v->∃c x y,v=.ref c/\xs[j]?=Ga x/\ys[j]?=Ga y/\DL h c x y/\c≠S/\z<c):=by
 have E:∀{c:Gc},c≠z->c≠TO->c≠i1->c≠i2->c∉[z,TO,i1,i2]:=λa m c d h=>by simp at h;rcases h with h|h|h|h<;>contradiction
 have u:∀{c:Gc},c∉[z,TO,i1,i2]->c≠z/\c≠TO/\c≠i1/\c≠i2:=λh=>by simp at h;exact h
 refine{λi s H ab ad hi b Z=>?_,λs H ab ad b Z=>?_,λi h f H b k Q=>?_}
 .have hx:xs[i]?=Ga xs[i]:=Tk (by ext);have hy:ys[i]?=Ga ys[i]:=Tk (by ext);obtain⟨ta,tb,D⟩:=b.to;have Q:=b.sl;refine wZ (R:=λ_ _=>True) b.type ?_;have ac:∀f,(∃c t r,Iw f z TI TO c t/\f.get? c=Ga r/\c≠S/\c≠z/\c≠TO/\c≠i1/\c≠i2)->(∃a m,DL f TO a m)->S1 (i+1) f->S2 (i+1) f->DL f s.heap.objs.size xs[i] ys[i]->(∀c g,c≠z->c≠TO->c≠i1->c≠i2->s.heap.get? c=Ga g->f.get? c=Ga g)->ab (Ga (.ref s.heap.objs.size)) {s with heap:=f,toks:=s.toks}:=by
   intro f ag af J K E n;have X:z<s.heap.objs.size:=by rcases b.zip with⟨_,e⟩|⟨c,t,r,e,_⟩<;>exact Heap.lt_size e
   have aa:TO<s.heap.objs.size:=Heap.lt_size D;have ah:i1≠s.heap.objs.size:=Tf (F.there _ _ b.s1).1;have ai:i2≠s.heap.objs.size:=Tf (G.there _ _ b.s2).1;refine Z _ f s.toks {.inr ag,n _ _ q.TIz q.TITO q.TIi1 q.TIi2 b.ti,af,J,K,by simp[b.len],M1 Q (Heap.lt_size E),λj v o=>?_} λm g l e=>n m g (u l).1 (u l).2.1 (u l).2.2.1 (u l).2.2.2 e;rcases Tp j H.length with h|h
   .rw[List.getElem?_append_left h]at o;obtain⟨c,x,y,M,N,O,P,I,T,U,V,W,L⟩:=b.out j v o;exact{c,x,y,M,N,O,n _ _ T U V W P,I,T,U,V,W,L}
   .rw[List.getElem?_append_right h]at o;have h0:j - H.length=0:=by have:=(List.getElem?_eq_some_iff.mp o).1;simp at this;ext
    rw[h0]at o;simp at o;subst o;have:j=i:=by have:=b.len;ext
    subst this;exact{_,_,_,Xb,hx,hy,E,Tx Q,Tx X,Tx aa,Gn ah,Gn ai,X}
  have X:z<s.heap.objs.size:=by rcases b.zip with⟨_,e⟩|⟨c,t,r,e,_⟩<;>exact Heap.lt_size e
  have aa:TO<s.heap.objs.size:=Heap.lt_size D;rcases b.zip with⟨_,p⟩|⟨c,t,r,p,C,R,c2,c3,c4,c5⟩
  .exact PH q F G p b.ti D b.s1 b.s2 hx hy λf Y ae J K E n=>ac f {_,_,_,Y,E,Tx Q,Tx X,Tx aa,Tx (F.there _ _ b.s1).1,Tx (G.there _ _ b.s2).1} {_,_,ae} J K E n
  .exact A6 q F G p C b.ti b.s1 b.s2 hx hy λf Y J K E n=>ac f {c,Gf,r,Y,n _ _ c2 c4 c5 C,R,c2,c3,c4,c5} {_,_,n _ _ q.TOz q.TOi1 q.TOi2 D} J K E λm g b1 _ b3 b4 e=>n m g b1 b3 b4 e
 .obtain⟨ta,tb,D⟩:=b.to;refine wZ (R:=λ_ _=>True) b.type (Kz (k:=min xs.size ys.size) hh q F G ?_ b.ti D b.s1 b.s2 ?_ λf e n E=>?_)
  .rcases b.zip with⟨_,p⟩|⟨c,t,r,p,C,_⟩
   .exact .inl p
   .exact .inr ⟨c,t,r,p,C⟩
  .rcases Nat.le_total xs.size ys.size with h|h
   .exact .inl (Dh (by ext))
   .exact .inr (Dh (by ext))
  .obtain⟨g,J,C⟩:=E;refine{g,⟨e,Xb,J,C⟩,Z f s.toks (λj v o=>?_) λm g l e=>n m g (u l).1 (u l).2.1 (u l).2.2.1 (u l).2.2.2 e};obtain⟨c,x,y,M,N,O,P,I,T,U,V,W,L⟩:=b.out j v o;exact{c,x,y,M,N,O,n _ _ T U V W P,I,L}
 .obtain⟨ta,tb,D⟩:=b.to;refine{?_,k _ _ (Gn B.2.1) b.ti,{ta,tb,k _ _ (Gn B.2.2.1) D},F.keep _ _ _ b.s1 λm l g e=>k m g ?_ e,G.keep _ _ _ b.s2 λm l g e=>k m g ?_ e,b.len,Q,λj v o=>?_}
  .rcases b.zip with⟨L,p⟩|⟨c,t,r,p,C,R,E⟩
   .exact .inl {L,k _ _ (Gn B.1) p}
   .exact .inr {c,t,r,k _ _ (Gn B.1) p,k _ _ R C,R,E}
  .rcases l with rfl|rfl
   .exact Gn B.2.2.2.1
   .exact Gn B.2.2.2.2.2.1
  .rcases l with rfl|rfl
   .exact Gn B.2.2.2.2.1
   .exact Gn B.2.2.2.2.2.2
  .obtain⟨c,x,y,M,N,O,P,I,E⟩:=b.out j v o;exact{c,x,y,M,N,O,k _ _ I P,I,E}
end
theorem AV:typeLookup (.type "zip") "__len__"=pure Gh:=by rw[E3,Er];kernel_rfl
theorem JU:typeLookup (.type "zip") "__length_hint__"=pure Gh:=by rw[E3,Er];kernel_rfl
section
variable{prog:Gg}{w:Gu}{A:TQ}{E:Value->Gk->Prop}{s:Gk}
theorem CY{z:Gc}{Q:Bool->Gk->Prop}(a:s.TypeIs (.ref z) "zip")(h:Q Gf s):wpAny (Tc prog w) A (Builtin.List.listLengthHint (.ref z)) Q E s:=by unfold Builtin.List.listLengthHint;refine Gb (DQ a AV ?_);show wpAny _ A (specialOf (Value.ref z) (Dw "__length_hint__")>>=_) _ _ _;refine Gb (DQ a JU ?_);exact Ge h
end
abbrev mz(h:Heap)(l1:Gc):Heap:=h.push {cls:=.type "tuple_iterator",data:=.fields #[.ref l1,.int 0 0]}
abbrev mf(h:Heap)(l1 l2:Gc):Heap:=(mz h l1).push {cls:=.type "tuple_iterator",data:=.fields #[.ref l2,.int 0 0]}
abbrev lH(h:Heap)(l1 l2:Gc):Heap:=(mf h l1 l2).push {cls:=.type "tuple",data:=.seq #[.ref h.objs.size,.ref (mz h l1).objs.size]}
abbrev mw(h:Heap)(l1 l2:Gc):Heap:=(lH h l1 l2).push {cls:=.type "tuple",data:=.seq #[.none,.none]}
abbrev iT(h:Heap)(l1 l2:Gc):Heap:=(mw h l1 l2).push {cls:=.type "zip",data:=.fields #[.none,.bool Gs,.bool Gs,.ref (mf h l1 l2).objs.size,.ref (lH h l1 l2).objs.size]}
theorem Ki(a b:Gc)(n o:Array Value):
  Meets (Builtin.«zip.__new__» {[.type "zip",.ref a,.ref b],[]}) (λ_ R s=>s.heap.IsTuple a n/\s.heap.IsTuple b o/\
   R (.ok (.ret (.ref (mw s.heap a b).objs.size))) {s with heap:=iT s.heap a b}):=
 .of_wp λl w A R s h=>by
  obtain⟨j,g,d,m,os⟩:=s;obtain⟨f,i,h⟩:=h;have k:=sub_zip;have c:Heap.IsTuple (Nu ⟨j,g,d,m,os⟩) a n:=f;have e:Heap.IsTuple (Nu {j.push {cls:=.type "tuple_iterator",data:=.fields #[.ref a,.int 0 0]},g,d,m,os}) b o:=Heap.IsTuple.push i _;wp_walk using Sa c,Sa e
  exact{_,Xb,h}
section
variable{prog:Gg}{w:Gu}{A:TQ}{E:Value->Gk->Prop}{s:Gk}
theorem AN{a b:Gc}{q:Array Value}(f:s.heap.IsTuple a xs)(g:s.heap.IsTuple b q)
  (h:∀d,SY d (s.heap.objs.size+4) (s.heap.objs.size+2) (s.heap.objs.size+3) .none->DL d (s.heap.objs.size+2) (.ref s.heap.objs.size) (.ref (s.heap.objs.size+1))->
   DL d (s.heap.objs.size+3) .none .none->d.IsTupleIter s.heap.objs.size a 0->d.IsTupleIter (s.heap.objs.size+1) b 0->d.objs.size=s.heap.objs.size+5->
   (∀c o,s.heap.get? c=Ga o->d.get? c=Ga o)->Q (.ref (s.heap.objs.size+4)) {s with heap:=d}):
  wpAny (Tc prog w) A (call (.type "zip") [.ref a,.ref b]) Q E s:=by
 refine callType_new F.called_zip (by decide) (F.typeCall_zip_2 _ _) (F.newCall_zip_2 _ _) (λd=>F.args_object_init_3 d _ _) F.entry_zip_new
  (Ki a b xs q) {f,g,?_}
 have i:(mz s.heap a).objs.size=s.heap.objs.size+1:=Heap.size_push ..;have j:(mf s.heap a b).objs.size=s.heap.objs.size+2:=by rw[Heap.size_push,i]
 have k:(lH s.heap a b).objs.size=s.heap.objs.size+3:=by rw[Heap.size_push,j]
 have l:(mw s.heap a b).objs.size=s.heap.objs.size+4:=by rw[Heap.size_push,k]
 have t:(iT s.heap a b).objs.size=s.heap.objs.size+5:=by rw[Heap.size_push,l]
 have e:(iT s.heap a b).get? (mw s.heap a b).objs.size=Ga _:=Heap.get?_push_size _ rfl;have p:(iT s.heap a b).get? (lH s.heap a b).objs.size=Ga _:=Heap.get?_push_of_some _ (Heap.get?_push_size _ Xb);have n:(iT s.heap a b).get? (mf s.heap a b).objs.size=Ga _:=Heap.get?_push_of_some _ (Heap.get?_push_of_some _ (Heap.get?_push_size _ Xb));have m:(iT s.heap a b).get? (mz s.heap a).objs.size=Ga _:=Heap.get?_push_of_some _ (Heap.get?_push_of_some _ (Heap.get?_push_of_some _ (Heap.get?_push_size _ Xb)));have r:(iT s.heap a b).get? s.heap.objs.size=Ga _:=Heap.get?_push_of_some _ (Heap.get?_push_of_some _ (Heap.get?_push_of_some _ (Heap.get?_push_of_some _ (Heap.get?_push_size _ Xb))));show _/\_;rw[j,k,l]at e;rw[i,j]at n;rw[k]at p;rw[i]at m;rw[l];exact{{_,e,Xb},h _ e n p {_,r,Xb,Xb} {_,m,Xb,Xb} t λc o x=>Heap.get?_push_of_some _ (Heap.get?_push_of_some _ (Heap.get?_push_of_some _ (Heap.get?_push_of_some _ (Heap.get?_push_of_some _ x))))}
theorem wK{H I:Nat->Heap->Prop}{N O:Gc}{l:Array Value}{n0:Nat}(V:A.handled=Gh)(B:g8 prog w n0 N xs H)(C:g8 prog w (n0+1) O l I)(J:N<n0)(K:O<n0)(a:s.heap.objs.size=n0+5)
  (Z:SY s.heap (n0+4) (n0+2) (n0+3) .none)(m:DL s.heap (n0+2) (.ref n0) (.ref (n0+1)))(n:DL s.heap (n0+3) .none .none)(r:H 0 s.heap)(t:I 0 s.heap)(Y:min xs.size l.size<=Gj)
  (U:∀g u d c,(∀b o,b<n0->s.heap.get? b=Ga o->g.get? b=Ga o)->g.get? (n0+5)=Ga {cls:=.type "list",dict:=Gh,data:=.seq d c,slots:=#[]}->d.size=min xs.size l.size->
   (∀(j:Nat)v,d.toList[j]?=Ga v->∃c x y,v=.ref c/\xs[j]?=Ga x/\l[j]?=Ga y/\DL g c x y/\c≠n0+5/\n0<=c)->Q (.ref (n0+5)) {s with heap:=g,toks:=u}):
  wpAny (Tc prog w) A (call (.type "list") [.ref (n0+4)]) Q E s:=by
 have D:=Ma (n:=n0) J K;have G:=K5 (A:=A.in1.in1) (S:=s.heap.objs.size) V D B C {by rw[a];exact Tx (DD _),by rw[a];exact Tx (by show n0+2<n0+5;exact Ed (by decide) _),by rw[a];exact Tx (by show n0+3<n0+5;exact Ed (by decide) _),by rw[a];exact Tx (SH (by decide)),by rw[a];exact Tx (by show n0+1<n0+5;exact Ed (by decide) _),by rw[a];exact Tx (Te J (TX _ _)),by rw[a];exact Tx (Te K (TX _ _))};refine sO (T:="zip") (hb:=Gf) G (λb hb=>?_) (by rw[a];exact DD _) Y (λP f q=>{.inl {Xb,f _ _ Z},f _ _ m,{_,_,f _ _ n},B.keep _ _ _ r λb _ o e=>f b o e,C.keep _ _ _ t λb _ o e=>f b o e,Xb,q,λj v p=>by simp at p}) (λh d i=>i.type) (by decide) (by decide) (λA E h Q i k=>?_) (λA E h Q i k=>CY i.type k) (λg u d c W L X M=>?_)
 .simp only[List.mem_cons,List.not_mem_nil,Sg]at hb;rw[a];rcases hb with h|h|h|h<;>rw[h]
  .exact DD _
  .exact Ed (by decide) _
  .exact SH (by decide)
  .exact Ed (by decide) _
 .rcases i.zip with⟨_,e⟩|⟨c,f,q,e,_⟩
  .exact wpAny_pyIter_zip e k
  .refine Su (s:={s with heap:=h}) {_,e,Xb} F.slot_zip_iter (Tz F.slot_zip_iter {_,e,Xb} F.entry_zip_iter ?_ (F.args_zip_iter_1 _));show wpAny _ _ (ret (.ref (n0+4))) _ _ _;exact Ge {_,Xb,"zip",_,{_,e,Xb},F.slot_zip_next.lookup,k}
 .rw[a]at L M⊢;refine U g u d c (λb o hb e=>W b o (λz=>?_) e) L X λj v p=>?_
  .simp only[List.mem_cons,List.not_mem_nil,Sg]at z;rcases z with h|h|h|h<;>rw[h]at hb
   .exact absurd hb (LM.mpr (TX _ _))
   .exact absurd hb (LM.mpr (TX _ _))
   .exact absurd hb (Dq _)
   .exact absurd hb (LM.mpr (TX _ _))
  .obtain⟨c,x,y,f,q,P,R,S,T⟩:=M j v p;exact{c,x,y,f,q,P,R,S,E5 (DV (TX _ _) T)}
end
end PySem
namespace L2
open PySem PySem.Spec PyProof.Rows
theorem zv.BJ{X:Cx}{a:List (Gc×Ef)}{l:List (Option V)}{H f:Hp}{s:Gk}{h:Heap}{m:Nat}(I:zv X a l H s)(k:∀b u,s.heap.get? b=Ga u->h.get? b=Ga u)(d:∀b,b<s.heap.objs.size->f b=H b)
  (i:∀b o,s.heap.objs.size<=b->f b=Ga o->Ym X.prog X.w f h b o):zv X a l f {s with heap:=h,toks:=m}:=by
 have g:∀b o,H b=Ga o->f b=Ga o:=λb o e=>by rw[d b (I.Z3 b o e).lt];exact e
 refine I.un {λb u q _ _ _=>k b u q,λb u q _ _ _=>{u.slots,k b u q},λb u q n _=>by rw[d b (Heap.lt_size q)];exact n,λb u q _=>{u,k b u q},λb p e=>g b _ e,λb o u e=>g b _ e,λb r e=>{#[],by rw[g b _ e];simp}} λb o e=>?_;by_cases j:b<s.heap.objs.size
 .rw[d b j]at e;exact(I.Z3 b o e).iB (λc u _ q=>k c u q) (λc q=>g c _ q) λc p q=>g c _ q
 .exact i b o (Fk j) e
def j7(H:Hp)(v:V)(p:V×V):Prop:=∃c,v=.ref c/\H c=Ga (.tup [p.1,p.2])
def Ka(K:Gd):List V->Hp->VK->Prop:=λa H Q=>∃p q xs ys,a=[.ref p,.ref q]/\((Za K H p xs/\Za K H q ys)\/(Q9 K H p xs/\Q9 K H q ys))/\
 ∀(r:Gc)(es:List V)(H':Hp),Q6 H H'->H r=Gh->H' r=Ga (.lst es)->Paired (j7 H') es (xs.zip ys)->Q (.ref r) H'
open Classical in
noncomputable def hP(H:Hp)(r:Gc)(es:List V)(xs ys:List V):Hp:=λb=>if b=r then Ga (.lst es)else if h:∃p:V×V,∃j:Nat,es[j]?=Ga (.ref b)/\xs[j]?=Ga p.1/\ys[j]?=Ga p.2 then Ga (.tup [(EO h).1,(EO h).2])else H b
section
variable{X:Cx}{zq:List (Gc×Ef)}{σ:St}{H:Hp}{s:Gk}
theorem vN{E:Heap}{tk c:Nat}{g:Nat}{e:Array Value}{l m:List V}{us ws:List Value}(T:zv X zq σ H s)(I:s.heap.objs.size=g)(rx:Z2 l us)(ry:Z2 m ws)(hk:∀a D,a<g->s.heap.get? a=Ga D->E.get? a=Ga D)
  (hS:E.get? (g+5)=Ga {cls:=.type "list",dict:=Gh,data:=.seq e c,slots:=#[]})(C:e.size=min us.length ws.length)(q:l.length<=Gj)
  (Y:∀(j:Nat)v,e.toList[j]?=Ga v->∃c x y,v=.ref c/\us[j]?=Ga x/\ws[j]?=Ga y/\DL E c x y/\c≠g+5/\g<=c):
  ∃d J,zv X zq σ J {s with heap:=E,toks:=tk}/\Q6 H J/\H (g+5)=Gh/\J (g+5)=Ga (.lst d)/\Paired (j7 J) d (l.zip m):=by
 have lx:=rx.length;have ly:=ry.length;have ex:∀j:Nat,j<e.size->∃c,e.toList[j]?=Ga (Value.ref c):=λj z=>by
  have b:e.toList[j]?=Ga e[j]:=by rw[T4,Tk z]
  obtain⟨c,x,y,f,_⟩:=Y j _ b;exact{c,by rw[b,f]}
 let d:List V:=(List.range e.size).map λj=>match e.toList[j]? with|some (Value.ref c)=>V.ref c|_=>V.non
 have U:∀(j:Nat)c,e.toList[j]?=Ga (Value.ref c)->d[j]?=Ga (V.ref c):=λj c b=>by
  have z:j<e.size:=by rw[<-TD];exact(List.getElem?_eq_some_iff.mp b).1
  show((List.range e.size).map _)[j]?=_;rw[List.getElem?_map,List.getElem?_range z,TV];simp only[b]
 have ad:∀(j:Nat)a,d[j]?=Ga (V.ref a)->e.toList[j]?=Ga (Value.ref a):=λj a b=>by
  have z:j<e.size:=by have:=(List.getElem?_eq_some_iff.mp b).1;simpa[d]using this
  obtain⟨c,K⟩:=ex j z;rw[U j c K]at b;cases b;exact K
 have W:d.length=e.size:=by simp[d]
 have lz:e.size=(l.zip m).length:=by rw[List.length_zip,C,lx,ly]
 have L:∀a(p:V×V)(j:Nat),d[j]?=Ga (.ref a)->l[j]?=Ga p.1->m[j]?=Ga p.2->∃u v,zu p.1 u/\zu p.2 v/\DL E a u v/\a≠g+5/\g<=a:=λa p j f k r=>by obtain⟨c,x,y,B,M,N,O,P,Q⟩:=Y j _ (ad j a f);cases B;obtain⟨u,q,R⟩:=rx.get k;obtain⟨v,A,S⟩:=ry.get r;rw[M]at q;cases q;rw[N]at A;cases A;exact⟨x,y,R,S,O,P,Q⟩
 have aa:∀a(p:V×V)(j:Nat),d[j]?=Ga (.ref a)->l[j]?=Ga p.1->m[j]?=Ga p.2->hP H (g+5) d l m a=Ga (.tup [p.1,p.2]):=λa p j f k r=>by obtain⟨u,v,r1,r2,n,o,_⟩:=L a p j f k r;have B:∃p:V×V,∃j:Nat,d[j]?=Ga (.ref a)/\l[j]?=Ga p.1/\m[j]?=Ga p.2:=⟨p,j,f,k,r⟩;unfold hP;rw[Gi o,dif_pos B];obtain⟨Q,M,N,O⟩:=S9 B;obtain⟨u',v',R,S,P,_⟩:=L a (EO B) Q M N O;have:({cls:=.type "tuple",data:=.seq #[u,v]}:Ef)={cls:=.type "tuple",data:=.seq #[u',v']}:=Ti (n.symm.trans P);injection this with _ _ q;injection q with q;injection q with q;injection q with F w;injection w with w;subst F w;rw[r1.inj R,r2.inj S]
 have ab:∀a,a<g->hP H (g+5) d l m a=H a:=λa o=>by unfold hP;rw[Gi (Tf (Te o (TX _ _))),dif_neg];rintro⟨p,j,f,k,r⟩;obtain⟨_,_,_,_,_,_,q⟩:=L a p j f k r;exact absurd o (LM.mpr q)
 have ac:∀a,g<=a->H a=Gh:=λa o=>T.Z3.fresh (by rw[I];exact o);exists d,hP H (g+5) d l m,?_,λa D b=>?_,ac _ (TX _ _),(by unfold hP;rw[Gp rfl])
 .refine T.BJ (λa u b=>hk a u (by rw[<-I];exact Heap.lt_size b) b) (λa o=>ab a (by rw[<-I];exact o)) λa D o b=>?_;by_cases F:a=g+5
  .subst F;have:D=.lst d:=by unfold hP at b;rw[Gp rfl]at b;exact(Ti b).symm
   subst this;refine{by rw[W,lz,List.length_zip];lia,e.toList,c,?_,by rw[D0];exact hS};have all:∀(h:List Value)(i:List V),h.length=i.length->(∀j:Nat,∀v,h[j]?=Ga v->∃c,v=.ref c/\i[j]?=Ga (V.ref c))->Z2 i h:=by
    intro h;induction h with
    |nil=>intro i q _;cases i with
     |nil=>exact .nil
     |cons _ _=>simp at q
    |cons v h Z=>intro i q G;cases i with
     |nil=>simp at q
     |cons x i=>obtain⟨t,f,k⟩:=G 0 v rfl;simp at k;subst f k;exact .cons rfl (Z i (by simpa using q) λj v A=>by have:=G (j+1) v (by simpa using A);simpa using this)
   refine all e.toList d (by rw[W,TD]) λj v A=>?_;obtain⟨t,x,y,f,_⟩:=Y j v A;subst f;exact{t,Xb,U j t A}
  .by_cases w:∃p:V×V,∃j:Nat,d[j]?=Ga (.ref a)/\l[j]?=Ga p.1/\m[j]?=Ga p.2
   .obtain⟨p,j,f,k,r⟩:=w;rw[aa a p j f k r]at b;cases b;obtain⟨u,v,r1,r2,n,_⟩:=L a p j f k r;exact{by show 2<=Gj;decide,[u,v],.cons r1 (.cons r2 .nil),_,n,Xb,_,Xb}
   .exfalso;unfold hP at b;rw[Gi F,dif_neg w,ac a (by rw[<-I];exact o)]at b;cases b
 .rw[ab a (by rw[<-I];exact(T.Z3 a D b).lt)];exact b
 .have all:∀(i:List V)(h:List (V×V)),i.length=h.length->(∀(j:Nat)p,h[j]?=Ga p->∃v,i[j]?=Ga v/\j7 (hP H (g+5) d l m) v p)->Paired (j7 (hP H (g+5) d l m)) i h:=by
   intro i;induction i with
   |nil=>intro h C _;cases h with
    |nil=>exact .nil
    |cons _ _=>simp at C
   |cons v i Z=>intro h C G;cases h with
    |nil=>simp at C
    |cons p h=>obtain⟨v',f,k⟩:=G 0 p rfl;simp at f;subst f;exact .cons k (Z h (by simpa using C) λj p n=>by have:=G (j+1) p (by simpa using n);simpa using this)
  refine all d (l.zip m) (by rw[W,lz]) λj p n=>?_;rw[List.getElem?_zip_eq_some]at n;have z:j<e.size:=by have F:=(List.getElem?_eq_some_iff.mp n.1).1;have w:=(List.getElem?_eq_some_iff.mp n.2).1;rw[lz,List.length_zip];lia
  obtain⟨t,K⟩:=ex j z;have:=U j t K;exact{.ref t,this,t,Xb,aa t p j this n.1 n.2}
end
section
variable{X:Cx}{a b:TZ}{ta:TA}{p1 p2 pos1 pos2:SV}
theorem uL(hc:X.calm=Gf)(ad:Gl X "list")(af:X.mg "list"=Gh)(ae:Gl X "zip")(ag:X.mg "zip"=Gh)(ha:PA X [a,b] ta)
  (T:Tj [RU (.Name "zip" p2) [a,b] [] pos2] X.env=(Gs,eval (.Call (.Name "zip" p2) [a,b] [] pos2) X.env)::Tj [] X.env:=by rfl)(ac:Tj [a,b] X.env=(Gs,eval a X.env)::Tj [b] X.env:=by rfl)
  (ah:(DS pos1 (Tj ([]:List TZ) X.env)).any (·.1)=Gs:=by rfl)(ai:(DS pos2 (Tj [b] X.env)).any (·.1)=Gs:=by rfl):
  PE X (.Call (.Name "list" p1) [.Call (.Name "zip" p2) [a,b] [] pos2] [] pos1) (tCB (Ka X.K) ta):=by
 intro al s am Y an v aa;refine Db (Ur v ad af boot_list ?_);refine callWith_type1 ?_ T ah;rw[T];show wpAny _ _ (spliced ((Gs,eval (.Call (.Name "zip" p2) [a,b] [] pos2) X.env)::DS pos1 (Tj ([]:List TZ) X.env))) _ _ s;refine Se ?_;refine Db (Ur v ae ag boot_zip ?_);refine callWith_type1 (Yx (ha pos2 al s am Y _ v aa) λS f⟨vs,H1,i,r1,q1⟩=>?_) ac ai;obtain⟨p,q,xs,ys,rfl,hq,V⟩:=q1;obtain⟨u,t,rfl,ru,rv⟩:=vals2 r1;cases(show u=Value.ref p from ru);cases(show t=Value.ref q from rv);have U:=i.ok.hd hc;rcases hq with⟨A,B⟩|⟨A,B⟩
 .obtain⟨S,o,g,aj⟩:=i.list A;obtain⟨W,R,h,ak⟩:=i.list B;have m:p<f.heap.objs.size:=by obtain⟨_,d,_⟩:=g.isList;exact Heap.lt_size d
  have n:q<f.heap.objs.size:=by obtain⟨_,d,_⟩:=h.isList;exact Heap.lt_size d
  have lx:=o.length;refine call_zip_2 g.isList h.isList λz Q D E G H O k=>EG ?_;refine wK (s:={f with heap:=z}) (n0:=f.heap.objs.size) U (sL (Tf m)) (sL (Tf (Te n (TX _ _)))) m n O Q D E {G,Heap.IsList.at g.isList (λe d=>k _ e d)} {H,Heap.IsList.at h.isList (λe d=>k _ e d)} (by rw[List.size_toArray,List.size_toArray];lia) λab tk Z c I C J L=>?_;obtain⟨x,l,w,y,K,N,M⟩:=vN (tk:=tk) i rfl o R (λb e F d=>I b e F (k b e d)) C (by simpa using J) (by lia) (λj t P=>by simpa using L j t P);exact{.ref (f.heap.objs.size+5),l,w,Xb,V _ x l y K N M}
 .obtain⟨S,o,g,aj⟩:=i.tuple A;obtain⟨W,R,h,ak⟩:=i.tuple B;have g:f.heap.IsTuple p S.toArray:=g;have h:f.heap.IsTuple q W.toArray:=h;have m:p<f.heap.objs.size:=by obtain⟨_,d,_⟩:=g;exact Heap.lt_size d
  have n:q<f.heap.objs.size:=by obtain⟨_,d,_⟩:=h;exact Heap.lt_size d
  have lx:=o.length;refine AN g h λz Q D E G H O k=>EG ?_;refine wK (s:={f with heap:=z}) (n0:=f.heap.objs.size) U (uJ (Tf m)) (uJ (Tf (Te n (TX _ _)))) m n O Q D E {G,let⟨e,d,r⟩:=g;{e,k _ e d,r}} {H,let⟨e,d,r⟩:=h;{e,k _ e d,r}} (by rw[List.size_toArray,List.size_toArray];lia) λab tk Z c I C J L=>?_;obtain⟨x,l,w,y,K,N,M⟩:=vN (tk:=tk) i rfl o R (λb e F d=>I b e F (k b e d)) C (by simpa using J) (by lia) (λj t P=>by simpa using L j t P);exact{.ref (f.heap.objs.size+5),l,w,Xb,V _ x l y K N M}
end
end L2
namespace PySem
theorem zI:typeLookup (.type "list_reverseiterator") "__len__"=pure Gh:=by rw[E3,Er];kernel_rfl
theorem Hh:typeLookup (.type "list_reverseiterator") "__length_hint__"=pure (Ga (.builtin "list_reverseiterator.__length_hint__")):=by rw[E3,Er];kernel_rfl
section
variable{prog:Gg}{w:Gu}{A:TQ}{E:Value->Gk->Prop}{s:Gk}
theorem K4{z:Gc}{Q:Bool->Gk->Prop}(b:s.TypeIs (.ref z) "list_reverseiterator")(h:Q Gs s):wpAny (Tc prog w) A (Builtin.List.listLengthHint (.ref z)) Q E s:=by
 unfold Builtin.List.listLengthHint;refine Gb (DQ b zI ?_);show wpAny _ A (specialOf (Value.ref z) (Dw "__length_hint__")>>=_) _ _ _;refine Gb (DQ b Hh ?_);generalize hid:("list_reverseiterator.__length_hint__":String)=c
 wp_delta
 rw[show splitId c=Ga ("list_reverseiterator","__length_hint__")from by subst hid;decide+kernel];subst hid;refine Gb (Ew (T:="list_reverseiterator") (b:=Gf) b (by rw[isSubtype_type];kernel_rfl) ?_);refine E2 (λa=>absurd a (by decide)) (λ_=>?_);refine E2 (λ_=>?_) (λa=>absurd (by decide+kernel) a);refine E2 (λa=>absurd a (by decide+kernel)) (λ_=>?_);exact Ge h
structure Px(xs:Array Value)(it l S:Gc)(i:Nat)(h:Heap)(acc:List Value):Prop where
 rv:h.IsRevIter it l ((xs.size:Int) - 1 - (i:Int))
 ls:h.IsList l xs
 acc:acc=xs.toList.reverse.take i
theorem CK{xs:Array Value}{f l S:Gc}(v:A.handled=Gh)(q:S≠f/\S≠l)(n:l≠f):lV prog w A f S [f] xs.size (Px xs f l S) (λ_ d=>d=xs.toList.reverse):=by
 refine{λi s d Q E x c j=>?_,λs d Q E c j=>?_,λi h g d c k _=>?_}
 .have r:xs[xs.size - 1 - i]?=Ga xs[xs.size - 1 - i]:=Tk (by ext);have e:(xs.size:Int) - 1 - (i:Int)=((xs.size - 1 - i:Nat):Int):=by ext
  have a:=c.rv;rw[e]at a;refine La a c.ls r λg p t=>?_;have y:xs.toList.reverse[i]?=Ga xs[xs.size - 1 - i]:=by rw[List.getElem?_reverse (by rw[TD];exact x),TD,T4];exact r
  refine j _ g s.toks {?_,c.ls.extBut t.extBut n,?_} λb o m e=>t.extBut b o (λz=>m (by simp[z])) e
  .have u:((xs.size - 1 - i:Nat):Int) - 1=(xs.size:Int) - 1 - ((i+1:Nat):Int):=by ext
   rw[<-u];exact p
  .rw[c.acc,List.take_add_one,y];rfl
 .have a:=c.rv;rw[show(xs.size:Int) - 1 - (xs.size:Int)= -1 by ext]at a;refine Lm v a λg p=>j g s.toks ?_ λb o m e=>p b o (λz=>m (by simp[z])) e;rw[c.acc,<-TD,<-List.length_reverse,List.take_length]
 .exact{c.rv.at λo e=>k f o (Gn q.1) e,c.ls.at λo e=>k l o (Gn q.2) e,c.acc}
end
end PySem
namespace L2
open PySem PySem.Spec PyProof.Rows
def Pm(K:Gd):List V->Hp->VK->Prop:=λa H Q=>∃p xs,a=[.ref p]/\Za K H p xs/\∀r,H r=Gh->Q (.ref r) (zj H r (.lst xs.reverse))
theorem yx:∀{b:List V}{a:List Value},Z2 b a->Z2 b.reverse a.reverse
 |_,_,.nil=>.nil
 |_,_,.cons h t=>by rw[List.reverse_cons,List.reverse_cons];exact(yx t).append (.cons h .nil)
theorem C7{X:Cx}{a:TZ}{T:TA}{p1 x k g:SV}(n:X.calm=Gf)(G:Gl X "list")(K:X.mg "list"=Gh)(J:Gl X "reversed")(L:X.mg "reversed"=Gh)(Z:PA X [a] T)
  (p:Tj [RU (.Name "reversed" x) [a] [] g] X.env=(Gs,eval (.Call (.Name "reversed" x) [a] [] g) X.env)::Tj [] X.env:=by rfl)(F:Tj [a] X.env=(Gs,eval a X.env)::Tj [] X.env:=by rfl)
  (M:(DS k (Tj ([]:List TZ) X.env)).any (·.1)=Gs:=by rfl)(N:(DS g (Tj ([]:List TZ) X.env)).any (·.1)=Gs:=by rfl):
  PE X (.Call (.Name "list" p1) [.Call (.Name "reversed" x) [a] [] g] [] k) (tCB (Pm X.K) T):=by
 intro l s V H Q I h;refine Db (Ur I G K boot_list ?_);refine callWith_type1 ?_ p M;rw[p];show wpAny _ _ (spliced ((Gs,eval (.Call (.Name "reversed" x) [a] [] g) X.env)::DS k (Tj ([]:List TZ) X.env))) _ _ s;refine Se ?_;refine Db (Ur I J L MA ?_);refine callWith_type1 (Yx (Z g l s V H _ I h) λus f⟨vs,W,w,r1,q1⟩=>?_) F N;obtain⟨b,xs,rfl,t,q⟩:=q1;obtain⟨u,rfl,ru⟩:=vals1 r1;cases(show u=Value.ref b from ru);obtain⟨d,S,O,hz⟩:=w.list t;have hl:=S.length;have P:b<f.heap.objs.size:=by obtain⟨_,e,_⟩:=O.isList;exact Heap.lt_size e
 refine LL O.isList (EG ?_);have j:(f.heap.push (revObj b ((d.toArray.size:Int) - 1))).objs.size=f.heap.objs.size+1:=Heap.size_push ..;have C:(f.heap.push (revObj b ((d.toArray.size:Int) - 1))).objs.size≠f.heap.objs.size:=by rw[j];exact Fo _
 have D:(f.heap.push (revObj b ((d.toArray.size:Int) - 1))).objs.size≠b:=by rw[j];exact Tx (L8 P)
 refine sO (s:={f with heap:=f.heap.push (revObj b ((d.toArray.size:Int) - 1))}) (T:="list_reverseiterator") (hb:=Gs) (CK (xs:=d.toArray) (l:=b) (w.ok.hd n) ⟨C,D⟩ (Tf P)) (λc n=>?_) (by show f.heap.objs.size<(f.heap.push _).objs.size;rw[j];exact DD _) (by rw[List.size_toArray];lia)
  (λh2 R _=>{?_,O.isList.at λo e=>R _ o (Heap.get?_push_of_some _ e),by simp}) (λh m v=>let⟨o,r,n,_⟩:=v.rv;⟨o,r,n⟩) (by decide) (by decide) (λA E h Q v t=>EW (s:={f with heap:=h}) v.rv t) (λA E h Q v t=>K4 (s:={f with heap:=h}) (let⟨o,r,n,_⟩:=v.rv;⟨o,r,n⟩) t) (λy U m c hk B aa r=>?_)
 .have e:c=f.heap.objs.size:=by simpa using n
  rw[e];show f.heap.objs.size<(f.heap.push _).objs.size;rw[j];exact DD _
 .have i:(d.toArray.size:Int) - 1 - ((0:Nat):Int)=(d.toArray.size:Int) - 1:=by lia
  rw[i];exact{_,R _ _ (Heap.get?_push_size _ Xb),Xb,Xb}
 .have B:y.get? (f.heap.push (revObj b ((d.toArray.size:Int) - 1))).objs.size=Ga {cls:=.type "list",dict:=Gh,data:=.seq m c,slots:=#[]}:=B;have i:f.heap.objs.size<=(f.heap.push (revObj b ((d.toArray.size:Int) - 1))).objs.size:=by rw[j];exact EE _
  have Y:zv X l V (zj W (f.heap.push (revObj b ((d.toArray.size:Int) - 1))).objs.size (.lst xs.reverse)) {f with heap:=y,toks:=U}:=
   w.laid (t':=U) (λc o e=>hk c o (λz=>by
    have:c=f.heap.objs.size:=by simpa using z
    exact absurd (Heap.lt_size e) (by rw[this];exact Dq _)) (Heap.get?_push_of_some _ e)) i
    (show Ym X.prog X.w _ y _ (.lst _)from{by rw[List.length_reverse];lia,m.toList,c,by rw[r];exact yx S,by rw[D0];exact B})
  exact{.ref (f.heap.push (revObj b ((d.toArray.size:Int) - 1))).objs.size,_,Y,Xb,q _ (w.Z3.fresh i)}
end L2
namespace Nt
inductive jH:Nat->List (Nat×Nat)->Nat->Prop
 |nil (p:Nat):jH p [] p
 |cons {p q z:Nat} {r:List (Nat×Nat)}:jH q r z->jH p ((p,q)::r) z
theorem yI:∀{l:List Nat}{p z:Nat},l.head?=Ga p->l.getLast?=Ga z->jH p (l.zip (l.drop 1)) z
 |[],_,_,h,_=>by simp at h
 |[x],p,z,a,b=>by simp at a b;subst a b;exact .nil _
 |x::y::r,p,z,a,b=>by simp at a;subst a;have c:=yI (l:=y::r) (p:=y) (z:=z) rfl (by rw[List.getLast?_cons_cons]at b;exact b);simp only[List.drop_succ_cons,List.drop_zero,List.zip_cons_cons]at c⊢;exact .cons c
theorem Ch.last{c:Nat->Option Nat}{p:Nat}{l:List Nat}(h:Ch c p l):∃a,l=a++[Z1 l]:=by have b:=h.ne;exists l.dropLast;unfold Z1;rw[List.getLastD_eq_getLast?,List.getLast?_eq_some_getLast b];exact(List.dropLast_concat_getLast b).symm
inductive O4(up:Nat->Option Nat)(one other:Nat)(st:List (Nat×Nat)):Prop
 |mk (l1:List Nat) (l2:List Nat) (P:List Nat) (Q:List Nat) (s:List Nat) (m:Nat) (h0:Ch up one l1) (h1:Ch up other l2) (h2:l1=P++m::s) (h3:l2=Q++m::s) (h4:(P=[]\/Q=[]\/P.getLast?≠Q.getLast?)) (h5:st=(P++m::Q.reverse).zip ((P++m::Q.reverse).drop 1)):O4 up one other st
theorem zh{P d s c:List Nat}{m g:Nat}(h:P++m::s=d++g::c)(f:s.length<c.length):∃u,P=d++g::u/\c=u++m::s:=by
 rcases List.append_eq_append_iff.mp h with⟨a,e,b⟩|⟨a,e,b⟩
 .have:=congrArg List.length b;simp at this;cases a with
  |nil=>simp at b;rw[b.2]at f;ext
  |cons y a=>simp at this;ext
 .cases a with
  |nil=>simp at b;rw[b.2]at f;ext
  |cons y a=>simp only[List.cons_append,List.cons.injEq]at b;exact{a,by rw[e,b.1],b.2}
theorem O4.uniq{D:Nat->Option Nat}{h c:Nat}{C i:List (Nat×Nat)}(a:O4 D h c C)(b:O4 D h c i):C=i:=by
 obtain⟨T,U,P,Q,s,m,F,G,H,I,t,rfl⟩:=a;obtain⟨J,K,j,k,d,g,l,n,o,p,w,rfl⟩:=b;have N:=F.uniq l;have O:=G.uniq n;subst N O;have q:P++m::s=j++g::d:=by rw[<-H,o]
 have r:Q++m::s=k++g::d:=by rw[<-I,p]
 have e:∀{P Q j k s d:List Nat}{m g:Nat},P++m::s=j++g::d->Q++m::s=k++g::d->(P=[]\/Q=[]\/P.getLast?≠Q.getLast?)->¬s.length<d.length:=λx y t f=>by
  obtain⟨u,A,L⟩:=zh x f;obtain⟨v,B,M⟩:=zh y f;have:u=v:=by have:=L.symm.trans M;exact List.append_cancel_right this
  subst this;rcases t with z|z|z
  .rw[A]at z;simp at z
  .rw[B]at z;simp at z
  .rw[A,B,List.getLast?_append,List.getLast?_append,List.getLast?_eq_some_getLast (List.cons_ne_nil _ _)]at z;exact z rfl
 have f:s.length=d.length:=by have x:=e q r t;have y:=e q.symm r.symm w;lia
 obtain⟨R,E⟩:=List.append_inj' q (by simp[f]);obtain⟨S,_⟩:=List.append_inj' r (by simp[f]);simp only[List.cons.injEq]at E;rw[R,S,E.1]
structure Way(x:gK W ρ)(one other:Nat)(st:List (Nat×Nat)):Prop where
 path:jH one st other
 lk:∀p q,(p,q)∈st->∃k,x.Xj p q=Ga k/\∀n,Cn (x.links.take n) one other->k<n
 len:st.length<=2*x.S.length
 rel:O4 x.up one other st
end Nt
namespace K03
open PySem L2 Sb Nt
def mo(H:Hp)(v:V)(p:Nat×Nat):Prop:=∃c,v=.ref c/\H c=Ga (.tup [jv p.1,jv p.2])
inductive vW(P:Gg)(w:Gu)(C:Gc)(vs:List V)(H:Hp)(Q:VK):Prop
 |mk (n:Gc) (A:Na) (fs:List Fm) (tb:Nat) (x:Nn) (one:Nat) (other:Nat) (h0:vs=[.ref n,jv one,jv other]) (h1:Z9 P w C H n A fs tb x) (h2:Wk (Yi fs) (Zq fs) x []) (h3:one∈x.S) (h4:other∈x.S) (h5:x.lead one=x.lead other) (h6:x.S.length<=1000) (h7:∀(r:Gc)(es:List V)(st:List (Nat×Nat))(H':Hp),Q6 H H'->H r=Gh->H' r=Ga (.lst es)->Paired (mo H') es st->Way x one other st->Q (.ref r) H'):vW P w C vs H Q
def pG(P:Gg)(w:Gu)(C:Gc):Sp:=λa H Q _=>vW P w C a H Q
theorem uX(P:List Nat)(a m:Nat):atI ((P++[a,m]).map jv) (-2:Int)=Ga (jv a):=by
 unfold atI ixN;rw[Gi (by decide),Gp (by simp;lia)];have e:((-2:Int)+(((P++[a,m]).map jv).length:Int)).toNat=P.length:=by simp;lia
 rw[e];simp
theorem AH(Q:List Nat)(m:Nat):Ja ((Q++[m]).map jv) Gh (Ga (-1:Int))=Q.map jv:=by
 unfold Ja;rw[HT.Ol];have e:HT.Wq ((Q++[m]).map jv).length ((Q++[m]).map jv).length (Ga (-1:Int))=Q.length:=by show(if(-1:Int)<0 then((-1:Int)+(((Q++[m]).map jv).length:Int)).toNat else min (-1:Int).toNat ((Q++[m]).map jv).length)=_;rw[Gp (by decide)];simp;lia
 rw[e];simp
theorem Ph(l:List V):Ja l (Ga 1) Gh=l.drop 1:=by
 cases l with
 |nil=>rfl
 |cons x r=>rw[gX];rfl
theorem p9{H:Hp}:∀{a:List V}{l m:List Nat},Paired (j7 H) a ((l.map jv).zip (m.map jv))->Paired (mo H) a (l.zip m)
 |_,[],m,h=>by simp at h;cases h;simp;exact .nil
 |_,x::l,[],h=>by simp at h;cases h;simp;exact .nil
 |_,x::l,y::m,h=>by
  simp only[List.map_cons,List.zip_cons_cons]at h⊢;cases h with
  |cons h t=>exact .cons h (p9 t)
section
variable{P:Gg}{w:Gu}{K:Gd}{mg:Tb->Option Value}{base:Heap}
theorem vj:Q3 ["self","one","other","climb","descent","stops"] ["self","one","other"] (Ql i4):=by eq_refl
set_option hygiene false
local macro_rules
 |`(tactic|infer_instance)=>`(tactic|(
 refine{_,Xb,_,Xb,_,Xb,_,Xb,{rd,_,Xb,Za.of ed,λr1 hr1'=>?_}}
 rw[AH]
 have z1:=Qk (o:=.lst (_root_.List.map jv Qq)) ec (Qd ec hr1')
 refine{r1,_,Xb,Za.of Qb,λr2 hr2'=>?_}
 have z2:=Qk (o:=.lst (_root_.List.map jv Qq).reverse) z1 (Qd z1 hr2')
 refine{rc,r2,_,_,Xb,Xb,z2,Qb,small (by rw[List.length_reverse,List.length_map,List.length_map,List.length_append];simp only[List.length_cons,List.length_nil];ext),λr3 hr3'=>?_}
 have ecat:List.map jv (Pp++[mm])++(List.map jv Qq).reverse=(Pp++mm::Qq.reverse).map jv:=by simp
 rw[ecat]
 dsimp only[V2]
 refine{_,Xb,_,Xb,{_,Xb,{r3,_,Xb,Za.of Qb,λr4 hr4'=>?_}}}
 rw[Ph]
 have n34:r3≠r4:=Qd Qb hr4'
 have s5:Q6 H3 (zj (zj (zj (zj H3 r1 (.lst (List.map jv Qq))) r2 (.lst (List.map jv Qq).reverse)) r3 (.lst ((Pp++mm::Qq.reverse).map jv))) r4 (.lst (((Pp++mm::Qq.reverse).map jv).drop 1))):=((Qf hr1' _).trans (Qf hr2' _)).trans ((Qf hr3' _).trans (Qf hr4' _))
 refine{r3,r4,_,_,Xb,.inl {Za.of (Qk Qb n34),Za.of Qb},λr es H' sm r0 hr' pr=>?_}
 rw[<-List.map_drop]at pr
 exact q r es _ H' (g3.trans (s5.trans sm)) (g3.free (s5.free r0)) hr' (p9 pr) {yI hone hoth,λp q' hm=>I.fst.way h1 h2 k1 k2 hne p q' hm,by rw[List.length_zip,List.length_append,List.length_cons,List.length_reverse];ext,_,_,_,_,_,_,h1,h2,k1,k2,hne,Xb}))
set_option hygiene true
theorem OI{ab fU Q:Gc}{fd ac:Tq}(F:We K "way" "Net.way" i4 ab fd)(T:Ut K mg Q)(A:J2 mg)(mU:Ye K Q "way_up" fU)(GU:Qy P w K mg base Z5 1 fU ac ["self","place"] (uQ P w Q))(bU:zk K ac ["self","place"] []):
  Qy P w K mg base Z5 2 ab fd ["self","one","other"] (pG P w Q):=by
 refine F.ok vj (λvs H ah ag h=>?_) (λar O aw s H vs ah ag d h=>?_)
 .obtain⟨n,O,Y,tb,x,C,y,rfl,_⟩:=h;rfl
 obtain⟨n,O,Y,tb,x,C,y,rfl,X,I,oS,tS,he,hS,q⟩:=h;have ad:Yd 1 _:=d.mono (by ext);have nd:=vj.nd;show∃t,Ia ?my _ t/\_;let w5:Xk ?my i4 4:={_,Qh (Qt (uL rfl rfl A.list rfl A.zip (Qa (pv 5) (Qa (Yc U1 (pv 5) (Yk Qi) Xo) Qe))))}
 let w4:Xk ?my i4 3:={_,Qc (Qz 5 nd (Zt V0 (pv 3) (C7 rfl rfl A.list rfl A.reversed (Qa (Yc U1 (pv 4) Xo (Yk (Jf Vn Qi))) Qe)))) w5.2}
 let w3:Xk ?my i4 2:=⟨_,Qc (Vd Gy (PW.pt (Ir (Qn jY (Qp Zs rfl A.len Gx (Qa (pv 3) Qe)) Qi (Qr _)) (Ir (Qn jY (Qp Zs rfl A.len Gx (Qa (pv 4) Qe)) Qi (Qr _))
    (Jl (Qn Xn (Qm Zc (pv 3) (Jf Vn Qi)) (Qm Zc (pv 4) (Jf Vn Qi)) (Qr _))))))
   (Qc (Zj (jx Gv DB DC jr (pv 3)))
   (Qh (Zj (jx Gv DB DC jr (pv 4)))))) w4.2⟩
 let w2:Xk ?my i4 1:={_,Qc (Qz 4 nd (Zh (pv 0) T.cl mU GU ad bU .nil Q7 (Qa (pv 2) Qe))) w3.2}
 exists _,Qc (Qz 3 nd (Zh (pv 0) T.cl mU GU ad bU .nil Q7 (Qa (pv 1) Qe))) w2.2;obtain⟨B,h1⟩:=I.fst.chain C oS;obtain⟨J,h2⟩:=I.fst.chain y tS;have sub1:=I.fst.chS h1 oS;have af:=I.fst.chS h2 tS;have au:=Xt h1.nodup sub1;have av:=Xt h2.nodup af;obtain⟨dx,o1⟩:=X.ob;refine{_,Xb,n,dx,_,Xb,o1,u7 _,_,Xb,n,O,Y,tb,x,C,B,Xb,X,h1,sub1,by ext,λrc H1 R c1 e1=>?_};refine{_,Xb,n,dx,_,Xb,R _ _ o1,u7 _,_,Xb,n,O,Y,tb,x,y,J,Xb,X.same R,h2,af,by ext,λrd H2 g2 d2 e2=>?_};have an:=R.trans g2;have aq:H rd=Gh:=R.free d2;have ae:rc≠rd:=Qd e1 d2;have er:Z1 B=Z1 J:=(I.root C y B J oS tS h1 h2).mp he;obtain⟨P0,f1⟩:=h1.last;obtain⟨Q0,f2⟩:=h2.last;dsimp only[V2];exists λm σ H3=>hA λ(Pp Qq S:List Nat)(mm:Nat)=>iQ (m=Pp.length) (B=Pp++mm::S) (J=Qq++mm::S) (σ=[Ga (.ref n),Ga (jv C),Ga (jv y),Ga (.ref rc),Ga (.ref rd),Gh]) (Q6 H H3) (H3 rc=Ga (.lst ((Pp++[mm]).map jv))) (H3 rd=Ga (.lst ((Qq++[mm]).map jv))),
  {_,P0,Q0,[],Z1 B,Xb,f1,by rw[er];exact f2,Xb,an,by rw[<-f1];exact g2 _ _ e1,by rw[er,<-f2];exact e2}
 rintro m σ H3 ⟨Pp,Qq,S,mm,rfl,k1,k2,rfl,g3,ec,ed⟩;have lc:((Pp++[mm]).map jv).length=Pp.length+1:=by simp
 have ld:((Qq++[mm]).map jv).length=Qq.length+1:=by simp
 have lP:Pp.length+1<=B.length:=by rw[k1];simp
 have lQ:Qq.length+1<=J.length:=by rw[k2];simp
 have hone:(Pp++mm::Qq.reverse).head?=Ga C:=by
  obtain⟨r,d⟩:=h1.head;rw[k1]at d;cases Pp with
  |nil=>simp at d⊢;exact d.1
  |cons a Pp=>simp at d⊢;exact d.1
 have hoth:(Pp++mm::Qq.reverse).getLast?=Ga y:=by
  obtain⟨r,d⟩:=h2.head;rw[k2]at d;rw[List.getLast?_append];have:(mm::Qq.reverse).getLast?=Ga y:=by
   cases Qq with
   |nil=>simp at d⊢;exact d.1
   |cons a Qq=>simp at d;rw[List.reverse_cons,<-List.cons_append,List.getLast?_concat,d.1]
  rw[this];rfl
 exists _,Xb,rc,_,Xb,.inl (Za.of ec),_,_,Xb,Xb,_,Xb;rw[lc];by_cases E:Pp=[]
 .have hne:Pp=[]\/Qq=[]\/Pp.getLast?≠Qq.getLast?:=.inl E;rw[Gr (by rw[E];decide)];refine Q5 (Q5 ?_);infer_instance
 rw[Gw (by have:0<Pp.length:=List.length_pos_iff.mpr E;ext)];refine Yp {_,Xb,rd,_,Xb,.inl (Za.of ed),_,_,Xb,Xb,_,Xb,?_};rw[ld];by_cases G:Qq=[]
 .have hne:Pp=[]\/Qq=[]\/Pp.getLast?≠Qq.getLast?:=.inr (.inl G);rw[Gr (by rw[G];decide)];refine Q5 (Q5 ?_);infer_instance
 rw[Gw (by have:0<Qq.length:=List.length_pos_iff.mpr G;ext)];subst_vars;obtain⟨f,a,U⟩:∃f a,Pp=f++[a]:={Pp.dropLast,Pp.getLast E,(List.dropLast_concat_getLast E).symm};obtain⟨g,b,W⟩:∃g b,Qq=g++[b]:={Qq.dropLast,Qq.getLast G,(List.dropLast_concat_getLast G).symm};and_intros;have ak:H3 rc=Ga (.lst ((f++[a,mm]).map jv)):=by rw[ec,U];simp
 have am:H3 rd=Ga (.lst ((g++[b,mm]).map jv)):=by rw[ed,W];simp
 refine Yp {_,Xb,{_,Xb,rc,_,_,_,Xb,Xb,Za.of ak,uX _ _ _,_,Xb,{_,Xb,rd,_,_,_,Xb,Xb,Za.of am,uX _ _ _,Xb,_,Xb,?_}}};rw[lG];by_cases Z:a=b
 .subst Z;subst U W;rw[Gw rfl];refine Yp {_,λ_ _ h=>h,?_};have ao:((f++[a]++[mm]).map jv)[((f++[a]++[mm]).map jv).length - 1]?=Ga (jv mm):=by simp
  have ap:((g++[a]++[mm]).map jv)[((g++[a]++[mm]).map jv).length - 1]?=Ga (jv mm):=by simp
  have ai:((f++[a]++[mm]).map jv).dropLast=(f++[a]).map jv:=by rw[List.map_append (l₂:=[mm])];simp
  have aj:((g++[a]++[mm]).map jv).dropLast=(g++[a]).map jv:=by rw[List.map_append (l₂:=[mm])];simp
  exists _,Xb,.inl {Xb,_,Za.of ec},rc,_,_,Xb,Xb,ec,ao;rw[ai];have aa:(zj H3 rc (.lst ((f++[a]).map jv))) rd=Ga (.lst ((g++[a]++[mm]).map jv)):=by rw[Qg (Gn ae)];exact ed
  exists _,Xb,.inl {Xb,_,Za.of aa},rd,_,_,Xb,Xb,aa,ap;rw[aj];refine{f.length,by simp,f,g,mm::S,a,Xb,by rw[k1];simp,by rw[k2];simp,Xb,λc o e=>?_,?_,Qb}
  .rw[Qg (Qd e aq),Qg (Qd e c1)];exact g3 c o e
  .rw[Qg ae,Qb]
 .have hne:Pp=[]\/Qq=[]\/Pp.getLast?≠Qq.getLast?:=.inr (.inr (by rw[U,W,List.getLast?_concat,List.getLast?_concat];intro z;exact Z (Ti z)));rw[Gr Z];refine Q5 ?_;infer_instance
end
end K03
namespace PySem
section
variable{prog:Gg}{w:Gu}{A:TQ}{E:Value->Gk->Prop}{s:Gk}{d v:Gc}{es:Array Eo}{ep:Nat}
theorem C5{Q:Value->Gk->Prop}(f:s.heap.IsValuesView v d)(j:s.heap.J1 d es ep)
  (h:Q (.ref s.heap.objs.size) {s with heap:=s.heap.push {cls:=.type "dict_valueiterator",data:=.fields #[.ref d,.int 0 0,.int es.size 0,.int ep 0]}}):
  wpAny (Tc prog w) A (pyIter (.ref v)) Q E s:=by
 obtain⟨ov,e,i,c⟩:=id f;obtain⟨o,g,k,a⟩:=id j;refine Su f.typeIs F.slot_dict_values_iter (Tz F.slot_dict_values_iter f.typeIs F.entry_dict_values_iter ?_ (F.args_dict_values_iter_1 _));unfold Builtin.«dict_values.__iter__»;refine Gb (Ge ?_);refine Gb ?_;unfold Builtin.Dict_items.dictOf;refine Gb (TF e c (x:=.ref d) rfl (Ge ?_));refine Gb ?_;unfold Builtin.Dict_items.newIterator;refine Gb (Dx g a ?_);refine Gb (Ej g a ?_);have b:Builtin.Dict_items.ownsTuple "dict_valueiterator"=Gs:=by decide
 simp only[b,TH,Do];refine TB (Ge {_,Xb,"dict_valueiterator",_,{_,Heap.get?_push_size _ Xb,Xb},F.slot_dict_valueiterator_next.lookup,?_});simpa[rawInt]using h
theorem C6{c:Gc}{i:Nat}{e:Eo}{Q:Option Value->Gk->Prop}(a:s.heap.IsValIter c d i es.size ep)(u:s.heap.J1 d es ep)(m:es[i]?=Ga e)
  (p:∀h,h.IsValIter c d (i+1) es.size ep->Heap.SameBut c s.heap h->Q (Ga e.val) {s with heap:=h}):
  wpAny (Tc prog w) A (pyNext (.ref c)) Q E s:=by
 obtain⟨o,n,q,l⟩:=id a;obtain⟨v,j,r,g⟩:=id u;unfold pyNext;refine Gb (ES (TL (name:=Dw "__next__") a.typeIs F.slot_dict_valueiterator_next
  (Tz F.slot_dict_valueiterator_next a.typeIs F.entry_dict_valueiterator_next ?_ (F.args_dict_valueiterator_next_1 _))))
 refine Gb (Ge ?_);refine Gb ?_;refine Gb ?_;first|refine Gb (DM a.typeIs (Ge ?_))|refine Gb (Ea a.typeIs (Ge ?_))
 refine Gb (Sh n l ?_);have k:Builtin.Dict_items.ownsTuple "dict_valueiterator"=Gs:=by decide
 simp only[k,TH,Do];show wpAny _ _ (if(Value.ref d==Value.none)=Gf then _ else _) _ _ s;rw[Gi (show¬((Value.ref d==Value.none)=Gf)from GJ)];refine Gb (Ge ?_);refine Gb (Dx j g ?_);rw[Gi (by simp)];refine Gb (Ge ?_);refine Gb (Ej j g ?_);rw[Gi (by simp)];refine Ge ?_;have f:i<es.size:=by
  rcases Tp i es.size with h|h
  .exact h
  .rw[Dh h]at m;cases m
 have t:es[i]=e:=by rw[Tk f]at m;exact Ti m
 simp only[show¬((i:Int)<0)from by lia,Do,Dk,Tk f];refine Gb ?_;first|refine Gb (DM a.typeIs (Ge ?_))|refine Gb (Ea a.typeIs (Ge ?_))
 refine Gb (EM a.typeIs ?_);show wpAny _ _ (setField (.ref c) 1 (rawInt ((i:Int)+1))>>=_) _ _ s;refine Gb (Eu n l (by simp) ?_);have b:(s.heap.update c (ET (·.setIfInBounds 1 (rawInt ((i:Int)+1))))).IsValIter c d (i+1) es.size ep:=
  {_,Heap.get?_update_self _ n (EL (DW l _)),(Sw ..).trans q,by rw[DW l];simp[rawInt]}
 refine Gb (T1 ?_);refine Gb (EM (s:={s with heap:=s.heap.update c (ET (·.setIfInBounds 1 (rawInt ((i:Int)+1))))}) b.typeIs ?_);refine Gb (EM (s:={s with heap:=s.heap.update c (ET (·.setIfInBounds 1 (rawInt ((i:Int)+1))))}) b.typeIs ?_);show wpAny _ _ (pure es[i].val) _ _ _;rw[t];exact Ge (Ge {_,Xb,Ge (p _ b (Heap.SameBut.update ..))})
theorem K7{f:Gc}{i:Nat}{Q:Option Value->Gk->Prop}(n:A.handled=Gh)(a:s.heap.IsValIter f d i es.size ep)(p:s.heap.J1 d es ep)(g:es.size<=i)
  (l:∀h,Heap.ExtBut f s.heap h->Q Gh {s with heap:=h}):wpAny (Tc prog w) A (pyNext (.ref f)) Q E s:=by
 obtain⟨o,k,h,j⟩:=id a;obtain⟨q,c,m,b⟩:=id p;unfold pyNext;refine Gb (ES (TL (name:=Dw "__next__") a.typeIs F.slot_dict_valueiterator_next
  (Tz F.slot_dict_valueiterator_next a.typeIs F.entry_dict_valueiterator_next ?_ (F.args_dict_valueiterator_next_1 _))))
 refine Gb (Ge ?_);refine Gb ?_;refine Gb ?_;first|refine Gb (DM a.typeIs (Ge ?_))|refine Gb (Ea a.typeIs (Ge ?_))
 refine Gb (Sh k j ?_);have e:Builtin.Dict_items.ownsTuple "dict_valueiterator"=Gs:=by decide
 simp only[e,TH,Do];show wpAny _ _ (if(Value.ref d==Value.none)=Gf then _ else _) _ _ s;rw[Gi (show¬((Value.ref d==Value.none)=Gf)from GJ)];refine Gb (Ge ?_);refine Gb (Dx c b ?_);rw[Gi (by simp)];refine Gb (Ge ?_);refine Gb (Ej c b ?_);rw[Gi (by simp)];refine Ge ?_;simp only[show¬((i:Int)<0)from by ext,Do,Dk,Dh g];refine Gb ?_;first|refine Gb (DM a.typeIs (Ge ?_))|refine Gb (Ea a.typeIs (Ge ?_))
 show wpAny _ _ (setField (.ref f) 0 .none>>=_) _ _ s;refine Gb (Eu k j (by simp) ?_);show wpAny _ _ (newExc (.type "StopIteration") []>>=_) _ _ _;refine Gb ?_;simp only[newExc,newTuple];refine Gb (TB ?_ (by size_fits));refine Gb (m:=firstArgMember _ _) (Fp (a:=Value.none) (by first|rfl|(simp only[firstArgMember];rfl)) ?_);refine TB ?_ (by size_fits);simp only[raiseNew];refine Gb (LA ?_);rw[show A.in1.handled=Gh from n];refine Gb (Ge (Fq ?_));refine Gb (Ew (T:="StopIteration") (b:=Gf) {_,Heap.get?_push_size _ Xb,Xb} Lj ?_);exact Ge (l _ (((Heap.SameBut.update ..).extBut.push _).push _))
theorem Walks.HJ(t:A.handled=Gh)(I d:Gc)(n:d≠I)(c:Array Eo)(p:Nat):
  Walks prog w A I [I,d] [I] c.size (λi v=>∃e,c[i]?=Ga e/\v=e.val) (λi h=>h.IsValIter I d i c.size p/\h.J1 d c p) where
 sub:=λb f=>by simp at f;simp[f]
 frame:=λ_ _ _ a q=>{a.1.at λo e=>q I (by simp) o e,a.2.at λo e=>q d (by simp) o e}
 item:=λi s Q E u a g=>by have r:c[i]?=Ga c[i]:=Tk u;refine C6 a.1 a.2 r λl j k=>?_;exact g _ l s.toks {_,r,Xb} {j,a.2.at λo e=>(k.2 d n).trans e} λb o f e=>k.extBut b o (λh=>f (by simp[h])) e
 done:=λs Q E a g=>K7 t a.1 a.2 (Gm _) λl m=>g l s.toks λb o f e=>m b o (λh=>f (by simp[h])) e
 self:=λ_ _ _ _ a g=>wpAny_pyIter_valiter a.1 g
theorem ID:FG prog w "dict_values" v d es.size (λi x=>∃e,es[i]?=Ga e/\x=e.val) (λh=>h.IsValuesView v d/\h.J1 d es ep) where
 type:=λ_ a=>a.1.typeIs
 there:=λ_ a=>{let⟨_,ho,_⟩:=a.1;Heap.lt_size ho,a.2.lt}
 keep:=λ_ _ a c=>{let⟨o,ho,x⟩:=a.1;{o,c v (.inl Xb) o ho,x},a.2.at λo e=>c d (.inr Xb) o e}
 notList:=by decide
 notTuple:=by decide
 hint:=λ_ _ _ _ a b=>MK a.1.typeIs b
 iter:=λ_ _ f a=>{_,_,(λ_ _ b=>C5 a.1 a.2 b),Walks.HJ f _ d (Tf a.2.lt) es ep,{{_,Heap.get?_push_size _ Xb,Xb,Xb},a.2.at λo e=>Heap.get?_push_of_some _ e}}
end
end PySem
namespace L2
open PySem PySem.Spec PyProof.Rows
variable{P:Gg}{w:Gu}{H:Hp}{X:Cx}{σ:St}{a:Gc}{zw:List (X7×V)}{tg:TZ}
def vvw(v d:Gc):HO:=.ext λh=>h.IsValuesView v d
theorem Ag{h:Heap}{v d:Gc}(x:h.IsValuesView v d):Ym P w H h v (vvw v d):=by
 exists x,?_
 .obtain⟨o,a,_⟩:=x;exact⟨o,a⟩
 .rintro b c ⟨o,a,r⟩ k;exact{o,k o a,r}
section
variable{X:Cx}{o:TZ}{to:TE}{name:Tb}{apos cpos:SV}{id:String}{r:V->List V->Hp->VK->Prop}
def OK(P:Gg)(w:Gu)(r:V->List V->Hp->VK->Prop)(to:TE):TE:=λσ H Q=>to σ H λx H1=>(∃d zw,x=.ref d/\H1 d=Ga (V5 P w d zw))/\r x [] H1 Q
theorem Cw(slot:Slot "dict" name id)(e:typeOf (.builtin id)=pure (.type "method_descriptor"))(m:hH X id r)(n:PE X o to)
  (b:attributeBase o name X.env (eval o X.env)=eval o X.env:=by rfl)(c:(apos.endLine==cpos.line)=Gf:=by rfl):PE X (.Call (.Attribute o name apos) [] [] cpos) (OK X.prog X.w r to):=by
 intro a s g H Q I h;refine SF b c (Yx (n a s g H _ I h) λv u⟨x,i,f,t,ty,q⟩=>?_);obtain⟨d,p,rfl,j⟩:=ty;cases(show v=Value.ref d from t);obtain⟨k,l⟩:=tR f j;exact{"dict",id,Ee,slot,e,k,l,Eh rfl (Ls (m a u g i (.ref d) [] _ [] Q f rfl .nil q))}
inductive yE(P:Gg)(w:Gu)(x:V)(vs:List V)(H:Hp)(Q:VK):Prop
 |mk (d:_) (zw:_) (h0:x=.ref d) (h1:vs=[]) (h2:DH P w H d zw) (h3:∀v,H v=Gh->Q (.ref v) (zj H v (vvw v d))):yE P w x vs H Q
def K1(P:Gg)(w:Gu):V->List V->Hp->VK->Prop:=λx a H Q=>yE P w x a H Q
theorem BE:hH X "dict.values" (K1 X.prog X.w):=by intro c s y H x u v t Q I l k h;obtain⟨d,i,rfl,rfl,D,q⟩:=h;cases(show v=Value.ref d from l);cases k;obtain⟨z,g,w,j,o,n,m,e,f,p,r,a⟩:=jt I D.at_;have b:s.TypeIs (.ref d) "dict":={o,e,f.1};refine Tz SD b Mb ?_ (FL _);refine Gb ?_;unfold Builtin.Dict.noArgs;refine Gb (EK b ?_);show wpAny _ _ (pure d) _ _ s;refine Ge ?_;show wpAny _ _ (Builtin.Dict.showsAll d>>=_) _ _ s;unfold Builtin.Dict.showsAll;rw[Gi (by rw[g];exact GJ)];refine Gb (Ge ?_);refine Gb (TB (Ge {_,Xb,?_}));exact{.ref s.heap.objs.size,_,I.laid (a:=s.heap.objs.size) (o:=vvw s.heap.objs.size d) (t':=s.toks) (λ_ _ q=>Heap.get?_push_of_some _ q) (Gm _) (Ag {_,Heap.get?_push_size _ Xb,Xb,Xb}),Xb,q _ (I.Z3.fresh (Gm _))}
theorem CM(L:X.calm=Gf):Um X (.type "list") (λxs H Q=>∃v d b,xs=[.ref v]/\H v=Ga (vvw v d)/\DH X.prog X.w H d b/\∀l,H l=Gh->Q (.ref l) (zj H l (.lst (b.map λp=>p.2.2)))):=by
 intro m s R H xs V Q I r h;obtain⟨v,d,b,rfl,l,D,q⟩:=h;obtain⟨u,rfl,O⟩:=vals1 r;cases(show u=Value.ref v from O);obtain⟨z,T,P,n,o,es,ep,F,G,J,w,j⟩:=jt I D.at_;have x:s.heap.IsValuesView v d:=(I.Z3 v _ l).1;have e:es.size=b.length:=by rw[Gq n,<-List.length_map (f:=entryOfKey (Vp X.prog X.w)),<-w,TD]
 refine Fn (ID (es:=es) (ep:=ep)) (I.ok.hd L) ⟨x,o,F,G,J⟩ (by rw[e];exact z) λy B a E N K c=>?_;have g:(b.map λp=>p.2.2).length<=Gj:=by rw[List.length_map];exact z
 have l:Z2 (b.map λp=>p.2.2) a.toList:=by
  have k:es.toList.map (·.val)=P.map λq=>q.2.2:=by rw[w,List.map_map];rfl
  have f:a.toList=es.toList.map (·.val):=by
   refine List.ext_getElem? λi=>?_;by_cases A:i<a.size
   .obtain⟨S,M,l⟩:=c.2 i a[i] (Tk A);rw[T4,Tk A,List.getElem?_map,T4,M,l];rfl
   .have M:=c.1;rw[List.getElem?_eq_none (by simp;lia),List.getElem?_eq_none (by simp;lia)]
  rw[f,k];clear q z w k f g e c D j;induction n with
  |nil=>exact .nil
  |@cons p q S U A t M=>rw[List.map_cons,List.map_cons];exact .cons A.2.2 M
 have C:zv X m R (zj H s.heap.objs.size (.lst (b.map λp=>p.2.2))) {s with heap:=y,toks:=B}:=
  I.laid (t':=B) N (Gm _) (show Ym X.prog X.w _ y _ (.lst _)from{g,a.toList,E,l,by rw[D0];exact K})
 exact{.ref s.heap.objs.size,_,C,Xb,q _ (I.Z3.fresh (Gm _))}
end
def xg:HO->Prop
 |.dK _=>True
 |.frz _ (.dK _)=>True
 |_=>False
theorem zv.swap{g:List (Gc×Ef)}{s:Gk}{u j:HO}(I:zv X g σ H s)(e:H a=Ga u)(k:xg u)(b:xg j)(D:∀o v,X.H₀ a≠Ga (.frz o v))(l:Ym X.prog X.w (zj H a j) s.heap a j):zv X g σ (zj H a j) s:=by
 have i:∀b,H b=Gh->b≠a:=λb d z=>by rw[z,e]at d;cases d
 have w:∀b f,H b=Ga (.tup f)->b≠a:=λb f d z=>by rw[z,e]at d;cases d;exact k
 have E:∀b y,H b=Ga (.own y)->b≠a:=λb f d z=>by rw[z,e]at d;cases d;exact k
 have F:∀b r,H b=Ga (.tbl r)->b≠a:=λb f d z=>by rw[z,e]at d;cases d;exact k
 refine{I.ok,I.os,I.bare,{I.base.keep,I.base.slot,λb o A n C=>?_,I.base.there,λb f h=>?_,λb o v h=>?_,λb r h=>?_},I.loc,I.cell,?_,λx c h=>?_,λp h=>?_,λb o h=>?_,I.len}
 .have:=I.base.free b o A n C;rw[Qg (i b this)];exact this
 .have:=I.base.Qs b f h;rw[Qg (w b f this)];exact this
 .have m:b≠a:=λz=>D o v (z▸h);rw[Qg m];exact I.base.O2 b o v h
 .obtain⟨m,t⟩:=I.base.Qcd b r h;exact{m,by rw[Qg (F _ _ t)];exact t}
 .rw[Qg (i _ I.free)];exact I.free
 .rw[Qg (i _ (I.Jx x c h))];exact I.Jx x c h
 .obtain⟨t,m,B⟩:=I.pin p h;exact{t,by rw[Qg (i _ m)];exact m,B}
 .by_cases d:b=a
  .subst d;rw[Qb]at h;cases h;exact l
  .rw[Qg d]at h;exact(I.Z3 b o h).iB (λc v _ q=>q) (λc q=>by rw[Qg (E c b q)];exact q) λc f q=>by rw[Qg (w c f q)];exact q
def fz(o:Ef)(zw:List (X7×V)):HO:=.frz o (.dK zw)
theorem Cb{b:Hp}{h:Heap}(x:Ym P w H h a (.dK zw)):Ym P w b h a (.dK zw):=x
def j9(a:Gc)(o:Ef)(zw:List (X7×V)):It:={λi H=>i<zw.length/\H a=Ga (fz o zw),λi H x H'=>H'=H/\∃p,zw[i]?=Ga p/\x=kV p.1,λi H=>zw.length<=i/\H a=Ga (fz o zw)}
theorem Cf{k:X7}{u:Value}(h:iX k u=Gf):zu (kV k) u:=by
 rcases Xf h with⟨i,t,rfl,rfl⟩|⟨x,t,rfl,rfl⟩
 .exact⟨t,Xb⟩
 .exact⟨t,Xb⟩
theorem OO{c:List (X7×Value)}(r:KV zw c){i:Nat}{p:X7×V}(h:zw[i]?=Ga p):∃u,c[i]?=Ga (p.1,u):=by
 unfold KV at r;induction r generalizing i with
 |nil=>simp at h
 |@cons a b g k e t f=>
  cases i with
  |zero=>simp at h;subst h;obtain⟨j,d⟩:=b;exact{d,by simp[e.1]}
  |succ i=>simp only[List.getElem?_cons_succ]at h⊢;exact f h
theorem Cu{K:Gd}(a f:Gc)(b:Ef)(n:List (X7×V))(D:Array Eo)(t:Nat)(y:b.data=.dict D t):ig P w K tg (j9 a b n) [f] f (λi h=>h.IsKeyIter f a i n.length t) where
 mem:=by simp
 obj:=λi h g j l=>by
  have e:j=f:=by simpa using l
  subst e;obtain⟨b,e,c,d⟩:=g;exact{b,e,λR z=>by rw[d]at z;cases z}
 keep:=λi h v g k=>g.at λb e=>k f (by simp) b e
 item:=by
  intro X L hw J T i Y s Z B aa m x g N;subst L hw J;obtain⟨U,O⟩:=N;obtain⟨o,z,hd,A,r,C⟩:=m.Z3 a _ O;obtain⟨ab,o',ac,q,M,p,Q⟩:=C.dictAt;rw[o]at q;cases q;rw[y]at p;cases p;have W:n[i]?=Ga n[i]:=List.getElem?_eq_getElem U;obtain⟨u,hu⟩:=OO r W;obtain⟨E,F,f2,G,H,I⟩:=x f (by simp);have S:s.heap.IsKeyIter f a i A.length t:=by rw[<-r.length];exact g
  refine wpAny_pyNext_dict_item (knd:=Yt X.prog X.w) S ⟨b,D,o,M,y,Q⟩ hu λad v hk R sb=>?_;have I1:zv X Y Z B {s with heap:=v}:=m.turned (t':=s.toks) (λj b l e=>(sb.2 j l).trans e) E F G H I;rw[<-r.length]at R;obtain⟨o2,e2,c2,d2⟩:=id R;exact{ad,Xb,jc (s:={s with heap:=v}) e2 c2 d2 (by decide) {kV n[i].1,B,I1,Cf hk,{Xb,_,W,Xb},R,λj l=>(x j l).1}}
 done:=by
  intro X L hw J T i Y s Z B aa m x g N;subst L hw J;obtain⟨U,O⟩:=N;obtain⟨o,z,hd,A,r,C⟩:=m.Z3 a _ O;obtain⟨ab,o',ac,q,M,p,Q⟩:=C.dictAt;rw[o]at q;cases q;rw[y]at p;cases p;obtain⟨E,F,f2,G,H,I⟩:=x f (by simp);have W:n.length=A.length:=r.length;have S:s.heap.IsKeyIter f a i A.length t:=by rw[<-W];exact g
  exact wpAny_pyNext_dict_end (knd:=Yt X.prog X.w) (m.ok.hd T) S ⟨b,D,o,M,y,Q⟩ (List.getElem?_eq_none (by lia)) λv R=>{Xb,m.turned (t':=s.toks) (λj b l e=>R j b l e) E F G H I}
 self:=λ_ _ _ _ _ g h=>Ll g h
inductive sX(R:It->Hp->Prop)(x:V)(H1:Hp):Prop
 |mk (a:_) (zw:_) (h0:x=.ref a) (h1:((H1 a=Ga (.dK zw)/\∀o,R (j9 a o zw) (zj H1 a (fz o zw))))):sX R x H1
def PY(te:TE):TI:=λσ H R=>te σ H λx H1=>sX R x H1
inductive uY(t:TS)(D:Ends)(σ:St)(H:Hp):Prop
 |mk (a:_) (zw:_) (h0:H a=Ga (.dK zw)) (h1:t {nx:=(λσ' H'=>∃o,H' a=Ga (fz o zw)/\D.nx σ' (zj H' a (.dK zw))),rt:=(λv H'=>∃o,H' a=Ga (fz o zw)/\D.rt v (zj H' a (.dK zw))),bk:=(λσ' H'=>∃o,H' a=Ga (fz o zw)/\D.bk σ' (zj H' a (.dK zw))),ct:=(λσ' H'=>∃o,H' a=Ga (fz o zw)/\D.ct σ' (zj H' a (.dK zw)))} σ H):uY t D σ H
def zS(t:TS):TS:=λD σ H=>uY t D σ H
section
variable{X:Cx}{tg:TZ}
theorem zv.uO{b:List (Gc×Ef)}{s:Gk}(I:zv X b σ H s)(e:H a=Ga (.dK zw)):∀o v,X.H₀ a≠Ga (.frz o v):=λo v z=>by rw[I.base.O2 a o v z]at e;cases e
theorem qL{e:TZ}{u:TE}(D:PE X e u):PI X tg e (PY u):=by
 intro d s w H R I h;refine Yx (D d s w H _ I h) λv i⟨x,y,j,F,E⟩=>?_;obtain⟨a,f,e,l,q⟩:=E;subst e;cases F;obtain⟨z,p,G,g,m⟩:=lB j.Z3 l;obtain⟨A,o,n,t,C,c,r⟩:=m.dictAt;refine wpAny_pyIter_dict (knd:=Yt X.prog X.w) p ⟨o,n,t,C,c,r⟩ ?_;have k:zv X d w (zj y a (fz o f)) i:=j.swap l trivial trivial (j.uO l) ⟨t,z,p,G,g,m⟩;refine{i.heap.objs.size,[i.heap.objs.size],_,_,_,Xb,k.kept (t':=i.toks) λb o e=>Heap.get?_push_of_some _ e,Cu a _ o f n A c,?_,λb B=>?_,q o}
 .rw[g.length];exact{_,Heap.get?_push_size _ Xb,Xb,Xb}
 .have e:b=i.heap.objs.size:=by simpa using B
  subst e;exact k.iK (Gm _) (k.Z3.fresh (Gm _))
theorem yC{m:TY}{t:TS}(h:PS X m t):PS X m (zS t):=by
 intro c s w H D I n;obtain⟨a,k,e,q⟩:=n;have p:=I.uO e;have un:∀{b:St}{i:Hp}{l:Gk}{o:Ef},zv X c b i l->i a=Ga (fz o k)->zv X c b (zj i a (.dK k)) l:=λd g=>d.swap g trivial trivial p (by obtain⟨_,r⟩:=d.Z3 a _ g;exact Cb r)
 refine Yx (h c s w H _ I q) λf l r=>?_;cases f with
 |next=>obtain⟨b,i,d,o,g,j⟩:=r;exact⟨b,_,un d g,j⟩
 |cont=>obtain⟨b,i,d,o,g,j⟩:=r;exact{b,_,un d g,j}
 |brk=>obtain⟨b,i,d,o,g,j⟩:=r;exact{b,_,un d g,j}
 |ret v=>obtain⟨x,b,i,d,u,o,g,j⟩:=r;exact{x,b,_,un d g,u,j}
end
theorem vG{o:Ef}{g:TG}{k:TS}{D:Ends}(b:Nat->St->Hp->Prop)(l:b 0 σ H)(s:∀i σ H,i<=zw.length->b i σ H->H a=Ga (fz o zw))
  (t:∀i p σ H,zw[i]?=Ga p->b i σ H->g (kV p.1) σ H λf H2=>k {D with nx:=b (i+1),ct:=b (i+1),bk:=D.nx} f H2)(n:∀σ H,b zw.length σ H->D.nx σ H):
  ∃W:Nat->Nat->St->Hp->Prop,(∃m,W 0 m σ H)/\∀i m σ H,W i m σ H->
   ((j9 a o zw).stop i H/\D.nx σ H)\/((j9 a o zw).go i H/\∃N:St->Hp->Prop,(∀d c,N d c->∃j,j<m/\W (i+1) j d c)/\∀x c,(j9 a o zw).yld i H x c->g x σ c λf H2=>k {D with nx:=N,ct:=N,bk:=D.nx} f H2):=by
 exists λi m σ H=>m=zw.length - i/\i<=zw.length/\b i σ H,{zw.length,by simp,Gz _,l};rintro i m σ H ⟨rfl,r,p⟩;have q:=s i σ H r p;by_cases h:i<zw.length
 .refine .inr {⟨h,q⟩,b (i+1),λd c v=>{zw.length - (i+1),by ext,Xb,h,v},λx c y=>?_};obtain⟨e,y,u,j⟩:=y;subst e j;exact t i y σ _ u p
 .have e:i=zw.length:=by ext
  subst e;exact .inl {{Gm _,q},n σ H p}
def jT(lo:Int)(n:Nat):It:={λi _=>i<n,λi H x H'=>H'=H/\x=.int (lo - i),λi _=>n<=i}
theorem AC{K:Gd}(c:Gc)(m:Int)(n:Nat):ig P w K tg (jT m n) [c] c (λi h=>Lf h c (m+(i:Nat)*(-1)) ((n:Int) - (i:Nat)) (-1)) where
 mem:=by simp
 obj:=λi h a b f=>by
  have e:b=c:=by simpa using f
  subst e;exact{_,a,λv z=>by have g:Ni _=RE v:=z;cases g}
 keep:=λi h j a k=>k c (by simp) _ a
 item:=by intro X A hw y B i d s F H E I l a C;subst A hw y;obtain⟨p,q,J,r,u,x⟩:=l c (by simp);have W:=Nj (prog:=X.prog) (w:=X.w) (I.ok.hd B) c m (-1) n;refine W.item i s _ _ C a λv j D L g M=>?_;obtain⟨t,rfl⟩:=L;have G:zv X d F H {s with heap:=j,toks:=D}:=I.turned (λb o f e=>M b o (by simpa using f) e) p q r u x;refine{_,Xb,jc (s:={s with heap:=j,toks:=D}) (n:="range_iterator") g rfl rfl (by decide) {.int (m - i),H,G,{t,?_},⟨Xb,Xb⟩,g,λb f=>(l b f).1}};congr 1;lia
 done:=by intro X A hw y B i d s F H E I l a C;subst A hw y;obtain⟨p,q,J,r,u,x⟩:=l c (by simp);exact SK (I.ok.hd B) a (by have:n<=i:=C;lia) λj g=>{Xb,I.turned (t':=s.toks) (λb o f e=>g b o f e) p q r u x}
 self:=λ_ _ _ _ _ a h=>SM a h
theorem rangeSize_down(n:Nat):Builtin.Range.rangeSize ((n:Int) - 1) (-1) (-1)=n:=by unfold Builtin.Range.rangeSize;simp only[show¬((-1:Int)>0) by decide,Do,show -(-1:Int)=1 by decide,MV];split<;>lia
theorem small_down{n:Nat}(h:n<=1000000):Builtin.Range.small ((n:Int) - 1) (-1) (-1)=Gf:=by unfold Builtin.Range.small;rw[rangeSize_down];simp only[Builtin.Range.rangeFitsLong,Tn,Bool.or_eq_true,decide_eq_true_eq,Sd,show¬((-1:Int)>0) by decide,Do];lia
inductive vf(R:It->Hp->Prop)(vs:List V)(H1:Hp):Prop
 |mk (n:Nat) (h0:vs=[.int ((n:Int) - 1),.int (-1),.int (-1)]) (h1:n<=1000000) (h2:R (jT ((n:Int) - 1) n) H1):vf R vs H1
def zJ(ta:TA):TI:=λσ H R=>ta σ H λa H1=>vf R a H1
theorem zW{a b c:TZ}{v:TA}{p j:SV}(C:Gl X "range")(D:X.mg "range"=Gh)(A:PA X [a,b,c] v)(F:Tj [a,b,c] X.env=[(Gs,eval a X.env),(Gs,eval b X.env),(Gs,eval c X.env)]:=by rfl)(i:Tj [b,c] X.env=[(Gs,eval b X.env),(Gs,eval c X.env)]:=by rfl):
  PI X tg (.Call (.Name "range" p) [a,b,c] [] j) (zJ v):=by
 intro f s w H R I h;refine Bb (Ur I C D NG (Dp (Yx (A j f s w H _ I h) λL g⟨M,u,x,K,G⟩=>?_) (by rw[F,i]) (by rw[i];rfl)));obtain⟨n,e,E,q⟩:=G;subst e;cases K with
 |cons r k=>
  cases k with
  |cons J k=>
   cases k with
   |cons m k=>
    cases k;obtain⟨t,rfl⟩:=r;obtain⟨t',rfl⟩:=J;obtain⟨d,rfl⟩:=m;refine call_range_3 (by decide) ?_ (.inl (SN (by ext)));refine LF (Nk ..) (small_down E) ?_;have l:zv X f w u {g with heap:=g.heap.push {cls:=.type "range",data:=.fields #[.int ((n:Int) - 1) t,.int (-1) t',.int (-1) d]},toks:=g.toks}:=x.kept λb o e=>Heap.get?_push_of_some _ e;refine⟨(g.heap.push {cls:=.type "range",data:=.fields #[.int ((n:Int) - 1) t,.int (-1) t',.int (-1) d]}).objs.size,[(g.heap.push {cls:=.type "range",data:=.fields #[.int ((n:Int) - 1) t,.int (-1) t',.int (-1) d]}).objs.size],_,_,u,Xb,
     l.kept (t':=g.toks) λb o e=>Heap.get?_push_of_some _ e,AC _ ((n:Int) - 1) n,?_,λb B=>?_,q⟩
    .have y:((n:Int) - 1)+((0:Nat):Int)*(-1)=(n:Int) - 1:=by simp
     have z:(n:Int) - ((0:Nat):Int)=Builtin.Range.rangeSize ((n:Int) - 1) (-1) (-1):=by rw[rangeSize_down];simp
     show Lf _ _ (((n:Int) - 1)+((0:Nat):Int)*(-1)) ((n:Int) - ((0:Nat):Int)) (-1);rw[y,z];exact Heap.get?_push_size _ rfl
    .have e:b=(g.heap.push {cls:=.type "range",data:=.fields #[.int ((n:Int) - 1) t,.int (-1) t',.int (-1) d]}).objs.size:=by simpa using B
     subst e;exact l.iK (Gm _) (l.Z3.fresh (Gm _))
theorem A8{h:Int}{n:Nat}{g:TG}{k:TS}{D:Ends}(b:Nat->St->Hp->Prop)(l:b 0 σ H)
  (q:∀i σ H,i<n->b i σ H->g (.int (h - i)) σ H λf H2=>k {D with nx:=b (i+1),ct:=b (i+1),bk:=D.nx} f H2)(o:∀σ H,b n σ H->D.nx σ H):
  ∃W:Nat->Nat->St->Hp->Prop,(∃m,W 0 m σ H)/\∀i m σ H,W i m σ H->
   ((jT h n).stop i H/\D.nx σ H)\/((jT h n).go i H/\∃N:St->Hp->Prop,(∀d a,N d a->∃j,j<m/\W (i+1) j d a)/\∀x a,(jT h n).yld i H x a->g x σ a λf H2=>k {D with nx:=N,ct:=N,bk:=D.nx} f H2):=by
 exists λi m σ H=>m=n - i/\i<=n/\b i σ H,{n,by simp,Gz _,l};rintro i m σ H ⟨rfl,r,p⟩;by_cases c:i<n
 .refine .inr {c,b (i+1),λd a j=>{n - (i+1),by ext,Xb,c,j},λx a y=>?_};obtain⟨e,y⟩:=y;subst e y;exact q i σ _ c p
 .have e:i=n:=by ext
  subst e;exact .inl {Gm _,o σ H p}
inductive yV(vs:List V)(H:Hp)(Q:VK):Prop
 |mk (d:_) (zw:_) (ks:_) (h0:vs=[.ref d]) (h1:H d=Ga (.dK zw)) (h2:zw.map (·.1)=ks.map E7) (h3:zw.length<64) (h4:∀(r:Gc)(ns:List Int),H r=Gh->ns.Perm ks->ns.Pairwise (·<=·)->Q (.ref r) (zj H r (.lst (ns.map V.int)))):yV vs H Q
def Ai:List V->Hp->VK->Prop:=λa H Q=>yV a H Q
theorem IX{h:Heap}:∀{b:List (X7×V)}{d:List (X7×Value)}{c:List Int}{a:List Value},KV b d->b.map (·.1)=c.map E7->a.length=d.length->(∀(i:Nat)(u:Value),a[i]?=Ga u->∃k x,d[i]?=Ga (k,x)/\(Yt P w).is k u=Gf)->SS a c:=by
 intro b;induction b with
 |nil=>
  intro d c a t e f _;cases t;cases a with
  |cons=>cases f
  |nil=>
   cases c with
   |nil=>exact .nil
   |cons=>cases e
 |cons p b n=>
  intro d c a t e f g;cases t with
  |cons r t=>
   cases c with
   |nil=>cases e
   |cons k c=>
    cases a with
    |nil=>cases f
    |cons u a=>
     simp only[List.map_cons,List.cons.injEq]at e;obtain⟨o,x,j,l⟩:=g 0 u rfl;simp at j;have:o=E7 k:=by rw[<-e.1,r.1,j]
     subst this;obtain⟨q,rfl⟩:=Value.isInt_shape (k:=k) (v:=u) l;exact .cons _ _ (n t e.2 (by simpa using f) λi u m=>g (i+1) u m)
theorem zN{a:List Value}{b:List Int}(h:SS a b):Z2 (b.map V.int) a:=by
 induction h with
 |nil=>exact .nil
 |cons n t r c=>exact .cons {_,Xb} c
theorem HS(M:X.calm=Gf):Um X (.builtin "sorted") Ai:=by
 intro m s U H Y W Q I r h;obtain⟨d,zw,D,rfl,R,C,P,q⟩:=h;obtain⟨u,rfl,T⟩:=vals1 r;cases(show u=Value.ref d from T);obtain⟨z,N,y,n,K⟩:=lB I.Z3 R;obtain⟨ep,t⟩:=K.dictAt;have c:zw.length=y.length:=n.length;refine Sk kind_sorted plain_sorted entry_sorted (args_sorted1 _) ?_;unfold Builtin.«sorted»;refine Gb (m:=checkCount "sorted" 1 1 _) (Ge ?_);refine Gb (NA (A:=X.A.in1) (RV (knd:=Yt X.prog X.w) (kvs:=y) (ep:=ep) N) (I.ok.hd M) t (by rw[<-c];exact z) λf E a w g=>?_);have j:a.toList.length=y.length:=by rw[TD];exact g.1
 have L:SS a.toList D:=IX (P:=X.prog) (w:=X.w) (h:=f) n C j λi u S=>g.2 i u (by rw[<-T4];exact S);have A:zv X m U H {s with heap:=f,toks:=E}:=I.kept w;refine Gb (wpAny_newList ?_ (by rw[j,<-c];exact z));have v:(f.push {cls:=.type "list",data:=.seq a.toList.toArray}).get? f.objs.size=Ga (seqObj "list" a.toList.toArray 0):=Heap.get?_push_size _ rfl;refine Gb (T1 ?_);refine Tz M4 {_,v,Xb} ML ?_ (ME _);refine list_sort_tree v L (by rw[j,<-c];exact P) λout l G B J=>?_;exists _,Xb;refine Ge {_,Xb,?_};obtain⟨e,O⟩:=sortedHeap_at (out:=out) v;have k:∀b o,f.get? b=Ga o->(sortedHeap (f.push {cls:=.type "list",data:=.seq a.toList.toArray}) f.objs.size a.toList out).get? b=Ga o:=λb o p=>by rw[sortedHeap_old (Tf (Heap.lt_size p)) (by rw[size_push'];exact L8 (Heap.lt_size p))];exact Heap.get?_push_of_some _ p
 have x:l.length<=Gj:=by
  rw[B.length_eq];have:D.length=zw.length:=by have:=congrArg List.length C;simpa using this.symm
  rw[this];exact z
 have F:=A.laid (a:=f.objs.size) (o:=.lst (l.map V.int)) (t':=E) k (Gm _) {by rw[List.length_map];exact x,out.toList,e,zN G,by rw[D0];exact O};exact{.ref f.objs.size,_,F,Xb,q _ _ (A.Z3.fresh (Gm _)) B J}
end L2
namespace K03
open PySem L2 Sb Nt
variable{X:Gc->Prop}{H H' H1:Hp}{v:V}{k a b p q tb m j:Nat}{fs:List Fm}{x:Nn}{N:Nat->Nat->Option Nat}{ps S ts U:List Th}{u t:Th}{f C r n L d D fW fB M fR fL f0 fI fN CP CB fC fA:Gc}{fd fdW fdB fdR fdL fdI fdN:Tq}{A:Na}{lks:List Lk}{xs ys:List V}{P:Gg}{w:Gu}{ens:List En}{tl:Tl}{α:Type}
inductive wU(C:Gc)(vs:List V)(H:Hp)(Q:VK):Prop
 |mk (n:Gc) (A:Na) (fs:List Fm) (x:Nn) (p:Nat) (h0:vs=[.ref n,jv p]) (h1:(∃dx,H n=Ga (.ins C dx (Xi A)))) (h2:(∃ws,H A.f=Ga (.lst ws)/\Paired (Rk H) ws fs)) (h3:Rd H A.l (.dK (dS x.S λp=>jv (x.lead p)))) (h4:p<fs.length) (h5:(∀q∈Zq fs p,q∈x.S)) (h6:(Zq fs p).length<=1000000) (h7:∀(c:Gc)(H':Hp),Q6 H H'->H c=Gh->Rk H' (.ref c) (Zp (Yi fs) (Zq fs) x.lead p)->Q (.ref c) H'):wU C vs H Q
def wu(C:Gc):Sp:=λa H Q _=>wU C a H Q
abbrev Row:=Tb×List Nat×Nat
inductive Uh(H:Hp)(X:Gc->Prop)(v:V)(r:Row):Prop
 |mk (c:_) (l:_) (h0:v=.ref c) (h1:H c=Ga (.tup [.str r.1,.ref l,jv r.2.2])) (h2:H l=Ga (.lst (r.2.1.map jv))) (h3:¬X l):Uh H X v r
theorem Uh.kp(i:∀{c:Gc}{a:List V},H c=Ga (.tup a)->H' c=Ga (.tup a))(g:∀{c:Gc}{a:List V},H c=Ga (.lst a)->¬X c->H' c=Ga (.lst a)){r:Row}(h:Uh H X v r):Uh H' X v r:=by obtain⟨c,l,d,e,f,b⟩:=h;exact{c,l,d,i e,g f b,b}
theorem Uh.ex{Y:Gc->Prop}(f:∀c a,H c=Ga (.lst a)->¬X c->¬Y c){r:Row}(h:Uh H X v r):Uh H Y v r:=by obtain⟨c,l,b,d,a,e⟩:=h;exact{c,l,b,d,a,f _ _ a e}
inductive Ub(H:Hp)(X:Gc->Prop)(v:V)(rs:List Row):Prop
 |mk (r:_) (es:_) (h0:v=.ref r) (h1:H r=Ga (.lst es)) (h2:¬X r) (h3:Paired (Uh H X) es rs):Ub H X v rs
theorem Ub.kp{X:Gc->Prop}{H b:Hp}(l:∀{c:Gc}{a:List V},H c=Ga (.tup a)->b c=Ga (.tup a))(e:∀{c:Gc}{a:List V},H c=Ga (.lst a)->¬X c->b c=Ga (.lst a)){v:V}{f:List Row}(h:Ub H X v f):Ub b X v f:=by obtain⟨r,g,i,j,d,k⟩:=h;exact{r,g,i,e j d,d,L2.Paired.Z8 k λ_ _ h=>h.kp l e}
theorem Ub.ex{X Y:Gc->Prop}{H:Hp}(b:∀c a,H c=Ga (.lst a)->¬X c->¬Y c){v:V}{d:List Row}(h:Ub H X v d):Ub H Y v d:=by obtain⟨r,e,f,a,g,i⟩:=h;exact{r,e,f,a,b _ _ a g,L2.Paired.Z8 i λ_ _ h=>h.ex b}
def Vi(fs:List Fm)(x:Nn)(N:Nat->Nat)(p:Nat):Row:=(Yi fs p,(Zq fs p).map (λq=>N (x.lead q)),N (x.lead p))
structure sQ(fs:List Fm)(x:Nn)(rs:List Row):Prop where
 ex:∃N:Nat->Nat,(∀p∈x.S,∀q∈x.S,N (x.lead p)=N (x.lead q)->x.lead p=x.lead q)/\(∀p∈x.S,Vi fs x N p∈rs)/\∀r∈rs,∃p∈x.S,r=Vi fs x N p
 nd:(rs.map λr=>(r.1,r.2.1)).Nodup
inductive sf(P:Gg)(w:Gu)(C:Gc)(vs:List V)(H:Hp)(Q:VK):Prop
 |mk (n:Gc) (A:Na) (fs:List Fm) (tb:Nat) (x:Nn) (h0:vs=[.ref n]) (h1:Z9 P w C H n A fs tb x) (h2:hZ fs x.S) (h3:Wk (Yi fs) (Zq fs) x []) (h4:x.S.length<=1000) (h5:∀(v:V)(rs:List Row)(H':Hp),Q6 H H'->Ub H' (λb=>∃o,H b=Ga o) v rs->sQ fs x rs->Q v H'):sf P w C vs H Q
def xU(P:Gg)(w:Gu)(C:Gc):Sp:=λa H Q _=>sf P w C a H Q
theorem Pf{a:List Nat}{l:Nat}(c:l∉a)(b:k∈a++[l]):(a++[l]).idxOf k=if k=l then a.length else a.idxOf k:=by
 rw[List.idxOf_append];by_cases h:k=l
 .subst h;rw[Gi c,Gp rfl];simp
 .have:k∈a:=by
   rcases List.mem_append.mp b with z|z
   .exact z
   .exact absurd (by simpa using z) h
  rw[Gp this,Gi h]
theorem pZ{c:List Nat}(f:a∈c)(g:b∈c)(h:c.idxOf a=c.idxOf b):a=b:=by have d:=List.getElem_idxOf (List.idxOf_lt_length_of_mem f);have e:=List.getElem_idxOf (List.idxOf_lt_length_of_mem g);rw[<-d,<-e];simp only[h]
def iI(fs:List Fm)(x:Nn)(N:Nat->Nat)(X:Gc->Prop)(H:Hp)(e:KE)(p:Nat):Prop:=e.1=Xg (Zp (Yi fs) (Zq fs) x.lead p)/\Uh H X e.2.2 (Vi fs x N p)
theorem rj{N:Nat->Nat}{d:List KE}{f:List Nat}(h:Paired (iI fs x N X H) d f)(k:Fm):(Yh d (Xg k)).isSome=Gf↔∃p∈f,Zp (Yi fs) (Zq fs) x.lead p=k:=by
 induction h with
 |nil=>simp[Yh]
 |@cons e p d f g t i=>
  by_cases c:e.1=Xg k
  .rw[Yr c];simp only[LI,true_iff];exact{p,List.mem_cons_self,U6 (g.1.symm.trans c)}
  .rw[Ys c,i];constructor
   .rintro⟨q,a,b⟩;exact{q,List.mem_cons_of_mem _ a,b}
   .rintro⟨q,a,b⟩;rcases List.mem_cons.mp a with rfl|a
    .exact absurd (by rw[g.1,b]) c
    .exact⟨q,a,b⟩
theorem PJ{N:Nat->Nat}{f:List KE}{b:List Nat}(i:Uh H X v (Vi fs x N p))(a:∀q∈b,Zp (Yi fs) (Zq fs) x.lead q=Zp (Yi fs) (Zq fs) x.lead p->Vi fs x N q=Vi fs x N p)(h:Paired (iI fs x N X H) f b):
  Paired (iI fs x N X H) (f.map λe=>if e.1=Xg (Zp (Yi fs) (Zq fs) x.lead p)then(e.1,e.2.1,v)else e) b:=by
 induction h with
 |nil=>exact .nil
 |@cons e q f b d t j=>
  refine .cons ?_ (j λq g=>a q (List.mem_cons_of_mem _ g));dsimp only;by_cases c:e.1=Xg (Zp (Yi fs) (Zq fs) x.lead p)
  .rw[Gp c];exists d.1;rw[a q List.mem_cons_self (U6 (d.1.symm.trans c))];exact i
  .rw[Gi c];exact d
theorem Pd{a:Gc}{u:HO}(r:Rd H a u)(g:Q6 H H'):Rd H' a u:=by
 rcases r with r|⟨o,r⟩
 .exact .inl (g _ _ r)
 .exact .inr {o,g _ _ r}
theorem p5{a:Gc}{S:List Nat}{f:Nat->V}(h:Rd H a (.dK (dS S f)))(b:p∈S):Vf H a (jv p) (Ga (f p)):=.inl {_,ki p,h,Xb,(jB b).symm}
section
variable{P:Gg}{w:Gu}{K:Gd}{mg:Tb->Option Value}{base:Heap}
theorem zQ(F:We K "key_of" "Net.key_of" ja f fd)(j:Ut K mg C)(M:J2 mg):Qy P w K mg base Z5 1 f fd ["self","place"] (wu C):=by
 refine F.ok mO (λvs r O N d=>?_) (λab g ac s r vs O N X d=>?_)
 .obtain⟨n,g,a,x,p,rfl,_⟩:=d;rfl
 obtain⟨n,g,a,x,p,rfl,⟨t,H⟩,⟨J,S,v⟩,le,B,W,hl,T⟩:=d;have Y:=Je X;have nd:=mO.nd;exists _,Qc (Qz 2 nd (Qm Zc (Qu (pv 0) rfl) (pv 1)))
  (Qh (Qt (Zg (Qa (Qm Qo (pv 2) Qi) (Qa (Xm Vt rfl M.tuple TM (Qa
   (Vs (te:=ko (lZ K (Vz 1) "leads") (Vz 0)) (own:=["part"]) (fv:=[(0,"self")]) rfl (S:=(by eq_refl:Xy (Ql ja) _)) (.cons rfl (T3 Xb) rfl .nil) (Uj (Qm Qo (pv 2) Qi))
    (λ_ _ _ _ _=>Xc (i:=0) vn rfl (T3 Xb) (DJ Xb)) (λ_ _ _ _ _=>Wb) (λ_ _ _ _ _=>Zx Y (Qu (pv 1) rfl) (pv 0) (λ_ _=>rfl))) Qe)) Qe)))))
 have hw:p<J.length:=by rw[Gq v];exact B
 subst_vars;obtain⟨y,E,c,k,R,z,A⟩:=Qw v (List.getElem?_eq_getElem hw);and_intros;rw[jd B]at E;cases E;have Q:atI [V.str (Yi a p),V.ref k] (1:Int)=Ga (.ref k):=Qj (j:=1) rfl;exists _,Xb,n,C,t,_,_,Xb,H,j.cl,j.Qdq,U8 _,_,Xb,g.f,J,_,_,Xb,Xb,Za.of S,Qj (List.getElem?_eq_getElem hw);rw[R];refine{_,Xb,c,_,_,_,Xb,Xb,Q9.of z,Rz _ _,_,Xb,c,_,_,_,Xb,Xb,Q9.of z,Q,k,Xb,{_,Q9.of A},λaa D=>?_};have s3:=Qf D (.lst []);refine U7 (K:=K) (a:=k) (xs:=(Zq a p).map jv) (small (by rw[List.length_map];ext)) (λi m o h=>(∃L,o=[L,Ga (.ref n)])/\Q6 r h/\m=((Zq a p).take i).map λq=>jv (x.lead q))
  {{_,Xb},s3,by simp} (λi m o h _ d=>Q9.of (d.2.1 _ _ A)) ?_ ?_
 .rintro i y m o h e Z ⟨⟨L,rfl⟩,b,rfl⟩ l;rw[List.getElem?_map]at e;cases eq:(Zq a p)[i]? with
  |none=>rw[eq]at e;cases e
  |some q=>
   rw[eq]at e;cases e;exists _,Xb,n,C,t,_,_,Xb,b _ _ H,j.cl,j.Vh,Yu _,_,Xb,g.l,_,Xb,p5 (Pd le b) (W q (List.mem_of_getElem? eq)),l,{_,Xb},λG I u=>?_
   .rw[Qg (Qd u D)];exact b _ _ u
   .rw[List.take_add_one,eq,List.map_append];rfl
 .rintro m o h Z ⟨_,b,rfl⟩ l;rw[List.length_map,List.take_length]at l;refine{aa,_,Xb,.inl {Za.of l,λG U=>?_}};have s4:=Qf U (.tup ((Zq a p).map λq=>jv (x.lead q)));refine{by show 2<=Gj;decide,λe u=>?_};have I:=Qf u (.tup [.str (Yi a p),.ref G]);refine T e _ ((b.trans s4).trans I) (b.free (s4.free u)) {e,G,Xb,Qb,?_};rw[I _ _ Qb];simp only[Zp,List.map_map];rfl
theorem tM{S:List Nat}{f:Nat->V}{i:Nat}{a:X7×V}(h:(dS S f)[i]?=Ga a):∃p,S[i]?=Ga p/\a=(ki p,f p):=by
 unfold dS at h;rw[List.getElem?_map]at h;cases e:S[i]? with
 |none=>rw[e]at h;cases h
 |some p=>rw[e]at h;cases h;exact⟨p,Xb,Xb⟩
theorem uC:Q3 ["self","numbers","place","found","key"] ["self"] (Ql iF):=by eq_refl
theorem BN:(["lead","numbers"]:List Tb).Nodup:=by decide+kernel
theorem Co{fK:Gc}{aI:Tq}(F:We K "rows" "Net.rows" iF f fd)(Z:Ut K mg C)(aG:J2 mg)(mK:Ye K C "key_of" fK)(GK:Qy P w K mg base Z5 1 fK aI ["self","place"] (wu C))(bK:zk K aI ["self","place"] []):
  Qy P w K mg base Z5 2 f fd ["self"] (xU P w C):=by
 refine F.ok uC (λO L M H g=>?_) (λS l W s L O M H Q g=>?_)
 .obtain⟨n,l,e,tb,x,rfl,_⟩:=g;rfl
 obtain⟨n,l,e,tb,x,rfl,X,FO,aH,hS,q⟩:=g;have hu:=Je Q;have a6:=Q.units;have a5:Yd 1 _:=Q.mono (by lia);have nd:=uC.nd;show∃t,Ia ?my _ t/\_;let w5:Xk ?my iF 4:={_,Qh (Qt (Xm (CM Xb) rfl aG.list Tt (Qa (Cw SD MF BE (pv 3)) Qe)))}
 let w4:Xk ?my iF 3:=⟨_,Qc (yC (Z6 Gy rfl (qL (Qu (pv 0) rfl)) (Zz 2 nd)
   (Qc (Qz 4 nd (Zh (pv 0) Z.cl mK GK a5 bK .nil Q7 (Qa (pv 2) Qe)))
   (Qh (Rt (Zg (Qa (Qm Qo (pv 4) Qi) (Qa
     (Vs (te:=ko (Vz 1) (Vz 0)) (own:=["lead"]) (fv:=[(1,"numbers")]) rfl (S:=(by eq_refl:Xy (Ql iF) _)) (.cons rfl (T3 Xb) rfl .nil) (Uj (Qm Qo (pv 4) Qi))
      (λ_ _ _ _ _=>Xc (i:=0) BN rfl (T3 Xb) (DJ Xb)) (λ_ _ _ _ _=>Wb) (λ_ _ _ _ _=>Zx hu (pv 1) (pv 0) (λ_ _=>rfl)))
     (Qa (Zx hu (pv 1) (Zx hu (Qu (pv 0) rfl) (pv 2) (λ_ _=>rfl)) (λ_ _=>rfl)) Qe))))
    (jJ (pv 3) (pv 4) (jA a6))))))) w5.2⟩
 let w3:Xk ?my iF 2:={_,Qc (V1 (i:=3) (te:=nU P w) nd rfl (T3 Xb) Ii) w4.2}
 let w2:Xk ?my iF 1:=⟨_,Qc (yC (Z6 Gy rfl (qL (Qu (pv 0) rfl)) (Zz 2 nd)
   (Qh (Zj (X0 Ee Ek El K6 (pv 1) (Qa (Zx hu (Qu (pv 0) rfl) (pv 2) (λ_ _=>rfl)) (Qa (Qp OS rfl aG.len Gx (Qa (pv 1) Qe)) Qe))))))) w3.2⟩
 exists _,Qc (V1 (i:=1) nd rfl (DJ Xb) Jc) w2.2;obtain⟨dx,o1⟩:=X.ob;intro num ap;have s1:=Qf ap (.dK []);have X1:=X.same s1;have nl:num≠l.l:=Gn (Qd X.le ap);have nn:num≠n:=Gn (Qd o1 ap);have ln:n≠l.l:=Yj o1 X.le nofun;exists l.l,_,X1.le;refine⟨_,Xb,n,C,dx,_,_,Xb,s1 _ _ o1,Z.cl,Z.Vh,Yu _,l.l,_,Xb,X1.le,λh=>vG (λi N Y=>jV λ(x2:Option V)(A:List Nat)=>iQ (N=[Ga (.ref n),Ga (.ref num),x2,Gh,Gh]) (Y num=Ga (.dK (dS A λk=>jv (A.idxOf k)))) (A.Nodup) (A.length<=i) (∀p∈x.S.take i,x.lead p∈A) (Y l.l=Ga (fz h (dS x.S λp=>jv (x.lead p)))) (∀d u,L d=Ga u->d≠l.l->Y d=Ga u))
  {_,[],Xb,Qk Qb nl,List.nodup_nil,Gz _,by simp,Qb,λd u b J=>Qk (s1 _ _ b) J} (by rintro i N Y _ ⟨_,_,_,_,_,_,_,g,_⟩;exact g) ?_ ?_⟩
 .rintro i pr N Y hi ⟨x2,A,rfl,ae,aE,aL,ad,ak,fr⟩;obtain⟨p,m,rfl⟩:=tM hi;have pS:p∈x.S:=List.mem_of_getElem? m;have a2:i<x.S.length:=(List.getElem?_eq_some_iff.mp m).1;refine{_,Xb,.inr (.inr (.inl {Xb,.inl {_,ae}})),_,Xb,n,C,dx,_,_,Xb,fr _ _ o1 ln,Z.cl,Z.Vh,Yu _,_,Xb,l.l,_,Xb,p5 (.inr ⟨h,ak⟩) pS,_,Xb,num,_,Xb,ae,num,ki (x.lead p),_,_,Xb,Xb,ae,by rw[Vr,GV];lia,λR hv=>?_,λhv=>?_}
  .have U:x.lead p∈A:=by refine Mc λz=>?_;rw[pk z]at hv;cases hv
   refine{_,A,Xb,ae,aE,by lia,λE Q=>?_,ak,fr};rw[List.take_add_one,m]at Q;rcases List.mem_append.mp Q with g|g
   .exact ad E g
   .have:E=p:=by simpa using g
    rw[this];exact U
  .have U:x.lead p∉A:=λz=>by rw[jB z]at hv;cases hv
   have eo:Vm (dS A λk=>jv (A.idxOf k)) (ki (x.lead p)) (.int ((dS A λk=>jv (A.idxOf k)).length:Int))=dS (A++[x.lead p]) λk=>jv ((A++[x.lead p]).idxOf k):=by rw[jn U,Vr];refine W8 λk H=>?_;rw[Pf U H];split<;>rfl
   rw[eo];refine{_,A++[x.lead p],Xb,Qb,List.nodup_append.mpr {aE,by simp,λa ha d J=>by simp at J;subst J;exactλz=>U (z▸ha)},by rw[List.length_append,List.length_singleton];lia,λE Q=>?_,Qk ak (Gn nl),λd u b J=>Qk (fr d u b J) (Qd b ap)};rw[List.take_add_one,m]at Q;rcases List.mem_append.mp Q with g|g
   .exact List.mem_append_left _ (ad E g)
   .have:E=p:=by simpa using g
    rw[this];simp
 rintro N Y ⟨x2,A,rfl,ae,aE,aL,ad,ak,fr⟩;rw[Vr,List.take_length]at ad;rw[Vr]at aL;exists h,ak;have t2:∀d u,L d=Ga u->(zj Y l.l (.dK (dS x.S λp=>jv (x.lead p)))) d=Ga u:=λd u b=>by
  by_cases g:d=l.l
  .subst g;rw[Qb,<-b];exact X.le.symm
  .exact Qk (fr d u b g) g
 generalize a3:(dS A λk=>jv (A.idxOf k))=au at ae;have ar:∀p∈x.S,Xh au (ki (x.lead p))=Ga (jv (A.idxOf (x.lead p))):=λp m=>by rw[<-a3];exact jB (ad p m)
 generalize aJ:(λk=>A.idxOf k)=o;have ar:∀p∈x.S,Xh au (ki (x.lead p))=Ga (jv (o (x.lead p))):=λp m=>by rw[<-aJ];exact ar p m
 have aK:∀p∈x.S,∀q∈x.S,o (x.lead p)=o (x.lead q)->x.lead p=x.lead q:=λp m q G b=>by rw[<-aJ]at b;exact pZ (ad p m) (ad q G) b
 have aF:(zj Y l.l (.dK (dS x.S λp=>jv (x.lead p)))) num=Ga (.dK au):=Qk ae nl;generalize zj Y l.l (.dK (dS x.S λp=>jv (x.lead p)))=H3 at t2 aF;intro v ao;have s4:=Qf ao (V5 P w v []);have g4:Q6 L (zj H3 v (V5 P w v [])):=λd u b=>s4 _ _ (t2 d u b);have X4:=X.same g4;have nf:num≠v:=Qd aF ao;have fl:l.l≠v:=Qd (t2 _ _ X.le) ao;exists l.l,_,X4.le;refine⟨_,Xb,n,C,dx,_,_,Xb,g4 _ _ o1,Z.cl,Z.Vh,Yu _,l.l,_,Xb,X4.le,λh=>vG (λi N I=>jF λ(x2 x4:Option V)(B:List KE)=>kJ (N=[Ga (.ref n),Ga (.ref num),x2,Ga (.ref v),x4]) (DH P w I v B) (∃r:List Nat,r.length<=i/\Paired (iI e x o (λd=>∃h,L d=Ga h) I) B r/\(r.map λp=>Zp (Yi e) (Zq e) x.lead p).Nodup/\(∀p∈r,p∈x.S)/\∀p∈x.S.take i,∃p'∈r,Zp (Yi e) (Zq e) x.lead p'=Zp (Yi e) (Zq e) x.lead p) (I num=Ga (.dK au)) (I l.l=Ga (fz h (dS x.S λp=>jv (x.lead p)))) (∀d u,L d=Ga u->d≠l.l->I d=Ga u))
  {_,_,[],Xb,{Qk Qb (Gn fl),(λp m=>nomatch m)},{[],Gz _,.nil,List.nodup_nil,(λp m=>nomatch m),by simp},Qk (Qk aF nf) nl,Qb,λd u b J=>Qk (g4 _ _ b) J} (by rintro i N I _ ⟨_,_,_,_,_,_,_,g,_⟩;exact g) ?_ ?_⟩
 .rintro i pr N I hi ⟨x2,x4,B,rfl,D5,⟨r,a4,aq,av,af,aj⟩,aM,ab,ac⟩;subst_vars;obtain⟨p,m,rfl⟩:=tM hi;have pS:p∈x.S:=List.mem_of_getElem? m;have a2:i<x.S.length:=(List.getElem?_eq_some_iff.mp m).1;have a8:=FO.few p;obtain⟨ws,f1,f2⟩:=X.fo;and_intros;have tu:Q4 L I:=λd xs b=>ac d _ b (Yj b X.le nofun);have fA:I l.f=Ga (.lst ws):=ac _ _ f1 (Yj f1 X.le nofun);have o5:=ac _ _ o1 ln;refine{_,Xb,n,dx,_,Xb,o5,pX _,_,Xb,n,l,e,x,p,Xb,⟨dx,o5⟩,{ws,fA,L2.Paired.Z8 f2 λ_ _ g=>g.Qs tu},.inr ⟨h,ab⟩,FO.lt p pS,FO.pts p pS,by lia,λc H6 M a7 fm=>?_};subst_vars;obtain⟨c',b,ec,h1,T⟩:=id fm;and_intros;cases ec;simp only[Zp]at h1 T;have am:=M _ _ aM;have D6:DH P w H6 v B:={M _ _ D5.at_,Zi (Q4.of M) D5.keys};refine{_,Xb,c,_,_,_,Xb,Xb,Q9.of h1,Rz _ _,_,Xb,c,_,_,_,Xb,Xb,Q9.of h1,Rh _ _ _,b,Xb,{_,Q9.of T},λE al=>?_};have s7:=Qf al (.lst []);have a9:=Gq aq;refine U7 (K:=K) (a:=b) (xs:=((Zq e p).map x.lead).map jv) (small (by rw[List.length_map,List.length_map];lia)) (λi ys N H=>(∃x0,N=[x0,Ga (.ref num)])/\Q6 H6 H/\ys=((Zq e p).take i).map λq=>jv (o (x.lead q))) {{_,Xb},s7,by simp} (λi ys N H _ g=>Q9.of (g.2.1 _ _ T)) ?_ ?_
  .rintro j y ys N H O a1 ⟨⟨x0,rfl⟩,W,rfl⟩ ai;rw[List.getElem?_map,List.getElem?_map]at O;cases eq:(Zq e p)[j]? with
   |none=>rw[eq]at O;cases O
   |some S=>rw[eq]at O;cases O;have hv:=ar S (FO.pts p pS S (List.mem_of_getElem? eq));exists _,Xb,_,Xb,num,_,Xb,(by have:=Vf.k (k:=ki (x.lead S)) (W _ _ am);rw[hv]at this;exact this),ai,{_,Xb},λd h eb=>Qk (W _ _ eb) (Qd eb al);rw[List.take_add_one,eq,List.map_append];rfl
  .rintro ys N H a1 ⟨_,W,rfl⟩ ai;rw[List.length_map,List.length_map,List.take_length]at ai;have hv:=ar p pS;have aZ:=W _ _ am;have dg:Vf H num (jv (x.lead p)) (Ga (jv (o (x.lead p)))):=by have:=Vf.k (k:=ki (x.lead p)) aZ;rw[hv]at this;exact this
   refine{_,Xb,_,Xb,n,C,dx,_,_,Xb,W _ _ (M _ _ o5),Z.cl,Z.Vh,Yu _,_,Xb,l.l,_,Xb,p5 (.inr {h,W _ _ (M _ _ ab)}) pS,num,_,Xb,dg,by show 3<=Gj;decide,λD hm=>?_};generalize aX:jv (o (x.lead p))=R;have s8:=Qf hm (.tup [.str (Yi e p),.ref E,R]);have O:Q6 H6 (zj H D (.tup [.str (Yi e p),.ref E,R])):=W.trans s8;have D8:DH P w (zj H D (.tup [.str (Yi e p),.ref E,R])) v B:={O _ _ D6.at_,Zi (Q4.of O) D6.keys};have k8:=(fm.Qs (Q4.of O)).key (FO.str p);exists _,Xb,_,Xb,v,c,_,B,Xb,Xb,D8,k8,(by rw[GV];lia);have a0:∀d h,L d=Ga h->∃u,H6 d=Ga u:=λd h eb=>by
    by_cases J:d=l.l
    .rw[J];exact{_,M _ _ ab}
    .exact{h,M _ _ (ac d h eb J)}
   have aC:Uh (zj H D (.tup [.str (Yi e p),.ref E,R])) (λd=>∃h,L d=Ga h) (.ref D) (Vi e x o p):=⟨D,E,Xb,by rw[<-aX];exact Qb,by
    show _=Ga (HO.lst (((Zq e p).map λq=>o (x.lead q)).map jv));rw[List.map_map];exact s8 _ _ ai,λ⟨h,eo⟩=>by
    obtain⟨u,aa⟩:=a0 _ _ eo;rw[al]at aa;cases aa⟩
   generalize aB:Ww B (Xg (Zp (Yi e) (Zq e) x.lead p)) c (.ref D)=ah;have aD:∀{d:Gc}{xs:List V},(zj H D (.tup [.str (Yi e p),.ref E,R])) d=Ga (.tup xs)->(zj (zj H D (.tup [.str (Yi e p),.ref E,R])) v (V5 P w v ah)) d=Ga (.tup xs):=λb=>Qk b (Yj b D8.at_ nofun);have aY:∀{d:Gc}{xs:List V},(zj H D (.tup [.str (Yi e p),.ref E,R])) d=Ga (.lst xs)->(zj (zj H D (.tup [.str (Yi e p),.ref E,R])) v (V5 P w v ah)) d=Ga (.lst xs):=λb=>Qk b (Yj b D8.at_ nofun);have ag:Paired (iI e x o (λd=>∃h,L d=Ga h) (zj H D (.tup [.str (Yi e p),.ref E,R]))) B r:=L2.Paired.Z8 aq λ_ _ g=>{g.1,g.2.kp (λb=>O _ _ (M _ _ b)) (λb _=>O _ _ (M _ _ b))};have aW:∀q∈r,Zp (Yi e) (Zq e) x.lead q=Zp (Yi e) (Zq e) x.lead p->Vi e x o q=Vi e x o p:=λq G b=>by have hl:=aH.cong (af q G) pS b;simp only[Zp,Dg]at b;unfold Vi;rw[b.1,hl];congr 2;have:=congrArg (List.map o) b.2;rw[List.map_map,List.map_map]at this;exact this
   have aV:∃S:List Nat,S.length<=i+1/\Paired (iI e x o (λd=>∃h,L d=Ga h) (zj H D (.tup [.str (Yi e p),.ref E,R]))) ah S/\(S.map λp=>Zp (Yi e) (Zq e) x.lead p).Nodup/\(∀p∈S,p∈x.S)/\∀q∈x.S.take (i+1),∃p'∈S,Zp (Yi e) (Zq e) x.lead p'=Zp (Yi e) (Zq e) x.lead q:=by
    rw[<-aB];unfold Ww;by_cases U:(Yh B (Xg (Zp (Yi e) (Zq e) x.lead p))).isSome=Gf
    .rw[Gp U];refine{r,by lia,PJ aC aW ag,av,af,λq G=>?_};rw[List.take_add_one,m]at G;rcases List.mem_append.mp G with g|g
     .exact aj q g
     .have:q=p:=by simpa using g
      rw[this];exact(rj ag _).mp U
    .rw[Gi U];have az:∀q∈r,Zp (Yi e) (Zq e) x.lead q≠Zp (Yi e) (Zq e) x.lead p:=λq G b=>U ((rj ag _).mpr ⟨q,G,b⟩);refine{r++[p],by rw[List.length_append,List.length_singleton];lia,DU ag ⟨Xb,aC⟩,?_,λq G=>?_,λq G=>?_}
     .rw[List.map_append];refine List.nodup_append.mpr {av,by simp,λa ha d J=>?_};obtain⟨q,G,rfl⟩:=List.mem_map.mp ha;have:d=Zp (Yi e) (Zq e) x.lead p:=by simpa using J
      rw[this];exact az q G
     .rcases List.mem_append.mp G with g|g
      .exact af q g
      .have:q=p:=by simpa using g
       rw[this];exact pS
     .rw[List.take_add_one,m]at G;rcases List.mem_append.mp G with g|g
      .obtain⟨p',h1,T⟩:=aj q g;exact{p',List.mem_append_left _ h1,T}
      .have:q=p:=by simpa using g
       rw[this];exact{p,by simp,Xb}
   subst_vars;obtain⟨S,aP,aQ,aR,aT,aU⟩:=aV;and_intros;exact{_,_,ah,Xb,{Qb,Zi (λd xs b=>aD b) (by rw[<-aB];exact D8.keys.put k8)},{S,aP,L2.Paired.Z8 aQ λ_ _ g=>{g.1,g.2.kp aD (λb _=>aY b)},aR,aT,aU},Qk (O _ _ am) nf,Qk (O _ _ (M _ _ ab)) fl,λd u b J=>Qk (O _ _ (M _ _ (ac d u b J))) (Qd (t2 _ _ b) ao)}
 .rintro N I ⟨x2,x4,B,rfl,D5,⟨r,a4,aq,av,af,aj⟩,aM,ab,ac⟩;rw[Vr,List.take_length]at aj;exists h,ab;have t6:Q6 L (zj I l.l (.dK (dS x.S λp=>jv (x.lead p)))):=λd u b=>by
   by_cases g:d=l.l
   .subst g;rw[Qb,<-b];exact X.le.symm
   .exact Qk (ac d u b g) g
  have ay:∀{d:Gc}{xs:List V},I d=Ga (.tup xs)->(zj I l.l (.dK (dS x.S λp=>jv (x.lead p)))) d=Ga (.tup xs):=λb=>Qk b (Yj b ab nofun);have aO:∀{d:Gc}{xs:List V},I d=Ga (.lst xs)->(zj I l.l (.dK (dS x.S λp=>jv (x.lead p)))) d=Ga (.lst xs):=λb=>Qk b (Yj b ab nofun);have D6:DH P w (zj I l.l (.dK (dS x.S λp=>jv (x.lead p)))) v B:={Qk D5.at_ (Gn fl),Zi (λd xs b=>ay b) D5.keys};have aw:Paired (iI e x o (λd=>∃h,L d=Ga h) (zj I l.l (.dK (dS x.S λp=>jv (x.lead p))))) B r:=L2.Paired.Z8 aq λ_ _ g=>{g.1,g.2.kp ay (λb _=>aO b)};generalize zj I l.l (.dK (dS x.S λp=>jv (x.lead p)))=H6 at t6 D6 aw;refine{_,Xb,{v,B,Xb,D6.at_},v,B,Xb,Xb,D6,λS aN=>?_};have s7:=Qf aN (vvw S v);have D7:DH P w (zj H6 S (vvw S v)) v B:={s7 _ _ D6.at_,Zi (Q4.of s7) D6.keys};refine{S,v,B,Xb,Qb,D7,λH hl=>?_};have s8:=Qf hl (.lst (B.map λp=>p.2.2));have ax:=s7.trans s8;refine q (.ref H) (r.map (Vi e x o)) _ (t6.trans ax) {H,_,Xb,Qb,(by rintro⟨h,eo⟩;rw[s7.free hl|>t6.free]at eo;cases eo),?_} {{o,aK,λp m=>?_,λE Q=>?_},?_}
  .have an:∀{M:Hp},Q6 H6 M->∀{B:List KE}{r:List Nat},Paired (iI e x o (λd=>∃h,L d=Ga h) H6) B r->Paired (Uh M (λd=>∃h,L d=Ga h)) (B.map λp=>p.2.2) (r.map (Vi e x o)):=λ{M}O{B r}g=>by
    induction g with
    |nil=>exact .nil
    |cons g t W=>exact .cons (g.2.kp (λb=>O _ _ b) (λb _=>O _ _ b)) W
   exact an ax aw
  .obtain⟨p',h1,T⟩:=aj p m;have hl:=aH.cong (af p' h1) m T;refine List.mem_map.mpr {p',h1,?_};simp only[Zp,Dg]at T;unfold Vi;rw[T.1,hl];congr 2;have:=congrArg (List.map o) T.2;rw[List.map_map,List.map_map]at this;exact this
  .obtain⟨p,m,rfl⟩:=List.mem_map.mp Q;exact{p,af p m,Xb}
  .rw[List.map_map];have:∀{r:List Nat},(∀p∈r,p∈x.S)->(r.map λp=>Zp (Yi e) (Zq e) x.lead p).Nodup->(r.map ((λE:Row=>(E.1,E.2.1))∘Vi e x o)).Nodup:=by
    intro r O nd;unfold List.Nodup at nd⊢;rw[List.pairwise_map]at nd⊢;refine List.Pairwise.imp_of_mem (λ{a d}ha J g z=>g ?_) nd;simp only[Bf,Vi,Dg]at z;simp only[Zp,Dg];exists z.1;have aS:=O a ha;have bS:=O d J;have aA:∀{H D:List Nat},(∀q∈H,q∈x.S)->(∀q∈D,q∈x.S)->H.map (λq=>o (x.lead q))=D.map (λq=>o (x.lead q))->H.map x.lead=D.map x.lead:=by
     intro H;induction H with
     |nil=>intro D _ _ b;cases D with
      |nil=>rfl
      |cons _ _=>simp at b
     |cons u H W=>
      intro D hl hm b;cases D with
      |nil=>simp at b
      |cons M D=>simp only[List.map_cons,List.cons.injEq]at b⊢;exact{aK u (hl u List.mem_cons_self) M (hm M List.mem_cons_self) b.1,W (λq G=>hl q (List.mem_cons_of_mem _ G)) (λq G=>hm q (List.mem_cons_of_mem _ G)) b.2}
    exact aA (FO.pts a aS) (FO.pts d bS) z.2
   exact this af av
end
def Wj(fs:List Fm)(a:Lk):List (Nat×Nat):=match a.2.2 with
 |none=>(Zq fs a.1).zip (Zq fs a.2.1)
 |some _=>[]
inductive yt(P:Gg)(w:Gu)(C:Gc)(vs:List V)(H:Hp)(Q:VK):Prop
 |mk (n:Gc) (A:Na) (fs:List Fm) (tb:Nat) (x:Nn) (v:V) (lk:Lk) (h0:vs=[.ref n,v]) (h1:Z9 P w C H n A fs tb x) (h2:Ri H v lk) (h3:lk.1<fs.length) (h4:lk.2.1<fs.length) (h5:∀(r:Gc)(es:List V)(H':Hp),Q6 H H'->H r=Gh->H' r=Ga (.lst es)->Paired (mo H') es (Wj fs lk)->Q (.ref r) H'):yt P w C vs H Q
def pE(P:Gg)(w:Gu)(C:Gc):Sp:=λa H Q _=>yt P w C a H Q
structure Nd(fs:List Fm)(x:Nn)(one other:Nat)(ns:List Nat):Prop where
 lt:∀k∈ns,k<x.links.length
 top:∀st,O4 x.up one other st->∀p q,(p,q)∈st->∀k,x.Xj p q=Ga k->k∈ns
 low:∀k∈ns,∀lk,x.links[k]?=Ga lk->∀p q,(p,q)∈Wj fs lk->∀st,O4 x.up p q st->∀u v,(u,v)∈st->∀j,x.Xj u v=Ga j->j∈ns/\j<k
 only:∀k∈ns,∃st p q j,O4 x.up one other st/\(p,q)∈st/\x.Xj p q=Ga j/\k<=j
inductive uG(P:Gg)(w:Gu)(C:Gc)(vs:List V)(H:Hp)(Q:VK):Prop
 |mk (n:Gc) (A:Na) (fs:List Fm) (tb:Nat) (x:Nn) (one:Nat) (other:Nat) (h0:vs=[.ref n,jv one,jv other]) (h1:Z9 P w C H n A fs tb x) (h2:Wk (Yi fs) (Zq fs) x []) (h3:hZ fs x.S) (h4:one∈x.S) (h5:other∈x.S) (h6:x.lead one=x.lead other) (h7:x.S.length<=1000) (h8:x.links.length<64) (h9:∀(r:Gc)(ns:List Nat)(H':Hp),Q6 H H'->H r=Gh->H' r=Ga (.lst (ns.map jv))->ns.Nodup->ns.Pairwise (·<=·)->Nd fs x one other ns->Q (.ref r) H'):uG P w C vs H Q
def sr(P:Gg)(w:Gu)(C:Gc):Sp:=λa H Q _=>uG P w C a H Q
theorem xE{r:Option Ji}(h:jk H v r):decide (v=V.non)= !r.isSome:=by
 cases r with
 |none=>rw[show v=V.non from h];rfl
 |some r=>
  cases r with
  |told n=>obtain⟨c,rfl,_⟩:=h;rfl
  |asked=>obtain⟨c,rfl,_⟩:=h;rfl
theorem lA(I:Wk (Yi fs) (Zq fs) x []){e:Lk}(j:x.links[k]?=Ga e)(d:(p,q)∈Wj fs e):p∈x.S/\q∈x.S/\Cn (x.links.take k) p q:=by
 obtain⟨a,b,r⟩:=e;obtain⟨f,g,h⟩:=I.lnk k a b r j;cases r with
 |some r=>simp[Wj]at d
 |none=>simp only[Wj]at d;obtain⟨_,l,h⟩:=h rfl;obtain⟨i,c⟩:=List.mem_iff_getElem?.mp d;rw[List.getElem?_zip_eq_some]at c;exact{I.pt_ a f p (List.mem_of_getElem? c.1),I.pt_ b g q (List.mem_of_getElem? c.2),h i p q c.1 c.2}
section
variable{P:Gg}{w:Gu}{K:Gd}{mg:Tb->Option Value}{base:Heap}
theorem xW:Q3 ["net","link"] ["net","link"] (Ql nH):=by eq_refl
theorem Pu(F:We K "pairs_below" "pairs_below" nH f fd)(d:Ut K mg C)(j:J2 mg):Qy P w K mg base Z5 1 f fd ["net","link"] (pE P w C):=by
 refine F.ok xW (λvs E H D h=>?_) (λab b ac s E vs H D hr h=>?_)
 .obtain⟨n,b,S,tb,x,aa,y,rfl,_⟩:=h;rfl
 obtain⟨n,b,S,tb,x,aa,y,rfl,X,⟨c,A,rfl,i,Z⟩,u,v,q⟩:=h;have nd:=xW.nd;exists _,Qc (Q8 (Qn Oy (Qm Qo (pv 1) Qi) Uo (Qr _)) (Qh (Qt (Zu Qe))) Qv)
  (Qh (Qt (uL rfl rfl j.list rfl j.zip (Qa (Qm Qo (Qm Zc (Qu (pv 0) rfl) (Qm Qo (pv 1) Qi)) Qi) (Qa (Qm Qo (Qm Zc (Qu (pv 0) rfl) (Qm Qo (pv 1) Qi)) Qi) Qe)))))
 exists _,Xb,c,_,_,_,Xb,Xb,Q9.of i,iJ _ _ _ _,Xb,_,Xb;rw[xE Z];obtain⟨a,I,B⟩:=y;cases B with
 |some B=>refine Yp {Gz _,λp e=>?_};exact q p [] _ (Qf e _) e Qb .nil
 |none=>
  refine Q5 ?_;obtain⟨k,z⟩:=X.ob;obtain⟨g,l,e⟩:=X.fo;have m:a<g.length:=by rw[Gq e];exact u
  have o:I<g.length:=by rw[Gq e];exact v
  obtain⟨y1,r,J,M,O,T,V⟩:=Qw e (List.getElem?_eq_getElem m);obtain⟨y2,t,L,N,Q,U,W⟩:=Qw e (List.getElem?_eq_getElem o);rw[jd u]at r;rw[jd v]at t;cases r;cases t;exists _,Xb,n,C,k,_,_,Xb,z,d.cl,d.Qdq,U8 _,_,Xb,c,_,_,_,Xb,Xb,Q9.of i,Rz _ _,b.f,g,_,_,Xb,Xb,Za.of l,Qj (List.getElem?_eq_getElem m),J,_,_,_,O,Xb,Q9.of T,Rh _ _ _;exists _,Xb,n,C,k,_,_,Xb,z,d.cl,d.Qdq,U8 _,_,Xb,c,_,_,_,Xb,Xb,Q9.of i,Rh _ _ _,b.f,g,_,_,Xb,Xb,Za.of l,Qj (List.getElem?_eq_getElem o),L,_,_,_,Q,Xb,Q9.of U,Rh _ _ _;exact{M,N,_,_,Xb,.inr {Q9.of V,Q9.of W},λA R G sm r0 Y pr=>q A R G sm r0 Y (p9 pr)}
theorem tr(Z:Ut K mg C){J:List V}{h:List (Nat×Nat)}{N0:List Nat}{R S g T U Y:Option V}{v:Ends}
  (X:Z9 P w C H n A fs tb x)(g1:Q6 H H1)(d0:H d=Gh)(M:H1 d=Ga (.dK (dS N0 λ_=>V.bl Gf)))(hL:H1 L=Ga (.lst J))(ac:Paired (mo H1) J h)(N:∀p q,(p,q)∈h->∃k,x.Xj p q=Ga k/\k<m)(am:N0.Nodup)(o:m<=64)(hN:∀k∈N0,k<64)
  (q:∀b g f,b.Nodup->(∀k∈N0,k∈b)->(∀k∈b,k∈N0\/(k<m/\∃p q,(p,q)∈h/\x.Xj p q=Ga k))->(∀p q k,(p,q)∈h->x.Xj p q=Ga k->k∈b)->Rf d H1 f->f d=Ga (.dK (dS b λ_=>V.bl Gf))->v.nx [Ga (.ref n),R,S,Ga (.ref d),g,T,U,Y] f):
  ∃W:Nat->Nat->St->Hp->Prop,(∃m,W 0 m [Ga (.ref n),R,S,Ga (.ref d),g,T,U,Y] H1)/\∀i m l H,W i m l H->
   ((hF K L).stop i H/\v.nx l H)\/((hF K L).go i H/\∃b:St->Hp->Prop,(∀s f,b s f->∃o,o<m/\W (i+1) o s f)/\∀x f,(hF K L).yld i H x f->V2 4 x l f λB H2=>t9 (Vz 3) (ko (lZ K (Vz 0) "link_at") (Vz 4)) (tC (V.bl Gf)) {v with nx:=b,ct:=b,bk:=v.nx} B H2):=by
 obtain⟨dx,o1⟩:=X.ob;obtain⟨ar,D,ap,ah⟩:=X.at_;have Ld:L≠d:=Yj hL M nofun;let ao:Nat->St->Hp->Prop:=λi l H2=>jV λ(g:Option V)(b:List Nat)=>iQ (l=[Ga (.ref n),R,S,Ga (.ref d),g,T,U,Y]) (b.Nodup) (∀k∈N0,k∈b) (∀k∈b,k∈N0\/(k<m/\∃p q,(p,q)∈h/\x.Xj p q=Ga k)) (∀p q k,(p,q)∈h.take i->x.Xj p q=Ga k->k∈b) (Rf d H1 H2) (H2 d=Ga (.dK (dS b λ_=>V.bl Gf)))
 refine Y9 (K:=K) (a:=L) (xs:=J) ao
  {g,N0,Xb,am,λ_ e=>e,λ_ e=>.inl e,by simp,Rf.refl,M} (by rintro i l H2 _ ⟨_,_,_,_,_,_,_,aa,_⟩;exact Za.of (aa _ _ hL Ld)) ?_ ?_
 .rintro i y l H2 hi ⟨g,b,rfl,t,F,u,G,r,I⟩;obtain⟨⟨p,o⟩,he,c,rfl,hc⟩:=Qw ac hi;have ae:(p,o)∈h:=List.mem_of_getElem? he;obtain⟨k,O,ak⟩:=N p o ae;have nd1:n≠d:=Qd o1 d0;have al:A.a≠d:=Qd D d0;have o2:=r _ _ (g1 _ _ o1) nd1;have ag:=r _ _ (g1 _ _ D) al;have ai:=r _ _ hc (Yj hc M nofun);have dg:Vf H2 A.a (.ref c) (Ga (jv k)):=by have:=Vf.t (k:=[ki p,ki o]) ag (show H2 c=Ga (.tup ([ki p,ki o].map kV))from ai);rw[ah p o,O]at this;exact this
  have aq:b.length<=64:=by have:b.length<=(List.range 64).length:=Xt t λk N=>List.mem_range.mpr ((u k N).elim (hN k) (λe=>by have:=e.1;ext));rwa[List.length_range]at this
  have dp:=Rm.k (k:=ki k) (v:=V.bl Gf) I (by rw[Vr,GV];ext);exists _,Xb,_,Xb,n,C,dx,_,_,Xb,o2,Z.cl,Z.Qcn,pe _,_,Xb,A.a,_,Xb,dg,d,_,Xb,dp;have ab:Rf d H1 (zj H2 d (.dK (Vm (dS b λ_=>V.bl Gf) (ki k) (V.bl Gf)))):=λc an af e=>Qk (r c an af e) e;have tk:∀{B:List Nat},(∀j∈b,j∈B)->k∈B->∀p q k,(p,q)∈h.take (i+1)->x.Xj p q=Ga k->k∈B:=λ{B}hs aj p' q' k' ad Q=>by
   rw[List.take_add_one,he]at ad;rcases List.mem_append.mp ad with e|e
   .exact hs _ (G p' q' k' e Q)
   .have:(p',q')=(p,o):=by simpa using e
    cases this;rw[O]at Q;cases Q;exact aj
  by_cases E:k∈b
  .exists _,b,Xb,t,F,u,tk (λ_ e=>e) E,ab;rw[Qb,qx E];congr 2;exact W8 λp _=>by split<;>rfl
  .exists _,b++[k],Xb,List.nodup_append.mpr {t,by simp,λa D aa hb=>by simp at hb;subst hb;exactλz=>E (z▸D)},λj s=>List.mem_append_left _ (F j s),λj s=>?_,tk (λj s=>List.mem_append_left _ s) (by simp),ab
   .rcases List.mem_append.mp s with e|e
    .exact u j e
    .have:j=k:=by simpa using e
     rw[this];exact .inr ⟨ak,p,o,ae,O⟩
   .rw[Qb,jn E];congr 2;exact W8 λp _=>by split<;>rfl
 .rintro l H2 ⟨g,b,rfl,t,F,u,G,r,I⟩;rw[Gq ac,List.take_length]at G;exact q b g H2 t F u G r I
theorem tN:Q3 ["net","one","other","needed","step","number","part","twin"] ["net","one","other"] (Ql I0):=by eq_refl
theorem Bq(F:We K "links_needed" "links_needed" I0 f fd)(L:Ut K mg C)(aq:J2 mg)(mW:Ye K C "way" fW)(GW:Qy P w K mg base Z5 2 fW fdW ["self","one","other"] (pG P w C))(bW:zk K fdW ["self","one","other"] [])
  (GB:Qy P w K mg base Z5 1 fB fdB ["net","link"] (pE P w C))(kB:KI K fB)(bB:zk K fdB ["net","link"] [])(mB:MG mg "pairs_below" fB):
  Qy P w K mg base Z5 3 f fd ["net","one","other"] (sr P w C):=by
 refine F.ok tN (λS ah l h b=>?_) (λax T ay s ah S l h hr b=>?_)
 .obtain⟨n,T,G,tb,x,ak,al,rfl,_⟩:=b;rfl
 obtain⟨n,T,G,tb,x,ak,al,rfl,X,ab,FO,oS,tS,he,hS,a5,q⟩:=b;have hu:=Je hr;have aU:Yd 1 _:=hr.mono (by ext);have nd:=tN.nd;show∃t,Ia ?my _ t/\_;let w4:Xk ?my I0 3:={_,Qh (Qt (Qp (HS Xb) rfl aq.sorted MH (Qa (pv 3) Qe)))}
 let w3:Xk ?my I0 2:=⟨_,Qc (Z6 Gy rfl (zW rfl aq.range (Qa (Zt jz (Qp Zs rfl aq.len Gx (Qa (Qu (pv 0) rfl) Qe)) Qi) (Qa (Jf Vn Qi) (Qa (Jf Vn Qi) Qe)))) (Zz 5 nd)
   (Qh (Q8 (jO (nJ hu (pv 5) (pv 3)))
    (Qh (Z6 Gy rfl (Yg (Zl GB aU rfl mB kB bB .nil Q7 (Qa (pv 0) (Qa (Qm Zc (Qu (pv 0) rfl) (pv 5)) Qe)))) (Vx rfl (Zn (Zz 6 nd) (Zn (Zz 7 nd) Wm)))
     (Qh (Z6 Gy rfl (Yg (Zh (pv 0) L.cl mW GW hr bW .nil Q7 (Qa (pv 6) (Qa (pv 7) Qe)))) (Zz 4 nd)
      (Qh (Ws hu (pv 3) (Zx hu (Qu (pv 0) rfl) (pv 4) (λ_ _=>rfl)) Yf Xb)))))) Qv))) w4.2⟩
 let w2:Xk ?my I0 1:=⟨_,Qc (Z6 Gy rfl (Yg (Zh (pv 0) L.cl mW GW hr bW .nil Q7 (Qa (pv 1) (Qa (pv 2) Qe)))) (Zz 4 nd)
   (Qh (Ws hu (pv 3) (Zx hu (Qu (pv 0) rfl) (pv 4) (λ_ _=>rfl)) Yf Xb))) w3.2⟩
 exists _,Qc (Qz 3 nd Jc) w2.2;intro d d0;have s1:=Qf d0 (.dK []);obtain⟨dx,o1⟩:=X.ob;obtain⟨ls,aH,aI⟩:=X.li;have aW:=Gq aI;have aV:∀p q k,x.Xj p q=Ga k->k<x.links.length:=λp q k b=>by obtain⟨Q,b|b⟩:=ab.fst.Qg0 p q k b<;>exact(List.getElem?_eq_some_iff.mp b).1
 refine{_,Xb,n,dx,_,Xb,s1 _ _ o1,pD _,_,Xb,_,Xb,n,T,G,tb,x,ak,al,Xb,X.same s1,ab,oS,tS,he,hS,λaR es v H2 g2 L0 hL aT W=>{aR,Xb,{_,Za.of hL},?_}};refine tr L X (s1.trans g2) d0 (N0:=[]) (g2 _ _ Qb) hL aT (m:=x.links.length) (λp q b=>?_) List.nodup_nil (by ext) (λk e=>nomatch e) λg J H3 Y i1 i2 i3 bt e3=>?_
 .obtain⟨k,r,o⟩:=W.lk p q b;exact{k,r,aV _ _ _ r}
 have g3:Q6 ah H3:=λD ar A=>bt _ _ (g2 _ _ (s1 _ _ A)) (Qd A d0);exists _,Xb,n,C,dx,_,_,Xb,g3 _ _ o1,L.cl,L.links,Jh _,T.k,_,Xb,.inl (Za.of (g3 _ _ aH)),_,_,Xb,Xb,_,Xb,_,Xb,x.links.length,by rw[aW],(by ext);let aX:Nat->St->Hp->Prop:=λi R H4=>iL λ(J x5 x6 x7:Option V)(g:List Nat)=>hB (R=[Ga (.ref n),Ga (jv ak),Ga (jv al),Ga (.ref d),J,x5,x6,x7]) (Q6 ah H4) (H4 d=Ga (.dK (dS g λ_=>V.bl Gf))) (g.Nodup) (∀k∈g,k<x.links.length) (∀p q k,(p,q)∈v->x.Xj p q=Ga k->k∈g) (∀k∈g,∃p q j,(p,q)∈v/\x.Xj p q=Ga j/\k<=j) (∀k∈g,x.links.length - i<=k->∀B,x.links[k]?=Ga B->∀p q,(p,q)∈Wj G B->∀v,O4 x.up p q v->∀u m,(u,m)∈v->∀j,x.Xj u m=Ga j->j∈g/\j<k)
 refine A8 aX
  {_,_,_,_,g,Xb,g3,e3,Y,λk e=>(i2 k e).elim nofun (·.1),i3,λk e=>(i2 k e).elim nofun (by rintro⟨_,p,q,r,o⟩;exact{p,q,k,r,o,Gm _}),λk e b=>?_} ?_ ?_
 .have:=(i2 k e).elim nofun (·.1);ext
 .rintro i R H4 hi ⟨J,x5,x6,x7,g,rfl,E,U,Y,ac,aj,ae,ai⟩;have aQ:((x.links.length:Int) - 1 - (i:Int))=((x.links.length - 1 - i:Nat):Int):=by ext
  rw[aQ];generalize a4:x.links.length - 1 - i=h;have kl:h<x.links.length:=by ext
  have dg:Vf H4 d (jv h) (Xh (dS g λ_=>V.bl Gf) (ki h)):=Vf.k (k:=ki h) U;exists _,Xb,_,Xb,d,_,Xb,dg,_,Xb;rw[vF];by_cases af:h∈g
  .rw[Gw af];refine Yp ?_;have aw:h<ls.length:=by ext
   subst_vars;obtain⟨B,ad,aM⟩:=Qw aI (List.getElem?_eq_getElem aw);have aN:=aM.Qs (Q4.of E);obtain⟨a,D,rs⟩:=B;obtain⟨aS,bS,_⟩:=ab.lnk h a D rs ad;and_intros;refine{_,Xb,_,Xb,n,C,dx,_,_,Xb,E _ _ o1,L.cl,L.links,Jh _,_,Xb,T.k,ls,_,_,Xb,Xb,Za.of (E _ _ aH),Qj (List.getElem?_eq_getElem aw),n,T,G,tb,x,_,(a,D,rs),Xb,X.same E,aN,FO.lt a aS,FO.lt D bS,λL5 aL H5 g5 aJ au av=>{L5,Xb,{_,Za.of au},?_}};have aK:L5≠d:=Gn (Qd U aJ);have aO:∀{l:List Nat}{i':Nat},(∀k∈g,k∈l)->(∀k∈l,k∈g\/k<h)->(∀p q,(p,q)∈Wj G (a,D,rs)->∀v,O4 x.up p q v->∀u m,(u,m)∈v->∀j,x.Xj u m=Ga j->j∈l/\j<h)->
     ∀k∈l,x.links.length - (i+1)<=k->∀B,x.links[k]?=Ga B->∀p q,(p,q)∈Wj G B->∀v,O4 x.up p q v->∀u m,(u,m)∈v->∀j,x.Xj u m=Ga j->j∈l/\j<k:=λ{l i'}a1 a2 a3 k e b B am p q H Z I u m N j M=>by
    rcases Tp k (x.links.length - i)with o|o
    .have:k=h:=by ext
     subst this;rw[ad]at am;cases am;exact a3 p q H Z I u m N j M
    .have ag:k∈g:=(a2 k e).elim id λz=>by ext
     obtain⟨b1,b2⟩:=ai k ag o B am p q H Z I u m N j M;exact{a1 _ b1,b2}
   let aP:Nat->St->Hp->Prop:=λi5 R S=>hA λ(J x6 x7:Option V)(l:List Nat)=>iQ (R=[Ga (.ref n),Ga (jv ak),Ga (jv al),Ga (.ref d),J,Ga (jv h),x6,x7]) (Rf d H5 S) (S d=Ga (.dK (dS l λ_=>V.bl Gf))) (l.Nodup) (∀k∈g,k∈l) (∀k∈l,k∈g\/k<h) (∀p q,(p,q)∈(Wj G (a,D,rs)).take i5->∀v,O4 x.up p q v->∀u m,(u,m)∈v->∀j,x.Xj u m=Ga j->j∈l/\j<h)
   refine Y9 (K:=K) (a:=L5) (xs:=aL) aP
    {_,_,_,g,Xb,Rf.refl,g5 _ _ U,Y,λ_ b=>b,λ_ b=>.inl b,by simp} (by rintro i5 R S _ ⟨_,_,_,_,_,bt,_⟩;exact Za.of (bt _ _ au aK)) ?_ ?_
   .rintro i5 y R S aD ⟨J,x6,x7,l,rfl,aa,e6,an,sub,only,done⟩;subst_vars;obtain⟨⟨p,Q⟩,ap,c,rfl,hc⟩:=Qw av aD;have aF:(p,Q)∈Wj G (a,D,rs):=List.mem_of_getElem? ap;obtain⟨pS,rS,cn⟩:=lA ab ad aF;and_intros;have g6:Q6 ah S:=λD ar A=>aa _ _ (g5 _ _ (E _ _ A)) (Qd A d0);have aE:x.lead p=x.lead Q:=(ab.conn p pS Q rS).mpr (cn.mono λz hz=>List.mem_of_mem_take hz);have c6:=aa _ _ hc (Yj hc (g5 _ _ U) nofun);exists c,_,Xb,Q9.of c6,Xb,_,_,Xb,_,_,Xb,Xb;refine{_,Xb,n,dx,_,Xb,g6 _ _ o1,pD _,_,Xb,_,Xb,n,T,G,tb,x,p,Q,Xb,X.same g6,ab,pS,rS,aE,hS,λL7 aZ a0 H7 g7 aY ao aC W7=>{L7,Xb,{_,Za.of ao},?_}};refine tr L X (g6.trans g7) d0 (N0:=l) (g7 _ _ e6) ao aC (m:=h) (λp q b=>?_) an (by ext) (λk e=>?_) λN8 J H8 aG i1 i2 i3 aB e8=>?_
    .obtain⟨k,r,o⟩:=W7.lk p q b;exact{k,r,o h cn}
    .rcases only k e with b|b
     .have:=ac k b;ext
     .ext
    .refine{_,_,_,N8,Xb,λD ar A b=>aB _ _ (g7 _ _ (aa _ _ A b)) b,e8,aG,λk e=>i1 k (sub k e),λk e=>(i2 k e).elim (only k) (λb=>.inr b.1),λp' O H Z I u m N j M=>?_};rw[List.take_add_one,ap]at H;rcases List.mem_append.mp H with b|b
     .obtain⟨b1,b2⟩:=done p' O b Z I u m N j M;exact{i1 _ b1,b2}
     .have:(p',O)=(p,Q):=by simpa using b
      cases this;have:=I.uniq W7.rel;subst this;obtain⟨k,r,o⟩:=W7.lk u m N;rw[M]at r;cases r;exact{i3 u m j N M,o h cn}
   .rintro R S ⟨J,x6,x7,l,rfl,aa,e6,an,sub,only,done⟩;rw[Gq av,List.take_length]at done;exact{_,_,_,_,l,Xb,λD ar A=>aa _ _ (g5 _ _ (E _ _ A)) (Qd A d0),e6,an,λk e=>(only k e).elim (ac k) (λb=>by ext),λp q k r o=>sub _ (aj p q k r o),λk e=>(only k e).elim (ae k) (λb=>by obtain⟨p,q,j,r,o,h3⟩:=ae h af;exact{p,q,j,r,o,by ext}),aO (i':=0) sub only done}
  .rw[Gr af];refine Q5 {_,_,_,_,g,Xb,E,U,Y,ac,aj,ae,λk e b=>?_};rcases Tp k (x.links.length - i)with o|o
   .have:k=h:=by ext
    exact absurd (this▸e) af
   .exact ai k e o
 .rintro R H4 ⟨J,x5,x6,x7,g,rfl,E,U,Y,ac,aj,ae,ai⟩;have aA:g.length<64:=by have:g.length<=(List.range x.links.length).length:=Xt Y λk e=>List.mem_range.mpr (ac k e);rw[List.length_range]at this;ext
  refine{_,Xb,d,_,g.map (λk:Nat=>(k:Int)),Xb,U,?_,by rw[Vr];exact aA,λQ h r0 S hs=>?_}
  .unfold dS;rw[List.map_map,List.map_map];rfl
  have az:h=(h.map DO).map (λk:Nat=>(k:Int)):=by rw[List.map_map];refine(List.map_id h).symm.trans (List.map_congr_left λz hz=>?_);have:=S.mem_iff.mp hz;obtain⟨k,_,rfl⟩:=List.mem_map.mp this;rfl
  have l:(h.map DO).Perm g:=by
   have:=S.map DO;rw[List.map_map]at this;have A:(g.map (DO∘λk:Nat=>(k:Int)))=g:=by refine(List.map_congr_left λk _=>?_).trans (List.map_id g);rfl
   rwa[A]at this
  have eo:HO.lst (h.map V.int)=HO.lst ((h.map DO).map jv):=by
   congr 1
   conv=>lhs;rw[az]
   rw[List.map_map];rfl
  have pw:(h.map DO).Pairwise (·<=·):=by rw[List.pairwise_map];exact hs.imp λb=>by ext
  rw[eo];refine q Q (h.map DO) _ (E.trans (Qf r0 _)) (E.free r0) Qb (l.nodup_iff.mpr Y) pw {λk e=>ac k (l.mem_iff.mp e),λZ I p O H k e=>?_,λk e B ad p O H Z I u m N j M=>?_,λk e=>?_}
  .have:=I.uniq W.rel;subst this;exact l.mem_iff.mpr (aj p O k H e)
  .obtain⟨b1,b2⟩:=ai k (l.mem_iff.mp e) (by ext) B ad p O H Z I u m N j M;exact{l.mem_iff.mpr b1,b2}
  .subst_vars;obtain⟨p,O,j,r,o,h3⟩:=ae k (l.mem_iff.mp e);and_intros;exact{v,p,O,j,W.rel,r,o,h3}
end
inductive Lr where
 |told (n:Nat)
 |asked
 |turn (k:Nat)
 |chain (ks:List Nat)
 |like (ks:List Nat)
abbrev Ln:=Nat×Nat×Lr
variable{ls:List Ln}
def mr(a:List Ln):Nat->List Nat->Nat->Prop
 |p,[],q=>p=q
 |p,k::b,q=>∃m r,a[k]?=Ga (p,m,r)/\mr a m b q
def iP(fs:List Fm)(d:List Lk)(c:List Ln)(a b:Nat):Lr->Prop
 |.told n=>(a,b,Ga (.told n))∈d
 |.asked=>(a,b,Ga .asked)∈d
 |.turn k=>∃r,c[k]?=Ga (b,a,r)
 |.chain e=>mr c a e b
 |.like e=>Yi fs a=Yi fs b/\(Zq fs a).length=(Zq fs b).length/\e.length=(Zq fs a).length/\∀j k p q:Nat,e[j]?=Ga k->(Zq fs a)[j]?=Ga p->(Zq fs b)[j]?=Ga q->∃r,c[k]?=Ga (p,q,r)
def ia(fs:List Fm)(c:List Lk)(ls:List Ln):Prop:=∀(i a b:Nat)r,ls[i]?=Ga (a,b,r)->iP fs c (ls.take i) a b r
theorem ia.nil:ia fs lks []:=λi a b r h=>by simp at h
theorem ia.snoc{r:Lr}(g:ia fs lks ls)(h:iP fs lks ls a b r):ia fs lks (ls++[(a,b,r)]):=λi f j k c=>by
 rcases Tp i ls.length with d|d
 .rw[List.getElem?_append_left d]at c;rw[List.take_append_of_le_length (by lia)];exact g i f j k c
 .rw[List.getElem?_append_right d]at c;have:i=ls.length:=by
   rcases Tp (i - ls.length) 1 with e|e
   .lia
   .rw[List.getElem?_eq_none (by simpa using e)]at c;cases c
  subst this;simp at c;obtain⟨rfl,rfl,rfl⟩:=c;rw[List.take_left];exact h
def Rj(H:Hp)(X:Gc->Prop)(v:V):Lr->Prop
 |.told n=>∃c,v=.ref c/\H c=Ga (.tup [.str "told",jv n])
 |.asked=>∃c,v=.ref c/\H c=Ga (.tup [.str "asked"])
 |.turn k=>∃c,v=.ref c/\H c=Ga (.tup [.str "turn",jv k])
 |.chain a=>∃c l,v=.ref c/\H c=Ga (.tup [.str "chain",.ref l])/\H l=Ga (.lst (a.map jv))/\¬X l/\a.length<=1000000
 |.like a=>∃c l,v=.ref c/\H c=Ga (.tup [.str "like",.ref l])/\H l=Ga (.lst (a.map jv))/\¬X l/\a.length<=1000000
inductive hV(H:Hp)(X:Gc->Prop)(us:List V)(v:V)(l:Ln):Prop
 |mk (c:_) (v1:_) (v2:_) (rv:_) (h0:v=.ref c) (h1:H c=Ga (.tup [v1,v2,rv])) (h2:us[l.1]?=Ga v1) (h3:us[l.2.1]?=Ga v2) (h4:Rj H X rv l.2.2):hV H X us v l
structure Ik(L M:Gc)(H H':Hp):Prop where
 keep:∀b o,H b=Ga o->b≠L->b≠M->H' b=Ga o
 there:∀b,H' b=Gh->H b=Gh
theorem Ik.refl:Ik L M H H:={λ_ _ e _ _=>e,λ_ h=>h}
theorem Ik.trans{d:Hp}(a:Ik L M H H1)(b:Ik L M H1 d):Ik L M H d:={λc o e f g=>b.keep c o (a.keep c o e f g) f g,λc h=>a.there c (b.there c h)}
theorem Ik.of(g:Q6 H H1):Ik L M H H1:={λc o e _ _=>g c o e,λc h=>g.free h}
theorem Rj.kp(e:∀{c:Gc}{f:List V},H c=Ga (.tup f)->H' c=Ga (.tup f))(j:∀{c:Gc}{f:List V},H c=Ga (.lst f)->¬X c->H' c=Ga (.lst f)):∀{r:Lr},Rj H X v r->Rj H' X v r:=by
 intro r h;cases r with
 |told n=>obtain⟨c,a,b⟩:=h;exact{c,a,e b}
 |asked=>obtain⟨c,a,b⟩:=h;exact{c,a,e b}
 |turn k=>obtain⟨c,a,b⟩:=h;exact{c,a,e b}
 |chain m=>obtain⟨c,l,a,b,g,d,i⟩:=h;exact{c,l,a,e b,j g d,d,i}
 |like m=>obtain⟨c,l,a,b,g,d,i⟩:=h;exact{c,l,a,e b,j g d,d,i}
theorem hV.kp{X:Gc->Prop}{H b:Hp}(d:∀{c:Gc}{a:List V},H c=Ga (.tup a)->b c=Ga (.tup a))(m:∀{c:Gc}{a:List V},H c=Ga (.lst a)->¬X c->b c=Ga (.lst a)){e:List V}{v:V}{l:Ln}(h:hV H X e v l):hV b X e v l:=by obtain⟨c,o,p,n,f,g,i,j,k⟩:=h;exact{c,o,p,n,f,d g,i,j,k.kp d m}
theorem Rj.ex{Y:Gc->Prop}(g:∀c a,H c=Ga (.lst a)->¬X c->¬Y c):∀{r:Lr},Rj H X v r->Rj H Y v r:=by
 intro r h;cases r with
 |told n=>exact h
 |asked=>exact h
 |turn k=>exact h
 |chain i=>obtain⟨c,l,b,d,a,e,f⟩:=h;exact{c,l,b,d,a,g _ _ a e,f}
 |like i=>obtain⟨c,l,b,d,a,e,f⟩:=h;exact{c,l,b,d,a,g _ _ a e,f}
theorem hV.ex{X Y:Gc->Prop}{H:Hp}(i:∀c b,H c=Ga (.lst b)->¬X c->¬Y c){a:List V}{v:V}{l:Ln}(h:hV H X a v l):hV H Y a v l:=by obtain⟨c,k,m,j,b,d,e,f,g⟩:=h;exact{c,k,m,j,b,d,e,f,g.ex i}
structure Sv where
 sh:Gc
 n:Gc
 t:Gc
 L:Gc
 M:Gc
 A:Na
 fs:List Fm
 tb:Nat
 x:Nn
 us:List V
 H0:Hp
 Ex:Gc->Prop
def iG(v:Sv):List (Tb×V):=[("things",.ref v.t),("net",.ref v.n),("lines",.ref v.L),("numbers",.ref v.M)]
structure Vl(P:Gg)(w:Gu)(C D:Gc)(v:Sv)(H:Hp)(ls:List Ln)(N:Nat->Nat->Option Nat):Prop where
 ob:∃dx,H v.sh=Ga (.ins D dx (iG v))
 sam:Q6 v.H0 H
 L0:v.H0 v.L=Gh
 M0:v.H0 v.M=Gh
 net:Z9 P w C v.H0 v.n v.A v.fs v.tb v.x
 th:v.H0 v.t=Ga (.lst v.us)
 li:∃vs,H v.L=Ga (.lst vs)/\Paired (hV H v.Ex v.us) vs ls
 nu:∃zw,H v.M=Ga (.dT zw)/\zw.length<=ls.length/\∀i j:Nat,Xh zw [ki i,ki j]=(N i j).map jv
 ok:∀i j k,N i j=Ga k->∃r,ls[k]?=Ga (i,j,r)
 good:ia v.fs v.x.links ls
 exL:v.Ex v.L
 exA:∀b,v.Ex b->∃o,H b=Ga o
theorem Ik.tp{a:List (List X7×V)}(F:Ik L M H H')(d:H M=Ga (.dT a))(b:H L=Ga (.lst xs)){c:Gc}(e:H c=Ga (.tup ys)):H' c=Ga (.tup ys):=F.keep _ _ e (Yj e b nofun) (Yj e d nofun)
theorem Ik.lp{a:List (List X7×V)}(F:Ik L M H H')(d:H M=Ga (.dT a))(b:X L){c:Gc}(e:H c=Ga (.lst ys))(h:¬X c):H' c=Ga (.lst ys):=F.keep _ _ e (λz=>h (z▸b)) (Yj e d nofun)
theorem Vl.fr{v:Sv}(S:Vl P w C D v H ls N)(g:Q6 H H'):Vl P w C D v H' ls N:=by obtain⟨c,j⟩:=S.ob;obtain⟨k,f,i⟩:=S.li;obtain⟨a,n1,n2,n3⟩:=S.nu;exact{{c,g _ _ j},S.sam.trans g,S.L0,S.M0,S.net,S.th,{k,g _ _ f,L2.Paired.Z8 i λ_ _ h=>h.kp (λe=>g _ _ e) (λe _=>g _ _ e)},{a,g _ _ n1,n2,n3},S.ok,S.good,S.exL,λb d=>let⟨o,e⟩:=S.exA b d;{o,g _ _ e}}
theorem Vl.more{v:Sv}(S:Vl P w C D v H ls N)(g:H r=Gh):Vl P w C D {v with Ex:=λb=>v.Ex b\/b=r} (zj H r (.lst [])) ls N:=by
 have a:=S.fr (Qf g (.lst []));obtain⟨n,k,l⟩:=S.li;obtain⟨i,d,m⟩:=a.li;have:i=n:=by rw[Qf g (.lst []) _ _ k]at d;cases d;rfl
 subst this;refine{a.ob,a.sam,a.L0,a.M0,a.net,a.th,{i,d,L2.Paired.Z8 l λ_ _ h=>(h.ex (Y:=λb=>v.Ex b\/b=r) λc o e j z=>?_).kp (λe=>Qf g _ _ _ e) (λe _=>Qf g _ _ _ e)},a.nu,a.ok,a.good,.inl a.exL,λb f=>?_}
 .rcases z with z|z
  .exact j z
  .rw[z,g]at e;cases e
 .rcases f with f|f
  .exact a.exA b f
  .exact{_,by rw[f];exact Qb}
theorem Vl.less{v:Sv}(S:Vl P w C D {v with Ex:=λb=>v.Ex b\/b=r} H ls N)(a:v.Ex v.L):Vl P w C D v H ls N:=by obtain⟨j,g,i⟩:=S.li;exact{S.ob,S.sam,S.L0,S.M0,S.net,S.th,{j,g,L2.Paired.Z8 i λ_ _ h=>h.ex λc k e f z=>f (.inl z)},S.nu,S.ok,S.good,a,λb d=>S.exA b (.inl d)}
theorem Vl.grow{v:Sv}{s:List V}(S:Vl P w C D v H ls N)(m:v.Ex r)(c:H r=Ga (.lst ys))(j:r≠v.L)(i:v.H0 r=Gh):Vl P w C D v (zj H r (.lst s)) ls N:=by
 obtain⟨g,f⟩:=S.ob;obtain⟨q,n,p⟩:=S.li;obtain⟨d,n1,n2,n3⟩:=S.nu;refine{{g,Qk f (Yj f c nofun)},λb o e=>Qk (S.sam _ _ e) (Qd e i),S.L0,S.M0,S.net,S.th,{q,Qk n (Gn j),L2.Paired.Z8 p λ_ _ h=>h.kp (λe=>Qk e (Yj e c nofun)) (λe l=>Qk e (λz=>l (z▸m)))},{d,Qk n1 (Yj n1 c nofun),n2,n3},S.ok,S.good,S.exL,λb k=>?_};by_cases a:b=r
 .exact{_,by rw[a];exact Qb}
 .obtain⟨o,e⟩:=S.exA b k;exact{o,Qk e a}
theorem Vl.same{v:Sv}(S:Vl P w C D v H ls N)(F:Ik v.L v.M H H'):Q6 v.H0 H':=λb o e=>F.keep b o (S.sam b o e) (Qd e S.L0) (Qd e S.M0)
def putN(N:Nat->Nat->Option Nat)(a b m:Nat):Nat->Nat->Option Nat:=λi j=>if i=a/\j=b then Ga m else N i j
structure jh(K:Gd)(D:Gc):Prop where
 cl:gJ K D
 things:Yv K D "things"
 net:Yv K D "net"
 lines:Yv K D "lines"
 Jp:Yv K D "numbers"
theorem tH(v:Sv):(iG v).lookup ("things":Tb)=Ga (.ref v.t):=by rfl
theorem wq(v:Sv):(iG v).lookup ("net":Tb)=Ga (.ref v.n):=by rfl
theorem nK(v:Sv):(iG v).lookup ("lines":Tb)=Ga (.ref v.L):=by rfl
theorem Vk(v:Sv):(iG v).lookup ("numbers":Tb)=Ga (.ref v.M):=by rfl
theorem si(v:Sv):(iG v).lookup ("write":Tb)=Gh:=by rfl
theorem AK(v:Sv):(iG v).lookup ("write_link":Tb)=Gh:=by rfl
theorem Ru(v:Sv):(iG v).lookup ("line_for":Tb)=Gh:=by rfl
inductive xY(P:Gg)(w:Gu)(C:Gc)(D:Gc)(vs:List V)(H:Hp)(Q:VK):Prop
 |mk (v:Sv) (ls:List Ln) (N:Nat->Nat->Option Nat) (a:Nat) (b:Nat) (rv:V) (r:Lr) (h0:vs=[.ref v.sh,jv a,jv b,rv]) (h1:Vl P w C D v H ls N) (h2:a<v.us.length) (h3:b<v.us.length) (h4:Rj H v.Ex rv r) (h5:iP v.fs v.x.links ls a b r) (h6:ls.length<=1000000) (h7:∀H',Vl P w C D v H' (ls++[(a,b,r)]) (putN N a b ls.length)->Ik v.L v.M H H'->Q .non H'):xY P w C D vs H Q
def ph(P:Gg)(w:Gu)(C D:Gc):Sp:=λa H Q _=>xY P w C D a H Q
section
variable{P:Gg}{w:Gu}{K:Gd}{mg:Tb->Option Value}{base:Heap}
theorem A4:Q3 ["self","one","other","reason"] ["self","one","other","reason"] (Ql qi):=by eq_refl
theorem Pv(F:We K "write" "Showing.write" qi f fd)(g:jh K D)(X:J2 mg):Qy P w K mg base Z5 1 f fd ["self","one","other","reason"] (ph P w C D):=by
 refine F.ok A4 (λh l aa Y b=>?_) (λah af aj s l h aa Y hr b=>?_)
 .obtain⟨v,ls,Z,a,d,A,R,rfl,_⟩:=b;rfl
 obtain⟨v,ls,Z,a,d,A,R,rfl,S,al,bl,ae,Z3,ai,q⟩:=b;have hu:=Je hr;exists _,Qc (Ws hu (Qu (pv 0) rfl) (Zg (Qa (pv 1) (Qa (pv 2) Qe))) (Qp Zs rfl X.len Gx (Qa (Qu (pv 0) rfl) Qe)) rfl)
  (Qh (Zj (X0 Gv GQ GX Zy (Qu (pv 0) rfl) (Qa (Zg (Qa (Qm Zc (Qu (pv 0) rfl) (pv 1)) (Qa (Qm Zc (Qu (pv 0) rfl) (pv 2)) (Qa (pv 3) Qe)))) Qe))))
 subst_vars;obtain⟨m,p⟩:=S.ob;obtain⟨h,o,O⟩:=S.li;obtain⟨I,n1,n2,n3⟩:=S.nu;and_intros;have ad:=Gq O;refine{_,Xb,v.sh,D,m,_,_,Xb,p,g.cl,g.lines,nK _,v.L,h,Xb,.inl (Za.of o),_,Xb,v.sh,D,m,_,_,Xb,p,g.cl,g.Jp,Vk _,_,Xb,_,Xb,by show 2<=Gj;decide,λc hc=>?_};have L:=Qf hc (.tup [jv a,jv d]);have dp:=Rm.t (k:=[ki a,ki d]) (v:=.int (h.length:Int)) (L _ _ n1) (show(zj l c (.tup [jv a,jv d])) c=Ga (.tup ([ki a,ki d].map kV))from Qb) (by rw[GV];lia);exists v.M,_,Xb,dp;have M:v.L≠v.M:=Yj o n1 nofun;have Q:v.sh≠v.M:=Yj p n1 nofun;have oL:v.sh≠v.L:=Yj p o nofun;generalize G:zj (zj l c (.tup [jv a,jv d])) v.M (.dT (Vm I [ki a,ki d] (.int (h.length:Int))))=u;have x:∀{e y},l e=Ga y->e≠v.M->u e=Ga y:=λn b=>by rw[<-G];exact Qk (L _ _ n) b
 have t2:∀{e},u e=Gh->l e=Gh:=λ{e}b=>by rw[<-G]at b;exact L.free (Z4 b)
 have M2:u v.M=Ga (.dT (Vm I [ki a,ki d] (.int (h.length:Int)))):=by rw[<-G];exact Qb
 have J:=x p Q;have E:=x o M;have T:l v.t=Ga (.lst v.us):=S.sam _ _ S.th;have U:=x T (Yj T n1 nofun);have V:v.us[a]?=Ga v.us[a]:=List.getElem?_eq_getElem al;have W:v.us[d]?=Ga v.us[d]:=List.getElem?_eq_getElem bl;refine{_,Xb,v.sh,D,m,_,_,Xb,J,g.cl,g.lines,nK _,.inl {Xb,_,Za.of E},_,Xb,v.sh,D,m,_,_,Xb,J,g.cl,g.things,tH _,_,Xb,v.t,v.us,_,_,Xb,Xb,Za.of U,Qj V,_,Xb,v.sh,D,m,_,_,Xb,J,g.cl,g.things,tH _,_,Xb,v.t,v.us,_,_,Xb,Xb,Za.of U,Qj W,_,Xb,by show 3<=Gj;decide,λr H=>?_};have B:=Qf H (.tup [v.us[a],v.us[d],A]);have ab:r≠v.L:=Gn (Qd E H);have ag:r≠v.M:=Gn (Qd M2 H);exists v.L,h,_,Xb,Xb,B _ _ E,(by rw[GV];lia);have F:Ik v.L v.M l (zj (zj u r (.tup [v.us[a],v.us[d],A])) v.L (.lst (h++[.ref r]))):={λe y n h1 h2=>Qk (B _ _ (x n h2)) h1,λe b=>t2 (B.free (Z4 b))};refine q _ {{m,F.keep _ _ p oL Q},S.same F,S.L0,S.M0,S.net,S.th,{_,Qb,DU (L2.Paired.Z8 O λ_ _ b=>b.kp (F.tp n1 o) (F.lp n1 S.exL)) {r,v.us[a],v.us[d],A,Xb,Qk Qb ab,V,W,ae.kp (F.tp n1 o) (F.lp n1 S.exL)}},{_,Qk (B _ _ M2) (Gn M),?_,λi j=>?_},λi j k t=>?_,S.good.snoc Z3,S.exL,λe ac=>?_} F
 .have:=Wp I [ki a,ki d] (.int (h.length:Int));rw[List.length_append,List.length_singleton];lia
 .rw[ql,n3];unfold putN;by_cases b:i=a/\j=d
  .obtain⟨rfl,rfl⟩:=b;rw[Gp Xb,Gp ⟨Xb,Xb⟩,ad];rfl
  .rw[Gi b,Gi];intro z;simp only[List.cons.injEq,FH]at z;exact b {Jr z.1,Jr z.2}
 .unfold putN at t;by_cases b:i=a/\j=d
  .rw[Gp b]at t;cases t;obtain⟨rfl,rfl⟩:=b;exact{R,by simp}
  .rw[Gi b]at t;obtain⟨r',N⟩:=S.ok i j k t;exact{r',by rw[List.getElem?_append_left (List.getElem?_eq_some_iff.mp N).1];exact N}
 .obtain⟨y,n⟩:=S.exA e ac;exact Si.mp λz=>by rw[F.there e z]at n;cases n
end
def Dr(N:Nat->Nat->Option Nat)(a b:Nat):Prop:=(N a b).isSome=Gf\/(N b a).isSome=Gf
def iv(N a:Nat->Nat->Option Nat):Prop:=∀i j,(N i j).isSome=Gf->(a i j).isSome=Gf
def gL(v:Sv)(N:Nat->Nat->Option Nat)(m:Nat):Prop:=∀i j,(N i j).isSome=Gf->Cn (v.x.links.take m) i j
theorem Dr.sub{c:Nat->Nat->Option Nat}(h:Dr N a b)(s:iv N c):Dr c a b:=h.elim (λh=>.inl (s _ _ h)) λh=>.inr (s _ _ h)
theorem rg:iv N (putN N a b m):=λi j h=>by
 unfold putN;split
 .rfl
 .exact h
theorem sk{v:Sv}(h:gL v N m)(c:Cn (v.x.links.take m) a b):gL v (putN N a b k) m:=λi j z=>by
 unfold putN at z;split at z
 .rename_i e
  rw[e.1,e.2];exact c
 .exact h i j z
theorem nQ:putN N a b m a b=Ga m:=Gp ⟨Xb,Xb⟩
structure Go(v:Sv)(N:Nat->Nat->Option Nat)(a b:Nat):Prop where
 inv:Wk (Yi v.fs) (Zq v.fs) v.x []
 aS:a∈v.x.S
 bS:b∈v.x.S
 eq:v.x.lead a=v.x.lead b
 hS:v.x.S.length<=1000
 st:∀st,O4 v.x.up a b st->∀p q,(p,q)∈st->Dr N p q
inductive vu(P:Gg)(w:Gu)(C:Gc)(D:Gc)(g:Bool)(vs:List V)(H:Hp)(Q:VK):Prop
 |mk (v:Sv) (ls:List Ln) (N:Nat->Nat->Option Nat) (a:Nat) (b:Nat) (h0:vs=[.ref v.sh,jv a,jv b]) (h1:Vl P w C D v H ls N) (h2:a<v.us.length) (h3:b<v.us.length) (h4:(∀p∈v.x.S,p<v.us.length)) (h5:(Dr N a b\/(g=Gf/\Go v N a b))) (h6:ls.length+(if g=Gf then 3000 else 0)<=900000) (h7:∀(k:Nat)(more:List Ln)(N':Nat->Nat->Option Nat)(H':Hp),Vl P w C D v H' (ls++more) N'->Ik v.L v.M H H'->N' a b=Ga k->iv N N'->more.length<=2*v.x.S.length+1->(∀m,gL v N m->Cn (v.x.links.take m) a b->gL v N' m)->(N a b=Gh->∃r,(ls++more).getLast?=Ga (a,b,r))->(g=Gs->more.length<=1)->(N a b≠Gh->more=[])->Q (jv k) H'):vu P w C D g vs H Q
def jQ(P:Gg)(w:Gu)(C D:Gc)(g:Bool):Sp:=λa H Q _=>vu P w C D g a H Q
def pK(P:Gg)(w:Gu)(C D:Gc):Bool->Sp
 |true=>jQ P w C D Gs
 |false=>λ_ _ _ _=>False
theorem vB{c:List Ln}:∀{b:List (Nat×Nat)}{a:List Nat}{p q:Nat},jH p b q->a.length=b.length->(∀j k u v:Nat,a[j]?=Ga k->b[j]?=Ga (u,v)->∃r,c[k]?=Ga (u,v,r))->mr c p a q
 |[],[],p,q,h,_,_=>by cases h;rfl
 |[],_::_,_,_,_,h,_=>by simp at h
 |_::_,[],_,_,_,h,_=>by simp at h
 |_::b,k::a,p,q,.cons t,h,f=>by obtain⟨r,g⟩:=f 0 k _ _ rfl rfl;exact{_,r,g,vB t (by simpa using h) λj i u v d e=>f (j+1) i u v d e}
theorem v9{a:List Ln}{l:Ln}(h:ls[k]?=Ga l):(ls++a)[k]?=Ga l:=by rw[List.getElem?_append_left (List.getElem?_eq_some_iff.mp h).1];exact h
section
variable{P:Gg}{w:Gu}{K:Gd}{mg:Tb->Option Value}{base:Heap}
theorem qP:Q3 ["self","one","other","reason"] ["self","one","other"] (Ql Ot):=by eq_refl
theorem vT:(["start","end","self"]:List Tb).Nodup:=by decide+kernel
set_option hygiene false
local macro_rules
 |`(tactic|infer_instance)=>`(tactic|(
 obtain⟨dx1,o1'⟩:=S1.ob
 refine{_,Xb,v.sh,dx1,_,Xb,o1',si _,_,Xb,_,Xb,_,Xb,v,ls++more1,N1,a,b,rv,r,Xb,S1,al,bl,hrv,Z3,by rw[List.length_append];ext,λH2 S2 F2=>?_}
 obtain⟨dx2,o2⟩:=S2.ob
 obtain⟨kv2,m2,_,vv2⟩:=S2.nu
 refine{_,Xb,v.sh,D,dx2,_,_,Xb,o2,T.cl,T.Jp,Vk _,_,Xb,_,Xb,by show 2<=Gj;decide,λc3 hc3=>?_}
 have s3:=Qf hc3 (.tup [jv a,jv b])
 have dg3:=Vf.t (k:=[ki a,ki b]) (s3 _ _ m2) (show(zj H2 c3 (.tup [jv a,jv b])) c3=Ga (.tup ([ki a,ki b].map kV))from Qb)
 rw[vv2,nQ]at dg3
 exists v.M,_,Xb,dg3
 have S3:=S2.fr s3
 rw[List.append_assoc]at S3
 exact q _ (more1++[(a,b,r)]) _ _ S3 ((F1.trans F2).trans (Ik.of s3)) nQ (λi j h=>rg _ _ (sub1 i j h)) (by rw[List.length_append,List.length_singleton];ext) (λm hc hm=>sk (cov1 m hc hm) hm) (λ_=>{r,by rw[<-List.append_assoc,List.getLast?_concat]}) (λhg=>by rw[List.length_append,List.length_singleton];have:=mof hg;ext) (λz=>absurd hN z)))
set_option hygiene true
theorem vz{g:Bool}(hk:2<=k)(F:We K "line_for" "Showing.line_for" Ot f fd)(T:jh K D)(TN:Ut K mg C)(mL:Ye K D "line_for" f)(bL:zk K fd ["self","one","other"] [])(av:Qy P w K mg base Z5 k f fd ["self","one","other"] (pK P w C D g))
  (mW:Ye K C "way" fW)(GW:Qy P w K mg base Z5 2 fW fdW ["self","one","other"] (pG P w C))(bW:zk K fdW ["self","one","other"] [])(mR:Ye K D "write" fR)(GR:Qy P w K mg base Z5 1 fR fdR ["self","one","other","reason"] (ph P w C D))(bR:zk K fdR ["self","one","other","reason"] []):
  Qy P w K mg base Z5 (k+1) f fd ["self","one","other"] (jQ P w C D g):=by
 refine F.ok qP (λY H ay au h=>?_) (λaV aU a3 s H Y ay au hr h=>?_)
 .obtain⟨v,ls,N,a,b,rfl,_⟩:=h;rfl
 obtain⟨v,ls,N,a,b,rfl,S,al,bl,Sl,ap,aI,q⟩:=h;have hu:=Je hr;have aK:Yd 1 _:=hr.mono (by ext);have aL:Yd 2 _:=hr.mono (by ext);have nd:=qP.nd;have aX:ls.length<=900000:=by ext
 exists _,Qc (Q8 (jO (JA hu (Zg (Qa (pv 1) (Qa (pv 2) Qe))) (Qu (pv 0) rfl)))
   (Qc (Q8 (jO (nJ hu (Zg (Qa (pv 2) (Qa (pv 1) Qe))) (Qu (pv 0) rfl)))
    (Qh (Qz 3 nd (Zg (Qa Zk (Qa (Zx hu (Qu (pv 0) rfl) (Zg (Qa (pv 2) (Qa (pv 1) Qe))) (λ_ _=>rfl)) Qe)))))
    (Qh (Qz 3 nd (Zg (Qa Zk (Qa
     (Vs (te:=kj D "line_for" (pK P w C D g) [] E0 (Vz 2) (iH (Vz 0) (iH (Vz 1) i8))) (g:=qo K 2 (kh (V2 0) (kh (V2 1) nh))) (own:=["start","end"]) (fv:=[(0,"self")]) rfl (S:=(by eq_refl:Xy (Ql Ot) _)) (.cons rfl (T3 Xb) rfl .nil)
      (Yg (Zh (Qu (pv 0) rfl) TN.cl mW GW aL bW .nil Q7 (Qa (pv 1) (Qa (pv 2) Qe))))
      (λ_ _ _ _ _=>Vx rfl (Zn (Xc (i:=0) vT rfl (T3 Xb) (DJ Xb)) (Zn (Xc (i:=1) vT rfl (T3 Xb) (DJ Xb)) Wm))) (λ_ _ _ _ _=>Wb)
      (λ_ _ _ _ _=>Zh (pv 2) T.cl mL av hr bL .nil Q7 (Qa (pv 0) (Qa (pv 1) Qe)))) Qe))))))
   (Qh (Zj (Zh (pv 0) T.cl mR GR aK bR .nil Q7 (Qa (pv 1) (Qa (pv 2) (Qa (pv 3) Qe))))))) Qv)
  (Qh (Qt (Zx hu (Qu (pv 0) rfl) (Zg (Qa (pv 1) (Qa (pv 2) Qe))) (λ_ _=>rfl))))
 subst_vars;obtain⟨dx,o1⟩:=S.ob;obtain⟨a1,n1,n2,n3⟩:=S.nu;and_intros;refine{_,Xb,_,Xb,by show 2<=Gj;decide,λc hc=>?_};have s1:=Qf hc (.tup [jv a,jv b]);have ah:=Vf.t (k:=[ki a,ki b]) (s1 _ _ n1) (show(zj H c (.tup [jv a,jv b])) c=Ga (.tup ([ki a,ki b].map kV))from Qb);rw[n3]at ah;exists _,Xb,v.sh,D,dx,_,_,Xb,s1 _ _ o1,T.cl,T.Jp,Vk _,v.M,_,Xb,ah,_,Xb;cases hN:N a b with
 |some x=>refine Q5 ?_;have S1:=S.fr s1;obtain⟨dx2,o2⟩:=S1.ob;obtain⟨kv2,m2,_,vv2⟩:=S1.nu;refine{_,Xb,v.sh,D,dx2,_,_,Xb,o2,T.cl,T.Jp,Vk _,_,Xb,_,Xb,by show 2<=Gj;decide,λc3 hc3=>?_};have s3:=Qf hc3 (.tup [jv a,jv b]);have dg3:=Vf.t (k:=[ki a,ki b]) (s3 _ _ m2) (show(zj (zj H c (.tup [jv a,jv b])) c3 (.tup [jv a,jv b])) c3=Ga (.tup ([ki a,ki b].map kV))from Qb);rw[vv2,hN]at dg3;exists v.M,_,Xb,dg3;have S3:=S1.fr s3;exact q x [] N _ (by rw[List.append_nil];exact S3) (Ik.of (s1.trans s3)) hN (λ_ _ h=>h) (Gz _) (λ_ h _=>h) (λz=>by rw[hN]at z;cases z) (λ_=>Gz _) (λ_=>rfl)
 |none=>
  refine Yp ?_;refine{_,Xb,_,Xb,by show 2<=Gj;decide,λc2 aD=>?_};have X:=s1.trans (Qf aD (.tup [jv b,jv a]));have ai:=Vf.t (k:=[ki b,ki a]) (X _ _ n1) (show(zj (zj H c (.tup [jv a,jv b])) c2 (.tup [jv b,jv a])) c2=Ga (.tup ([ki b,ki a].map kV))from Qb);rw[n3]at ai;exists _,Xb,v.sh,D,dx,_,_,Xb,X _ _ o1,T.cl,T.Jp,Vk _,v.M,_,Xb,ai,_,Xb;generalize zj (zj H c (.tup [jv a,jv b])) c2 (.tup [jv b,jv a])=Z at X;have Sb:=S.fr X;cases hT:N b a with
  |some x=>
   refine Yp ?_;obtain⟨r0,aJ⟩:=S.ok b a x hT;obtain⟨dx2,o2⟩:=Sb.ob;obtain⟨kv2,m2,_,vv2⟩:=Sb.nu;refine{_,Xb,v.sh,D,dx2,_,_,Xb,o2,T.cl,T.Jp,Vk _,_,Xb,_,Xb,by show 2<=Gj;decide,λc3 hc3=>?_};have s3:=Qf hc3 (.tup [jv b,jv a]);have dg3:=Vf.t (k:=[ki b,ki a]) (s3 _ _ m2) (show(zj Z c3 (.tup [jv b,jv a])) c3=Ga (.tup ([ki b,ki a].map kV))from Qb);rw[vv2,hT]at dg3;refine{v.M,_,Xb,dg3,by show 2<=Gj;decide,λA ad=>?_};have s4:=Qf ad (.tup [.str "turn",jv x]);have S1:Vl P w C D v (zj (zj Z c3 (.tup [jv b,jv a])) A (.tup [.str "turn",jv x])) (ls++[]) N:=by rw[List.append_nil];exact(Sb.fr s3).fr s4
   have F1:Ik v.L v.M H (zj (zj Z c3 (.tup [jv b,jv a])) A (.tup [.str "turn",jv x])):=Ik.of ((X.trans s3).trans s4);generalize ag:V.ref A=rv;have hrv:Rj (zj (zj Z c3 (.tup [jv b,jv a])) A (.tup [.str "turn",jv x])) v.Ex rv (.turn x):={A,ag.symm,Qb};have Z3:iP v.fs v.x.links (ls++[]) a b (.turn x):={r0,by rw[List.append_nil];exact aJ};obtain⟨more1,an⟩:∃m:List Ln,m=[]:={_,Xb};rw[<-an]at S1 Z3;obtain⟨r,hr'⟩:∃r:Lr,r=.turn x:={_,Xb};rw[<-hr']at hrv Z3;obtain⟨N1,ac⟩:∃N1:Nat->Nat->Option Nat,N1=N:={_,Xb};have sub1:iv N N1:=by rw[ac];exactλ_ _ h=>h
   have cov1:∀m,gL v N m->Cn (v.x.links.take m) a b->gL v N1 m:=by rw[ac];exactλ_ h _=>h
   rw[<-ac]at S1;have ml:more1.length=0:=by rw[an];rfl
   have mof:g=Gs->more1.length=0:=λ_=>ml;infer_instance
  |none=>
   refine Q5 ?_;cases g with
   |false=>
    exfalso;rcases ap with(h|h)|⟨h,_⟩
    .rw[hN]at h;cases h
    .rw[hT]at h;cases h
    .cases h
   |true=>
   have d:Go v N a b:=by
    rcases ap with(h|h)|⟨_,h⟩
    .rw[hN]at h;cases h
    .rw[hT]at h;cases h
    .exact h
   have X2:=S.net.same Sb.sam;obtain⟨aC,on⟩:=X2.ob;obtain⟨dx2,o2⟩:=Sb.ob;refine{_,Xb,v.sh,D,dx2,_,_,Xb,o2,T.cl,T.net,wq _,v.n,aC,_,Xb,on,pD _,_,Xb,_,Xb,v.n,v.A,v.fs,v.tb,v.x,a,b,Xb,X2,d.inv,d.aS,d.bS,d.eq,d.hS,λL5 es st H5 g5 aa aj ak W=>{L5,Xb,{_,Za.of aj},λB E=>?_}};have aZ:=W.len;have aW:=Gq ak;have hS:=d.hS;have Q:=Sb.fr g5;have aw:L5≠v.L:=λz=>by obtain⟨Y,R,_⟩:=Sb.li;rw[z,R]at aa;cases aa
   have ax:L5≠v.M:=λz=>by obtain⟨Y,R,_⟩:=Sb.nu;rw[z,R]at aa;cases aa
   have aq:B≠v.L:=λz=>by obtain⟨Y,R,_⟩:=Q.li;rw[z,R]at E;cases E
   have aS:B≠v.M:=λz=>by obtain⟨Y,R,_⟩:=Q.nu;rw[z,R]at E;cases E
   have aR:v.H0 B=Gh:=Q.sam.free E;have s5:=Qf E (.lst []);subst_vars;obtain⟨a4,aM,_⟩:=Q.li;obtain⟨a0,aN,_⟩:=Q.nu;and_intros;refine I8 (K:=K) (a:=L5) (xs:=es) (small (by ext)) (λi ys σ O=>iL λ(x0 x1:Option V)(U:List Ln)(N1:Nat->Nat->Option Nat)(ks:List Nat)=>jW (σ=[x0,x1,Ga (.ref v.sh)]) (ys=ks.map jv) (ks.length=i) (Vl P w C D {v with Ex:=λb=>v.Ex b\/b=B} O (ls++U) N1) (Ik v.L v.M H5 O) (iv N N1) (U.length<=i) (∀m,gL v N m->Cn (v.x.links.take m) a b->gL v N1 m) (∀j k u u':Nat,ks[j]?=Ga k->st[j]?=Ga (u,u')->∃r,(ls++U)[k]?=Ga (u,u',r)))
    {_,_,[],N,[],Xb,Xb,Xb,by rw[List.append_nil];exact Q.more E,Ik.of s5,λ_ _ h=>h,Gz _,λ_ h _=>h,by simp} (by rintro i ys σ O _ ⟨_,_,_,_,_,_,_,_,_,J,_⟩;exact Za.of (J.keep _ _ aj aw ax)) ?_ ?_
   .rintro i y ys σ O hi hyl ⟨x0,x1,U,N1,ks,rfl,rfl,ae,S6,J,ar,aP,az,ab⟩ af;subst_vars;obtain⟨⟨p,G⟩,hp,c5,rfl,aE⟩:=Qw ak hi;have am:(p,G)∈st:=List.mem_of_getElem? hp;have c6:=J.tp aN aM aE;have il:i<es.length:=(List.getElem?_eq_some_iff.mp hi).1;obtain⟨kk,aF,aG⟩:=W.lk p G am;obtain⟨rr,ao⟩:=d.inv.fst.Qg0 p G kk aF;and_intros;have pS:p∈v.x.S/\G∈v.x.S:=by
     rcases ao with h|h
     .exact{(d.inv.lnk _ _ _ _ h).1,(d.inv.lnk _ _ _ _ h).2.1}
     .exact{(d.inv.lnk _ _ _ _ h).2.1,(d.inv.lnk _ _ _ _ h).1}
    have cn:∀m,Cn (v.x.links.take m) a b->Cn (v.x.links.take m) p G:=λm hm=>by
     have km:=aG m hm;rcases ao with h|h
     .exact .link (List.mem_of_getElem? (i:=kk) (by rw[List.getElem?_take_of_lt km];exact h))
     .exact .symm (.link (List.mem_of_getElem? (i:=kk) (by rw[List.getElem?_take_of_lt km];exact h)))
    obtain⟨aB,o6⟩:=S6.ob;exists c5,_,Xb,Q9.of c6,Xb,_,_,Xb,_,_,Xb,Xb;refine{_,Xb,v.sh,aB,_,Xb,o6,Ru v,_,Xb,_,Xb,{v with Ex:=λb=>v.Ex b\/b=B},ls++U,N1,p,G,Xb,S6,Sl p pS.1,Sl G pS.2,Sl,.inl ((d.st st W.rel p G am).sub ar),by rw[Gi (by decide)];rw[Gp rfl]at aI;rw[List.length_append];ext,λk' aQ N2 H7 S7 F7 aH aT a2 aA _ aO _=>?_};have r7:=F7.keep _ _ af aq aS;have aY:=aO rfl;refine{r7,_,_,U++aQ,N2,ks++[k'],Xb,by rw[List.map_append];rfl,by rw[List.length_append,List.length_singleton,ae],by rw[<-List.append_assoc];exact S7.grow (.inr Xb) r7 aq aR,{λb' o e h1 h2=>Qk (F7.keep _ _ (J.keep _ _ e h1 h2) h1 h2) (Qd e E),λb' h=>J.there _ (F7.there _ (Z4 h))},λi j h=>aT _ _ (ar _ _ h),by rw[List.length_append];ext,λm hc hm=>aA m (az m hc hm) (cn m hm),λj x u u' h1 h2=>?_}
    .rcases Tp j ks.length with hj|hj
     .rw[List.getElem?_append_left hj]at h1;obtain⟨r,hr'⟩:=ab j x u u' h1 h2;rw[<-List.append_assoc];exact{r,v9 hr'}
     .rw[List.getElem?_append_right hj]at h1;have:j=ks.length:=by
       rcases Tp (j - ks.length) 1 with h'|h'
       .ext
       .rw[List.getElem?_eq_none (by simpa using h')]at h1;cases h1
      subst this;simp at h1;subst h1;rw[ae,hp]at h2;cases h2;rw[<-List.append_assoc];exact S7.ok _ _ _ aH
   .rintro ys σ O hyl ⟨x0,x1,more1,N1,ks,rfl,rfl,ae,S6,J,sub1,aP,cov1,ab⟩ af;refine{by show 2<=Gj;decide,λA ad=>?_};have s4:=Qf ad (.tup [.str "chain",.ref B]);have S1:=(S6.less S.exL).fr s4;have F1:Ik v.L v.M H (zj O A (.tup [.str "chain",.ref B])):=(Ik.of (X.trans g5)).trans (J.trans (Ik.of s4));generalize ag:V.ref A=rv;obtain⟨r,hr'⟩:∃r:Lr,r=.chain ks:={_,Xb};have hrv:Rj (zj O A (.tup [.str "chain",.ref B])) v.Ex rv r:=by rw[hr'];exact{A,B,ag.symm,Qb,s4 _ _ af,(λz=>by obtain⟨o,e⟩:=Q.exA B z;rw[E]at e;cases e),by ext}
    have Z3:iP v.fs v.x.links (ls++more1) a b r:=by rw[hr'];exact vB W.path (by ext) ab
    have ml:more1.length<=2*v.x.S.length:=by ext
    have mof:Gf=Gs->more1.length=0:=λz=>by cases z
    infer_instance
theorem JM:Qy P w K mg base Z5 2 f fd ["self","one","other"] (pK P w C D Gs):=
 {λc H Q E h=>False.elim h,λA a s H b d c Q E _ _ _ _ h=>False.elim h}
end
inductive zo(P:Gg)(w:Gu)(C:Gc)(D:Gc)(vs:List V)(H:Hp)(Q:VK):Prop
 |mk (v:Sv) (ls:List Ln) (N:Nat->Nat->Option Nat) (lv:V) (a:Nat) (b:Nat) (rs:Option Ji) (h0:vs=[.ref v.sh,lv]) (h1:Vl P w C D v H ls N) (h2:Ri H lv (a,b,rs)) (h3:(a,b,rs)∈v.x.links) (h4:a<v.fs.length) (h5:b<v.fs.length) (h6:v.fs.length=v.us.length) (h7:(∀p∈v.x.S,p<v.us.length)) (h8:v.x.S.length<=60) (h9:(Zq v.fs a).length<=100) (h10:(rs=Gh->Yi v.fs a=Yi v.fs b/\(Zq v.fs a).length=(Zq v.fs b).length)) (h11:(∀p q,(p,q)∈Wj v.fs (a,b,rs)->Go v N p q)) (h12:ls.length<=880000) (h13:∀(more:List Ln)(N1:Nat->Nat->Option Nat)(r:Lr)(H':Hp),Vl P w C D v H' (ls++more++[(a,b,r)]) (putN N1 a b (ls++more).length)->Ik v.L v.M H H'->iv N N1->more.length<=12100->(∀m,gL v N m->(∀p q,(p,q)∈Wj v.fs (a,b,rs)->Cn (v.x.links.take m) p q)->gL v N1 m)->Q .non H'):zo P w C D vs H Q
def xa(P:Gg)(w:Gu)(C D:Gc):Sp:=λa H Q _=>zo P w C D a H Q
theorem Go.sub{v:Sv}{N d:Nat->Nat->Option Nat}{a b:Nat}(g:Go v N a b)(s:iv N d):Go v d a b:={g.inv,g.aS,g.bS,g.eq,g.hS,λe c p q h=>(g.st e c p q h).sub s}
section
variable{P:Gg}{w:Gu}{K:Gd}{mg:Tb->Option Value}{base:Heap}
theorem sG:Q3 ["self","link","reason"] ["self","link"] (Ql Vq):=by eq_refl
theorem u9:(["part","twin","self"]:List Tb).Nodup:=by decide+kernel
set_option hygiene false
local macro_rules
 |`(tactic|infer_instance)=>`(tactic|(
 obtain⟨dx1,o1'⟩:=S1.ob
 refine{_,Xb,v.sh,dx1,_,Xb,o1',si _,_,Xb,c,_,_,_,Xb,Xb,Q9.of hc1,Rz _ _,_,Xb,c,_,_,_,Xb,Xb,Q9.of hc1,Rh _ _ _,_,Xb,v,ls++more1,N1,a,b,rv,r,Xb,S1,al,bl,hrv,Z3,by rw[List.length_append];ext,λH2 S2 F2=>?_}
 exact q more1 N1 r H2 S2 (F1.trans F2) sub1 ml cov1))
set_option hygiene true
theorem K9(F:We K "write_link" "Showing.write_link" Vq f fd)(T:jh K D)(mL:Ye K D "line_for" fL)(bL:zk K fdL ["self","one","other"] [])(GL:Qy P w K mg base Z5 4 fL fdL ["self","one","other"] (jQ P w C D Gf))
  (GB:Qy P w K mg base Z5 1 fB fdB ["net","link"] (pE P w C))(kB:KI K fB)(bB:zk K fdB ["net","link"] [])(mB:MG mg "pairs_below" fB)(mR:Ye K D "write" fR)(GR:Qy P w K mg base Z5 1 fR fdR ["self","one","other","reason"] (ph P w C D))(bR:zk K fdR ["self","one","other","reason"] []):
  Qy P w K mg base Z5 5 f fd ["self","link"] (xa P w C D):=by
 refine F.ok sG (λR H av aq h=>?_) (λaQ aP aY s H R av aq hr h=>?_)
 .obtain⟨v,ls,N,lv,a,b,Q,rfl,_⟩:=h;rfl
 obtain⟨v,ls,N,lv,a,b,Q,rfl,S,⟨c,rv,rfl,hc,Z⟩,ag,aw,ax,aT,Sl,hS,aR,aG,aE,aU,q⟩:=h;have al:a<v.us.length:=by ext
 have bl:b<v.us.length:=by ext
 have aj:Yd 1 _:=hr.mono (by ext);have nd:=sG.nd;show∃t,Ia ?my _ t/\_;let w3:Xk ?my Vq 2:={_,Qh (Zj (Zh (pv 0) T.cl mR GR aj bR .nil Q7 (Qa (Qm Qo (pv 1) Qi) (Qa (Qm Qo (pv 1) Qi) (Qa (pv 2) Qe)))))}
 let w2:Xk ?my Vq 1:=⟨_,Qc (Q8 (Qn FB (pv 2) Uo (Qr _))
   (Qh (Qz 2 nd (Zg (Qa Zk (Qa
     (Vs (te:=kj D "line_for" (jQ P w C D Gf) [] E0 (Vz 2) (iH (Vz 0) (iH (Vz 1) i8))) (g:=qo K 2 (kh (V2 0) (kh (V2 1) nh))) (own:=["part","twin"]) (fv:=[(0,"self")]) rfl (S:=(by eq_refl:Xy (Ql Vq) _)) (.cons rfl (T3 Xb) rfl .nil)
      (Yg (Zl GB aj rfl mB kB bB .nil Q7 (Qa (Qu (pv 0) rfl) (Qa (pv 1) Qe))))
      (λ_ _ _ _ _=>Vx rfl (Zn (Xc (i:=0) u9 rfl (T3 Xb) (DJ Xb)) (Zn (Xc (i:=1) u9 rfl (T3 Xb) (DJ Xb)) Wm))) (λ_ _ _ _ _=>Wb)
      (λ_ _ _ _ _=>Zh (pv 2) T.cl mL GL hr bL .nil Q7 (Qa (pv 0) (Qa (pv 1) Qe)))) Qe))))) Qv) w3.2⟩
 exists _,Qc (Qz 2 nd (Qm Qo (pv 1) Qi)) w2.2;exists _,Xb,c,_,_,_,Xb,Xb,Q9.of hc,iJ _ _ _ _;exists _,Xb,Xb,_,Xb;rw[xE Z];cases Q with
 |some Q=>
  refine Q5 ?_;have S1:Vl P w C D v H (ls++[]) N:=by rw[List.append_nil];exact S
  have F1:Ik v.L v.M H H:=Ik.refl;have hc1:=hc;obtain⟨r,hrv,Z3⟩:∃r:Lr,Rj H v.Ex rv r/\iP v.fs v.x.links (ls++[]) a b r:=by
   cases Q with
   |told n=>exact{.told n,Z,ag}
   |asked=>exact{.asked,Z,ag}
  obtain⟨more1,ai⟩:∃m:List Ln,m=[]:={_,Xb};rw[<-ai]at S1 Z3;obtain⟨N1,ab⟩:∃N1:Nat->Nat->Option Nat,N1=N:={_,Xb};have sub1:iv N N1:=by rw[ab];exactλ_ _ h=>h
  have cov1:∀m,gL v N m->(∀p q,(p,q)∈Wj v.fs (a,b,Ga Q)->Cn (v.x.links.take m) p q)->gL v N1 m:=by rw[ab];exactλ_ h _=>h
  rw[<-ab]at S1;have ml:more1.length<=12100:=by rw[ai];exact Gz _
  infer_instance
 |none=>
  refine Yp ?_;have X2:=S.net.same S.sam;obtain⟨dx,o1⟩:=S.ob;refine{_,Xb,v.sh,D,dx,_,_,Xb,o1,T.cl,T.net,wq _,_,Xb,v.n,v.A,v.fs,v.tb,v.x,.ref c,(a,b,Gh),Xb,X2,⟨c,rv,Xb,hc,Z⟩,aw,ax,λU es H5 g5 W ae af=>{U,Xb,{_,Za.of ae},λd g=>?_}};obtain⟨aJ,aH⟩:=aG rfl;have aS:=Gq af;have aV:(Wj v.fs (a,b,Gh)).length=(Zq v.fs a).length:=by simp only[Wj,List.length_zip];ext
  have E:=S.fr g5;have ar:U≠v.L:=λz=>by obtain⟨R,G,_⟩:=S.li;rw[z,G]at W;cases W
  have au:U≠v.M:=λz=>by obtain⟨R,G,_⟩:=S.nu;rw[z,G]at W;cases W
  have ao:d≠v.L:=λz=>by obtain⟨R,G,_⟩:=E.li;rw[z,G]at g;cases g
  have aN:d≠v.M:=λz=>by obtain⟨R,G,_⟩:=E.nu;rw[z,G]at g;cases g
  have aM:v.H0 d=Gh:=E.sam.free g;have s5:=Qf g (.lst []);obtain⟨aZ,ak,_⟩:=E.li;obtain⟨aW,am,_⟩:=E.nu;refine I8 (K:=K) (a:=U) (xs:=es) (small (by ext)) (λi ys σ B=>iL λ(x0 x1:Option V)(O:List Ln)(N1:Nat->Nat->Option Nat)(ks:List Nat)=>jW (σ=[x0,x1,Ga (.ref v.sh)]) (ys=ks.map jv) (ks.length=i) (Vl P w C D {v with Ex:=λb=>v.Ex b\/b=d} B (ls++O) N1) (Ik v.L v.M H5 B) (iv N N1) (O.length<=i*121) (∀m,gL v N m->(∀p q,(p,q)∈Wj v.fs (a,b,Gh)->Cn (v.x.links.take m) p q)->gL v N1 m) (∀j k u u':Nat,ks[j]?=Ga k->(Wj v.fs (a,b,Gh))[j]?=Ga (u,u')->∃r,(ls++O)[k]?=Ga (u,u',r)))
   {_,_,[],N,[],Xb,Xb,Xb,by rw[List.append_nil];exact E.more g,Ik.of s5,λ_ _ h=>h,Gz _,λ_ h _=>h,by simp} (by rintro i ys σ B _ ⟨_,_,_,_,_,_,_,_,_,x,_⟩;exact Za.of (x.keep _ _ ae ar au)) ?_ ?_
  .rintro i y ys σ B hi hyl ⟨x0,x1,O,N1,ks,rfl,rfl,ac,X,x,ap,aK,ay,aa⟩ ad;subst_vars;obtain⟨⟨p,J⟩,hp,c5,rfl,aC⟩:=Qw af hi;have ah:(p,J)∈Wj v.fs (a,b,Gh):=List.mem_of_getElem? hp;have c6:=x.tp am ak aC;have il:i<es.length:=(List.getElem?_eq_some_iff.mp hi).1;have A:=(aE p J ah).sub ap;obtain⟨aA,o6⟩:=X.ob;and_intros;exists c5,_,Xb,Q9.of c6,Xb,_,_,Xb,_,_,Xb,Xb;refine{_,Xb,v.sh,aA,_,Xb,o6,Ru v,_,Xb,_,Xb,{v with Ex:=λb=>v.Ex b\/b=d},ls++O,N1,p,J,Xb,X,Sl p A.aS,Sl J A.bS,Sl,.inr {Xb,{A.inv,A.aS,A.bS,A.eq,A.hS,A.st}},by rw[Gp Xb,List.length_append];ext,λk' an N2 H7 S7 F7 aF aO aL az _ _ _=>?_};have r7:=F7.keep _ _ ad ao aN;have aX:an.length<=2*v.x.S.length+1:=aL;refine{r7,_,_,O++an,N2,ks++[k'],Xb,by rw[List.map_append];rfl,by rw[List.length_append,List.length_singleton,ac],by rw[<-List.append_assoc];exact S7.grow (.inr Xb) r7 ao aM,{λb' o e h1 h2=>Qk (F7.keep _ _ (x.keep _ _ e h1 h2) h1 h2) (Qd e g),λb' h=>x.there _ (F7.there _ (Z4 h))},λi j h=>aO _ _ (ap _ _ h),by rw[List.length_append];ext,λm aD hm=>az m (ay m aD hm) (hm p J ah),λj k0 u u' h1 h2=>?_};rcases Tp j ks.length with hj|hj
   .rw[List.getElem?_append_left hj]at h1;obtain⟨r,hr'⟩:=aa j k0 u u' h1 h2;rw[<-List.append_assoc];exact{r,v9 hr'}
   .rw[List.getElem?_append_right hj]at h1;have:j=ks.length:=by
     rcases Tp (j - ks.length) 1 with h'|h'
     .ext
     .rw[List.getElem?_eq_none (by simpa using h')]at h1;cases h1
    subst this;simp at h1;subst h1;rw[ac,hp]at h2;cases h2;rw[<-List.append_assoc];exact S7.ok _ _ _ aF
  .rintro ys σ B hyl ⟨x0,x1,more1,N1,ks,rfl,rfl,ac,X,x,sub1,aK,cov1,aa⟩ ad;refine{by show 2<=Gj;decide,λY aB=>?_};have s4:=Qf aB (.tup [.str "like",.ref d]);have S1:=(X.less S.exL).fr s4;have F1:Ik v.L v.M H (zj B Y (.tup [.str "like",.ref d])):=(Ik.of g5).trans (x.trans (Ik.of s4));have hc1:=s4 _ _ (x.tp am ak (g5 _ _ hc));generalize aI:V.ref Y=rv;obtain⟨r,hr'⟩:∃r:Lr,r=.like ks:={_,Xb};have hrv:Rj (zj B Y (.tup [.str "like",.ref d])) v.Ex rv r:=by rw[hr'];exact{Y,d,aI.symm,Qb,s4 _ _ ad,(λz=>by obtain⟨o,e⟩:=E.exA d z;rw[g]at e;cases e),by ext}
   have Z3:iP v.fs v.x.links (ls++more1) a b r:=by rw[hr'];refine{aJ,aH,by ext,λj k p J h1 h2 h3=>aa j k p J h1 ?_};simp only[Wj];rw[List.getElem?_zip_eq_some];exact⟨h2,h3⟩
   have ml:more1.length<=12100:=by ext
   infer_instance
end
inductive xk(P:Gg)(w:Gu)(C:Gc)(D:Gc)(vs:List V)(H:Hp)(Q:VK):Prop
 |mk (sh:Gc) (dx:Gc) (t:Gc) (n:Gc) (A:Na) (fs:List Fm) (tb:Nat) (x:Nn) (us:List V) (H0:Hp) (h0:vs=[.ref sh,.ref t,.ref n]) (h1:H sh=Ga (.ins D dx [])) (h2:H0 sh=Gh) (h3:Q6 H0 H) (h4:Z9 P w C H0 n A fs tb x) (h5:H0 t=Ga (.lst us)) (h6:∀(L M:Gc)(H':Hp),Vl P w C D ⟨sh,n,t,L,M,A,fs,tb,x,us,H0,λb=>b=L\/∃o,H0 b=Ga o⟩ H' [] (λ_ _=>Gh)->Q .non H'):xk P w C D vs H Q
def wX(P:Gg)(w:Gu)(C D:Gc):Sp:=λa H Q _=>xk P w C D a H Q
inductive oG(H:Hp)(X:Gc->Prop)(us:List V)(v:V)(ls:List Ln):Prop
 |mk (L:_) (vs:_) (h0:v=.ref L) (h1:H L=Ga (.lst vs)) (h2:¬X L) (h3:Paired (hV H X us) vs ls) (h4:ls.length<=900000):oG H X us v ls
inductive so(P:Gg)(w:Gu)(C:Gc)(vs:List V)(H:Hp)(Q:VK):Prop
 |mk (t:Gc) (n:Gc) (A:Na) (fs:List Fm) (tb:Nat) (x:Nn) (us:List V) (one:Nat) (other:Nat) (h0:vs=[.ref t,.ref n,jv one,jv other]) (h1:Z9 P w C H n A fs tb x) (h2:Wk (Yi fs) (Zq fs) x []) (h3:hZ fs x.S) (h4:one∈x.S) (h5:other∈x.S) (h6:x.lead one=x.lead other) (h7:x.S.length<=60) (h8:x.links.length<64) (h9:(∀p,(Zq fs p).length<=100)) (h10:H t=Ga (.lst us)) (h11:fs.length=us.length) (h12:∀(v:V)(ls:List Ln)(H':Hp),Q6 H H'->oG H' (λb=>∃o,H b=Ga o) us v ls->ia fs x.links ls->(∃r,ls.getLast?=Ga (one,other,r))->Q v H'):so P w C vs H Q
def xH(P:Gg)(w:Gu)(C:Gc):Sp:=λa H Q _=>so P w C a H Q
abbrev mkv(c n t L M:Gc)(A:Na)(fs:List Fm)(tb:Nat)(x:Nn)(d:List V)(a:Hp):Sv:={c,n,t,L,M,A,fs,tb,x,d,a,λb=>b=L\/∃o,a b=Ga o}
theorem oQ(I:Wk (Yi fs) (Zq fs) x []){c:List (Nat×Nat)}(h:O4 x.up a b c)(i:(p,q)∈c):∃k,x.Xj p q=Ga k/\∀n,Cn (x.links.take n) a b->k<n:=by obtain⟨l,o,P,Q,s,m,d,e,f,g,j,rfl⟩:=h;exact I.fst.way d e f g j p q i
section
variable{P:Gg}{w:Gu}{K:Gd}{mg:Tb->Option Value}{base:Heap}
theorem PV:Q3 ["self","things","net"] ["self","things","net"] (Ql Rg):=by eq_refl
theorem OE(F:We K "__init__" "Showing.__init__" Rg f0 fd)(c:jh K D):Qy P w K mg base Z5 1 f0 fd ["self","things","net"] (wX P w C D):=by
 refine F.ok PV (λV y N M m=>?_) (λaa E ab s y V N M hr m=>?_)
 .obtain⟨b,f,t,n,E,O,T,x,U,G,rfl,_⟩:=m;rfl
 obtain⟨b,f,t,n,E,O,T,x,U,G,rfl,B,J,d,X,S,q⟩:=m;show∃t,Ia ?my _ t/\_;let Z:Xk ?my Rg 3:={_,Qh (Xd (pv 0) Oj Xb)}
 let Y:Xk ?my Rg 2:={_,Qc (Xd (pv 0) (Zu Qe) rfl) Z.2}
 let W:Xk ?my Rg 1:={_,Qc (Xd (pv 0) (pv 2) rfl) Y.2}
 exists _,Qc (Xd (pv 0) (pv 1) rfl) W.2;exists _,Xb,_,Xb,b,D,f,[],Xb,B,c.cl,c.things,(by show 0<1000;decide);refine{_,Xb,_,Xb,b,D,f,_,Xb,Qb,c.cl,c.net,by show 1<1000;decide,Gz _,λg L=>?_};rw[Wu]at L⊢;have r:y g=Gh:=Z4 L;have h:g≠b:=Gn (Qd B r);refine{_,Xb,b,D,f,_,Xb,Qk Qb (Gn h),c.cl,c.lines,by show 2<1000;decide,λp Q=>?_};have A:=Z4 Q;have R:=Z4 A;have u:y p=Gh:=Z4 R;have I:p≠b:=Gn (Qd B u);have H:g≠p:=λz=>by rw[<-z,Qb]at A;cases A
 exists _,Xb,b,D,f,_,Xb,Qk Qb (Gn I),c.cl,c.Jp,(by show 3<1000;decide);refine q g p _ {⟨f,Qb⟩,λl v a=>?_,d.free r,d.free u,X,S,{[],?_,.nil},{[],?_,Gz _,λi j=>rfl},(λi j k m=>nomatch m),ia.nil,.inl Xb,λl o=>?_}
 .have e:l≠b:=Qd a J;exact Qk (Qk (Qk (Qk (Qk (d _ _ a) e) (Qd (d _ _ a) r)) e) (Qd (d _ _ a) u)) e
 .exact Qk (Qk (Qk Qb h) H) h
 .exact Qk Qb I
 .have o:l=g\/∃v,G l=Ga v:=o;rcases o with o|⟨v,a⟩
  .rw[o];exact{_,Qk (Qk (Qk Qb h) H) h}
  .have e:l≠b:=Qd a J;exact{v,Qk (Qk (Qk (Qk (Qk (d _ _ a) e) (Qd (d _ _ a) r)) e) (Qd (d _ _ a) u)) e}
theorem wc:Q3 ["things","net","one","other","showing","number"] ["things","net","one","other"] (Ql jb):=by eq_refl
theorem zH(F:We K "lines_between" "lines_between" jb f fd)(ak:jh K D)(TN:Ut K mg C)(mD:MG mg "Showing" D)(aR:Mk K D fI)(GI:Qy P w K mg base Z5 1 fI fdI ["self","things","net"] (wX P w C D))(bI:zk K fdI ["self","things","net"] [])
  (GN:Qy P w K mg base Z5 3 fN fdN ["net","one","other"] (sr P w C))(kN:KI K fN)(bN:zk K fdN ["net","one","other"] [])(mN:MG mg "links_needed" fN)
  (mL:Ye K D "line_for" fL)(bL:zk K fdL ["self","one","other"] [])(GL:Qy P w K mg base Z5 4 fL fdL ["self","one","other"] (jQ P w C D Gf))(mW:Ye K D "write_link" fW)(bW:zk K fdW ["self","link"] [])(GW:Qy P w K mg base Z5 5 fW fdW ["self","link"] (xa P w C D)):
  Qy P w K mg base Z5 6 f fd ["things","net","one","other"] (xH P w C):=by
 refine F.ok wc (λvs G e d b=>?_) (λm E v s G vs e d hr b=>?_)
 .obtain⟨t,n,E,H,R,x,Q,T,U,rfl,_⟩:=b;rfl
 obtain⟨t,n,E,H,R,x,Q,T,U,rfl,X,J,FO,oS,tS,he,hS,aW,aU,ht,av,q⟩:=b;have aZ:Yd 2 _:=hr.mono (by lia);have a0:Yd 3 _:=hr.mono (by lia);have a3:Yd 4 _:=hr.mono (by lia);have nd:=wc.nd;show∃t,Ia ?my _ t/\_;let w4:Xk ?my jb 3:={_,Qh (Qt (Qu (pv 4) rfl))}
 let w3:Xk ?my jb 2:={_,Qc (Zj (Zh (pv 4) ak.cl mL GL a3 bL .nil Q7 (Qa (pv 2) (Qa (pv 3) Qe)))) w4.2}
 let w2:Xk ?my jb 1:=⟨_,Qc (Z6 Gy rfl (Yg (Zl GN a0 rfl mN kN bN .nil Q7 (Qa (pv 1) (Qa (pv 2) (Qa (pv 3) Qe))))) (Zz 5 nd)
   (Qh (Zj (Zh (pv 4) ak.cl mW GW hr bW .nil Q7 (Qa (Qm Zc (Qu (pv 1) rfl) (pv 5)) Qe))))) w3.2⟩
 exists _,Qc (Qz 4 nd (pH aR GI aZ rfl mD bI .nil Q7 (Qa (pv 0) (Qa (pv 1) Qe)))) w2.2;refine{_,Xb,_,Xb,λl dx aK aV a8=>?_};have s0:Q6 G (zj (zj G dx (.own l)) l (.ins D dx [])):=λc a4 ae=>by rw[Qg (Qd ae aK),Qg (Qd ae aV)];exact ae
 refine{l,dx,t,n,E,H,R,x,Q,G,Xb,Qb,aK,s0,X,ht,λL S H1 S1=>{Xb,?_}};have X1:=X.same S1.sam;obtain⟨aL,aX,aM⟩:=X.li;obtain⟨aT,on⟩:=X.ob;refine{_,Xb,_,Xb,_,Xb,n,E,H,R,x,T,U,Xb,X1,J,FO,oS,tS,he,by lia,aW,λL2 r H2 g2 aj aH ax a6 Dn=>{L2,Xb,{_,Za.of aH},?_}};have S2:=S1.fr g2;have S2:Vl P w C D (mkv l n t L S E H R x Q G) H2 [] (λ_ _=>Gh):=S2;have aP:L2≠L:=λz=>by obtain⟨vs,l1,_⟩:=S1.li;rw[z,l1]at aj;cases aj
 have aQ:L2≠S:=λz=>by obtain⟨vs,l1,_⟩:=S1.nu;rw[z,l1]at aj;cases aj
 have aF:∀{j i k I:Nat},j<i->r[j]?=Ga k->r[i]?=Ga I->k<I:=λ{j i k I}al h1 h2=>by obtain⟨d,m⟩:=List.getElem?_eq_some_iff.mp h1;obtain⟨e,v⟩:=List.getElem?_eq_some_iff.mp h2;have A:=List.pairwise_iff_getElem.mp a6 j i d e al;have B:=List.pairwise_iff_getElem.mp ax j i d e al;rw[m,v]at A B;lia
 have aG:∀{h:Nat->Nat->Option Nat}{i:Nat},(∀j k a o O,j<i->r[j]?=Ga k->x.links[k]?=Ga (a,o,O)->(h a o).isSome=Gf)->∀{u W j k:Nat},j<i->r[j]?=Ga k->x.Xj u W=Ga k->Dr h u W:=λ{h i}b{u W j k}g hk hl=>by
  obtain⟨O,h1|h1⟩:=J.fst.Qg0 u W k hl
  .exact .inl (b j k u W O g hk h1)
  .exact .inr (b j k W u O g hk h1)
 have a9:=Gq aM;let a5:Nat->St->Hp->Prop:=λi an H3=>jF λ(x5:Option V)(Y:List Ln)(h:Nat->Nat->Option Nat)=>iQ (an=[Ga (.ref t),Ga (.ref n),Ga (jv T),Ga (jv U),Ga (.ref l),x5]) (Vl P w C D (mkv l n t L S E H R x Q G) H3 Y h) (Ik L S H2 H3) (Y.length<=i*12101) (∀j k a o O,j<i->r[j]?=Ga k->x.links[k]?=Ga (a,o,O)->(h a o).isSome=Gf) (∀N,(∀j k,j<i->r[j]?=Ga k->k<N)->gL (mkv l n t L S E H R x Q G) h N) ((h T U).isSome=Gf->∃O,Y.getLast?=Ga (T,U,O))
 refine Y9 (K:=K) (a:=L2) (xs:=r.map jv) a5
  {_,[],_,Xb,S2,Ik.refl,Gz _,(λj k a o O b=>by lia),(λN _ i j b=>by cases b),(λb=>by cases b)} (by rintro i an H3 _ ⟨_,_,_,_,_,F3,_⟩;exact Za.of (F3.keep _ _ aH aP aQ)) ?_ ?_
 .rintro i y an H3 B ⟨x5,Y,h,rfl,Z,F3,aJ,ah,au,aI⟩;rw[List.getElem?_map]at B;cases eq:r[i]? with
  |none=>rw[eq]at B;cases B
  |some k=>
   rw[eq]at B;cases B;have ad:k∈r:=List.mem_of_getElem? eq;have kl:=Dn.lt k ad;have kw:k<aL.length:=by lia
   have a7:i<r.length:=(List.getElem?_eq_some_iff.mp eq).1;have aY:r.length<=64:=by have:r.length<=(List.range x.links.length).length:=Xt ax λk hk=>List.mem_range.mpr (Dn.lt k hk);rw[List.length_range]at this;lia
   obtain⟨⟨a,o,rs⟩,e,aB⟩:=Qw aM (List.getElem?_eq_getElem kw);obtain⟨aS,bS,ai⟩:=J.lnk k a o rs e;have aD:=Z.sam _ _ on;have aC:=Z.sam _ _ aX;obtain⟨ar,o3⟩:=Z.ob;have aE:Q4 G H3:=Q4.of Z.sam;have aA:∀p q,(p,q)∈Wj H (a,o,rs)->Go (mkv l n t L S E H R x Q G) h p q:=λp q m=>by
    obtain⟨pS,qS,A⟩:=lA J e m;refine{J,pS,qS,(J.conn p pS q qS).mpr (A.mono λz hz=>List.mem_of_mem_take hz),by show x.S.length<=1000;lia,λst aa u W ag=>?_};obtain⟨I,M,_⟩:=oQ J aa ag;obtain⟨d,v⟩:=Dn.low k ad _ e p q m st aa u W ag I M;obtain⟨j,g⟩:=List.mem_iff_getElem?.mp d;have al:j<i:=by
     rcases L9 j i with b|b|b
     .exact b
     .subst b;rw[eq]at g;cases g;lia
     .have:=aF b eq g;lia
    exact aG ah al g M
   refine{_,Xb,l,ar,_,Xb,o3,AK _,_,Xb,n,C,aT,_,_,Xb,aD,TN.cl,TN.links,Jh _,_,Xb,E.k,aL,_,_,Xb,Xb,Za.of aC,Qj (List.getElem?_eq_getElem kw),mkv l n t L S E H R x Q G,Y,h,_,a,o,rs,Xb,Z,aB.Qs aE,List.mem_of_getElem? e,FO.lt a aS,FO.lt o bS,av,λp hp=>by show p<Q.length;rw[<-av];exact FO.lt p hp,hS,aU a,λz=>{(ai z).1,(ai z).2.1},aA,by lia,λam N1 O H4 S4 F4 aN aw aq=>?_};have ay:∀N,k<N->∀p q,(p,q)∈Wj H (a,o,rs)->Cn (x.links.take N) p q:=λN hm p q m=>by
    obtain⟨pS,qS,A⟩:=lA J e m;refine A.mono λz hz=>?_;have:x.links.take k=(x.links.take N).take k:=by rw[List.take_take,EZ (by lia)]
    rw[this]at hz;exact List.mem_of_mem_take hz
   have az:gL (mkv l n t L S E H R x Q G) N1 k:=aq k (au k λj I g M=>aF g M eq) λp q m=>(lA J e m).2.2;refine{_,Y++am++[(a,o,O)],_,Xb,S4,F3.trans F4,by rw[List.length_append,List.length_append,List.length_singleton];lia,λj I a' b' r' g ab ac=>?_,λN hm=>?_,λb=>?_}
   .rcases Tp j i with b|b
    .exact rg _ _ (aN _ _ (ah j I a' b' r' b ab ac))
    .have:j=i:=by lia
     subst this;rw[eq]at ab;cases ab;rw[e]at ac;cases ac;rw[nQ];rfl
   .have d:=hm i k (by lia) eq;exact sk (aq N (au N λj I g M=>hm j I (by lia) M) (ay N d)) (.link (List.mem_of_getElem? (i:=k) (by rw[List.getElem?_take_of_lt d];exact e)))
   .by_cases d:T=a/\U=o
    .obtain⟨rfl,rfl⟩:=d;exact{O,List.getLast?_concat}
    .unfold putN at b;rw[Gi d]at b;have A:=az _ _ b;subst_vars;obtain⟨st,p,q',j,aa,m,g,af⟩:=Dn.only k ad;obtain⟨I,M,v⟩:=oQ J aa m;and_intros;rw[g]at M;cases M;have:=v k A;lia
 .rintro an H3 ⟨x5,Y,h,rfl,Z,F3,aJ,ah,au,aI⟩;rw[List.length_map]at aJ ah;have aY:r.length<=64:=by have:r.length<=(List.range x.links.length).length:=Xt ax λk hk=>List.mem_range.mpr (Dn.lt k hk);rw[List.length_range]at this;lia
  obtain⟨ar,o3⟩:=Z.ob;have A:Go (mkv l n t L S E H R x Q G) h T U:=by refine{J,oS,tS,he,by show x.S.length<=1000;lia,λst aa u W ag=>?_};obtain⟨I,M,_⟩:=oQ J aa ag;obtain⟨j,g⟩:=List.mem_iff_getElem?.mp (Dn.top st aa u W ag I M);exact aG ah (List.getElem?_eq_some_iff.mp g).1 g M
  have m:∀p∈x.S,p<Q.length:=λp hp=>by rw[<-av];exact FO.lt p hp
  refine{_,Xb,l,ar,_,Xb,o3,Ru _,_,Xb,_,Xb,mkv l n t L S E H R x Q G,Y,h,T,U,Xb,Z,m T oS,m U tS,m,.inr ⟨Xb,A⟩,by rw[Gp rfl];lia,λk am N4 H4 S4 F4 aO aN aw aq ao _ ap=>?_};obtain⟨v,o4⟩:=S4.ob;obtain⟨vs,l1,B⟩:=S4.li;refine{_,Xb,l,D,v,_,_,Xb,o4,ak.cl,ak.lines,nK _,q (.ref L) (Y++am) H4 S4.sam {L,vs,Xb,l1,(by rintro⟨a4,ae⟩;have:=S4.L0;dsimp only[mkv]at this;rw[this]at ae;cases ae),(_root_.L2.Paired.Z8 B λ_ _ b=>b.ex λc e _ d z=>d (.inr z)),(by rw[List.length_append];have aw:am.length<=2*x.S.length+1:=aw;lia)} S4.good ?_};cases hN:h T U with
  |none=>exact ao hN
  |some d=>rw[ap (by rw[hN];exactλz=>nomatch z),List.append_nil];exact aI (by rw[hN];rfl)
end
def tfs(ts:List Th):List Fm:=ts.map (fm ts)
def tg(ts:List Th)(p:Nat):Th:=ts.getD p (.mk Em [])
theorem Uw(h:ts[p]?=Ga t):tg ts p=t:=by unfold tg;rw[List.getD_eq_getElem?_getD,h];rfl
theorem Ry(h:t∈ts):tg ts (ts.idxOf t)=t:=Uw (Iy h)
theorem Wg(h:p<ts.length):ts[p]?=Ga (tg ts p):=by rw[List.getElem?_eq_getElem h,Uw (List.getElem?_eq_getElem h)]
theorem Wy(h:ts[p]?=Ga t):Yi (tfs ts) p=t.word/\Zq (tfs ts) p=t.parts.map λq=>ts.idxOf q:=by unfold Yi Zq tfs;rw[List.getD_eq_getElem?_getD,List.getElem?_map,h];exact⟨Xb,Xb⟩
theorem Vu(a:List Th):(tfs a).length=a.length:=by simp[tfs]
structure jS(fs:List Fm)(x:Nn)(sm:List (Nat×Nat)):Prop where
 ins:∀p q,(p,q)∈sm->p∈x.S/\q∈x.S
 eq:∀p q,(p,q)∈sm->x.lead p=x.lead q
 snd:∀E,Ec (Yi fs) (Zq fs) x.S E->(∀p q,(p,q)∈sm->E p q)->∀p∈x.S,∀q∈x.S,x.lead p=x.lead q->E p q
def kK(a:List En):List (Nat×Nat):=a.filterMap λ(e:En)=>if e.1=("same":Tb)then Ga e.2 else Gh
theorem Ug:(p,q)∈kK ens↔sme p q∈ens:=by
 unfold kK;rw[List.mem_filterMap];constructor
 .rintro⟨⟨k,a,b⟩,h,e⟩;split at e
  .rename_i c
   have c:k=("same":Tb):=c;cases e;subst c;exact h
  .cases e
 .exactλh=>{_,h,Gp Xb}
theorem vi(U:hY fs x ens ens.length):jS fs x (kK ens):=by refine{λp q h=>U.ins _ (Ug.mp h),λp q h=>?_,λE X h=>U.snd E X λj p q _ a=>h p q (Ug.mpr (List.mem_of_getElem? a))};obtain⟨j,a⟩:=List.mem_iff_getElem?.mp (Ug.mp h);exact U.eq j p q (List.getElem?_eq_some_iff.mp a).1 a
theorem KR{d:Nn}{c:List (Nat×Nat)}{r:Option Ji}(Q:jS fs x c)(M:gQ fs x d a b r [])(f:a∈x.S)(g:b∈x.S):jS fs d (c++[(a,b)]):=by
 have e:=M.S;refine{λp q h=>?_,λp q h=>?_,λE X h=>?_}
 .rw[e];rcases List.mem_append.mp h with h|h
  .exact Q.ins p q h
  .simp at h;rw[h.1,h.2];exact⟨f,g⟩
 .rcases List.mem_append.mp h with h|h
  .obtain⟨i,j⟩:=Q.ins p q h;exact M.mono p i q j (Q.eq p q h)
  .simp at h;rw[h.1,h.2];exact M.eq.nil
 .rw[e]at X;have i:=Q.snd E X λp q j=>h p q (List.mem_append_left _ j);exact(M.snd E X {i,λu v s m=>by simp at m;rw[m.1,m.2.1];exact h a b (by simp)}).1
theorem jS.cg(nd:ts.Nodup)(o:Ui ts){y:List (Nat×Nat)}(I:Wk (Yi (tfs ts)) (Zq (tfs ts)) x [])(C:hZ (tfs ts) x.S)(Q:jS (tfs ts) x y)
  (G:∀a b,(Gf,a,b)∈tl->∃p q,(p,q)∈y/\ts[p]?=Ga a/\ts[q]?=Ga b)(H:∀p q,(p,q)∈y->(Gf,tg ts p,tg ts q)∈tl)(d:p∈x.S)(g:q∈x.S):x.lead p=x.lead q↔Cg tl (tg ts p) (tg ts q):=by
 have J:∀p∈x.S,p<ts.length:=λp d=>by have:=C.lt p d;rwa[Vu]at this
 have f:∀p∈x.S,ts[p]?=Ga (tg ts p):=λp d=>Wg (J p d);have j:∀p∈x.S,tg ts p∈ts:=λp d=>List.mem_of_getElem? (f p d);have n:∀p∈x.S,ts.idxOf (tg ts p)=p:=λp d=>R9 nd (f p d);constructor
 .refineλh=>Q.snd (λp q=>Cg tl (tg ts p) (tg ts q)) {λ_=>.refl _,λ_ _ h=>.symm h,λ_ _ _ h k=>.trans h k,λp d q g hw e=>?_} (λp q h=>.told (H p q h)) p d q g h;obtain⟨A,m⟩:=Wy (f p d);obtain⟨B,z⟩:=Wy (f q g);rw[A,B]at hw;rw[m,z]at e;have K:=j p d;have L:=j q g;generalize tg ts p=a at*;generalize tg ts q=b at*;cases a with
  |mk u F=>
   cases b with
   |mk v M=>simp only[Th.word,Th.parts]at hw e;subst hw;have D:=X5 o K;have E:=X5 o L;simp only[Th.parts]at D E;obtain⟨r,e⟩:=e;rw[List.length_map,List.length_map]at r;refine .cong (gC.of r λi s t w l=>?_);have:=e i (ts.idxOf s) (ts.idxOf t) (by rw[List.getElem?_map,w];rfl) (by rw[List.getElem?_map,l];rfl);dsimp only at this;rwa[Ry (D s (List.mem_of_getElem? w)),Ry (E t (List.mem_of_getElem? l))]at this
 .intro c;have T:Rr tl (x.S.map (tg ts)) (λt=>((x.lead (ts.idxOf t):Nat):Int)):=by
   refine{λw F h q g=>?_,λa b h=>?_,λw F M l v e=>?_}
   .obtain⟨p,d,e⟩:=List.mem_map.mp h;have r:=X5 o (j p d) q (by rw[e];exact g);obtain⟨_,m⟩:=Wy (f p d);have:ts.idxOf q∈Zq (tfs ts) p:=by rw[m,e];exact List.mem_map.mpr ⟨q,g,Xb⟩
    exact List.mem_map.mpr {_,C.pts p d _ this,Ry r}
   .obtain⟨p,q,E,r,D⟩:=G a b h;obtain⟨K,L⟩:=Q.ins p q E;exists List.mem_map.mpr {p,K,Uw r},List.mem_map.mpr {q,L,Uw D};rw[R9 nd r,R9 nd D,Q.eq p q E]
   .obtain⟨p,d,r⟩:=List.mem_map.mp l;obtain⟨q,g,D⟩:=List.mem_map.mp v;obtain⟨A,m⟩:=Wy (f p d);obtain⟨B,z⟩:=Wy (f q g);have:=I.cong d g (by simp only[Zp,Dg];rw[A,B,m,z,r,D];exists Xb;simp only[Th.parts,List.map_map];have:=congrArg (List.map DO) e;simp only[List.map_map]at this;exact this)
    rw[<-r,<-D,n p d,n q g,this]
  have:=T.complete (List.mem_map.mpr ⟨p,d,Xb⟩) (List.mem_map.mpr ⟨q,g,Xb⟩) c;simp only[n p d,n q g]at this;lia
abbrev Lt:=Th×Th×Lr
def ie(a:List Lt):Th->List Nat->Th->Prop
 |p,[],q=>p=q
 |p,k::b,q=>∃m r,a[k]?=Ga (p,m,r)/\ie a m b q
def qO(tl:Tl)(e:Option (Th×Th))(c:List Lt)(a b:Th):Lr->Prop
 |.told n=>tl[n]?=Ga (Gf,a,b)
 |.asked=>e=Ga (a,b)
 |.turn k=>∃r,c[k]?=Ga (b,a,r)
 |.chain d=>ie c a d b
 |.like d=>a.word=b.word/\a.parts.length=b.parts.length/\d.length=a.parts.length/\∀(j k:Nat)(p q:Th),d[j]?=Ga k->a.parts[j]?=Ga p->b.parts[j]?=Ga q->∃r,c[k]?=Ga (p,q,r)
def kX(tl:Tl)(c:Option (Th×Th))(ls:List Lt):Prop:=∀(i:Nat)a b r,ls[i]?=Ga (a,b,r)->qO tl c (ls.take i) a b r
def lth(ts:List Th)(l:Ln):Lt:=(tg ts l.1,tg ts l.2.1,l.2.2)
theorem mX{a:List Ln}{r:Lr}(h:a[k]?=Ga (p,q,r)):(a.map (lth ts))[k]?=Ga (tg ts p,tg ts q,r):=by rw[List.getElem?_map,h];rfl
theorem vA{b:List Th}{a:List Ln}:∀{c:List Nat}{p q:Nat},mr a p c q->ie (a.map (lth b)) (tg b p) c (tg b q)
 |[],p,q,h=>by have:p=q:=h;rw[this];rfl
 |k::c,p,q,⟨m,r,d,e⟩=>{tg b m,r,mX d,vA e}
theorem n9(m:Ui ts){z:Option (Th×Th)}(g:ia (tfs ts) lks ls)(I:∀l∈ls,l.1<ts.length/\l.2.1<ts.length)
  (F:∀a b n,(a,b,Ga (.told n))∈lks->tl[n]?=Ga (Gf,tg ts a,tg ts b))(D:∀a b,(a,b,Ga .asked)∈lks->z=Ga (tg ts a,tg ts b)):kX tl z (ls.map (lth ts)):=by
 intro i a b r c;rw[List.getElem?_map]at c;cases e:ls[i]? with
 |none=>rw[e]at c;cases c
 |some l=>
  rw[e]at c;obtain⟨p,q,L⟩:=l;cases c;dsimp only;generalize L=r at*;have ok:=g i p q r e;obtain⟨x,y⟩:=I _ (List.mem_of_getElem? e);rw[<-List.map_take];cases r with
  |told n=>exact F p q n ok
  |asked=>exact D p q ok
  |turn k=>obtain⟨f,h⟩:=ok;exact{f,mX h}
  |chain H=>exact vA ok
  |like H=>obtain⟨B,o,s,C⟩:=ok;obtain⟨M,h⟩:=Wy (Wg x);obtain⟨N,A⟩:=Wy (Wg y);have J:tg ts p∈ts:=List.mem_of_getElem? (Wg x);have K:tg ts q∈ts:=List.mem_of_getElem? (Wg y);rw[h,A,List.length_map,List.length_map]at o;rw[h,List.length_map]at s;refine{by rw[<-M,<-N];exact B,o,s,λj k u v E t w=>?_};have G:=C j k (ts.idxOf u) (ts.idxOf v) E (by rw[h,List.getElem?_map,t];rfl) (by rw[A,List.getElem?_map,w];rfl);obtain⟨f,d⟩:=G;have:=mX (ts:=ts) d;rw[Ry (X5 m J u (List.mem_of_getElem? t)),Ry (X5 m K v (List.mem_of_getElem? w))]at this;exact⟨f,this⟩
def pU(H:Hp)(X:Gc->Prop)(v:V)(l:Lt):Prop:=∃c b d a,v=.ref c/\H c=Ga (.tup [b,d,a])/\Zv H b l.1/\Zv H d l.2.1/\Rj H X a l.2.2/\l.1.good/\l.2.1.good
inductive Wf(H:Hp)(X:Gc->Prop)(v:V)(ls:List Lt):Prop
 |mk (L:_) (vs:_) (h0:v=.ref L) (h1:H L=Ga (.lst vs)) (h2:¬X L) (h3:Paired (pU H X) vs ls) (h4:ls.length<=900000):Wf H X v ls
theorem Wf.kp{X:Gc->Prop}{H b:Hp}(a:Q4 H b)(f:∀{c:Gc}{d:List V},H c=Ga (.lst d)->¬X c->b c=Ga (.lst d)){v:V}{g:List Lt}(h:Wf H X v g):Wf b X v g:=by obtain⟨L,w,i,j,d,k,l⟩:=h;exact{L,w,i,f j d,d,L2.Paired.Z8 k (by rintro _ _ ⟨c,t,u,s,m,n,o,p,q,r⟩;exact{c,t,u,s,m,a _ _ n,o.Qs a,p.Qs a,q.kp (λe=>a _ _ e) f,r}),l}
theorem Wf.ex{X Y:Gc->Prop}{H:Hp}(b:∀c a,H c=Ga (.lst a)->¬X c->¬Y c){v:V}{d:List Lt}(h:Wf H X v d):Wf H Y v d:=by obtain⟨L,s,e,a,f,g,i⟩:=h;exact{L,s,e,a,b _ _ a f,L2.Paired.Z8 g (by rintro _ _ ⟨c,q,r,p,j,k,l,m,n,o⟩;exact{c,q,r,p,j,k,l,m,n.ex b,o}),i}
theorem OH{k:List V}(g:Zr H k ts)(e:∀t∈ts,t.good)(h:oG H X k v ls):Wf H X v (ls.map (lth ts))/\∀l∈ls,l.1<ts.length/\l.2.1<ts.length:=by
 obtain⟨L,d,s,u,y,o,w⟩:=h;have a:=g.length;have f:∀{d:List V}{ls:List Ln},Paired (hV H X k) d ls->Paired (pU H X) d (ls.map (lth ts))/\∀l∈ls,l.1<ts.length/\l.2.1<ts.length:=by
  intro d ls h;induction h with
  |nil=>exact{.nil,λl b=>nomatch b}
  |@cons v l d ls x t p=>
   obtain⟨c,G,I,F,B,C,q,r,D⟩:=x;have i:l.1<ts.length:=by rw[<-a];exact(List.getElem?_eq_some_iff.mp q).1
   have j:l.2.1<ts.length:=by rw[<-a];exact(List.getElem?_eq_some_iff.mp r).1
   obtain⟨J,m,z⟩:=g.at (Wg i);obtain⟨K,n,A⟩:=g.at (Wg j);rw[q]at m;rw[r]at n;cases m;cases n;refine{.cons {c,G,I,F,B,C,z,A,D,e _ (List.mem_of_getElem? (Wg i)),e _ (List.mem_of_getElem? (Wg j))} p.1,λE b=>?_};rcases List.mem_cons.mp b with rfl|b
   .exact⟨i,j⟩
   .exact p.2 E b
 exact{{L,d,s,u,y,(f o).1,by rw[List.length_map];exact w},(f o).2}
structure lE(tl:Tl)(S:List Th)(rs:List Row):Prop where
 ex:∃L:Th->Nat,(∀s∈S,∀t∈S,L s=L t↔Cg tl s t)/\(∀t∈S,(t.word,t.parts.map L,L t)∈rs)/\∀r∈rs,∃t∈S,r=(t.word,t.parts.map L,L t)
 cl:∀t∈S,∀p∈t.parts,p∈S
 nd:(rs.map λr=>(r.1,r.2.1)).Nodup
 good:∀t∈S,t.good
 len:rs.length<=1000
theorem OA[DecidableEq α]{l S:List α}(nd:l.Nodup)(h:∀p∈l,p∈S):l.length<=S.length:=by
 induction l generalizing S with
 |nil=>simp
 |cons a r c=>rw[List.nodup_cons]at nd;have:=c (S:=S.erase a) nd.2 λp b=>(List.mem_erase_of_ne (show p≠a fromλz=>nd.1 (by rw[<-z];exact b))).mpr (h p (List.mem_cons_of_mem _ b));have e:=List.length_erase_of_mem (h a List.mem_cons_self);have d:0<S.length:=List.length_pos_of_mem (h a List.mem_cons_self);simp only[List.length_cons];ext
theorem yT(i:∀t∈ts,t.good)(nd:ts.Nodup)(o:Ui ts){n:List Row}(m:hZ (tfs ts) x.S)(a:x.S.length<=1000)(W:sQ (tfs ts) x n)(h:∀p∈x.S,∀q∈x.S,x.lead p=x.lead q↔Cg tl (tg ts p) (tg ts q)):lE tl (x.S.map (tg ts)) n:=by
 have w:∀p∈x.S,p<ts.length:=λp a=>by have:=m.lt p a;rwa[Vu]at this
 have b:∀p∈x.S,ts[p]?=Ga (tg ts p):=λp a=>Wg (w p a);have f:∀p∈x.S,tg ts p∈ts:=λp a=>List.mem_of_getElem? (b p a);have k:∀p∈x.S,ts.idxOf (tg ts p)=p:=λp a=>R9 nd (b p a);obtain⟨N,n1,n2,n3⟩:=W.ex;have g:∀p∈x.S,Vi (tfs ts) x N p=((tg ts p).word,(tg ts p).parts.map (λt=>N (x.lead (ts.idxOf t))),N (x.lead (ts.idxOf (tg ts p)))):=λp a=>by obtain⟨e,l⟩:=Wy (b p a);unfold Vi;rw[e,l,List.map_map,k p a];rfl
 exists {λt=>N (x.lead (ts.idxOf t)),λs u t c=>?_,λt c=>?_,λr j=>?_},λt c q d=>?_,W.nd,λt c=>?_
 .obtain⟨p,a,rfl⟩:=List.mem_map.mp u;obtain⟨q,d,rfl⟩:=List.mem_map.mp c;dsimp only;rw[k p a,k q d,<-h p a q d];exact{n1 p a q d,λe=>by rw[e]}
 .obtain⟨p,a,rfl⟩:=List.mem_map.mp c;rw[<-g p a];exact n2 p a
 .obtain⟨p,a,rfl⟩:=n3 r j;exact{_,List.mem_map.mpr ⟨p,a,Xb⟩,g p a}
 .obtain⟨p,a,rfl⟩:=List.mem_map.mp c;have e:=X5 o (f p a) q d;obtain⟨_,l⟩:=Wy (b p a);have:ts.idxOf q∈Zq (tfs ts) p:=by rw[l];exact List.mem_map.mpr ⟨q,d,Xb⟩
  exact List.mem_map.mpr {_,m.pts p a _ this,Ry e}
 .obtain⟨p,a,rfl⟩:=List.mem_map.mp c;exact i _ (f p a)
 .have e:=OA W.nd (S:=(x.S.map (Vi (tfs ts) x N)).map λr=>(r.1,r.2.1)) λz v=>by obtain⟨r,j,rfl⟩:=List.mem_map.mp v;obtain⟨p,a,rfl⟩:=n3 r j;exact List.mem_map.mpr {_,List.mem_map.mpr ⟨p,a,Xb⟩,Xb}
  rw[List.length_map,List.length_map,List.length_map]at e;ext
def Vc(p t e:Gc):List (Tb×V):=[("places",.ref p),("told",.ref t),("entries",.ref e)]
theorem U5(p t e:Gc):(Vc p t e).lookup ("places":Tb)=Ga (.ref p):=by rfl
theorem oX(p t e:Gc):(Vc p t e).lookup ("told":Tb)=Ga (.ref t):=by rfl
theorem V8(p t e:Gc):(Vc p t e).lookup ("entries":Tb)=Ga (.ref e):=by rfl
theorem IY(p t e:Gc):(Vc p t e).lookup ("answer":Tb)=Gh:=by rfl
theorem OD(p t e:Gc):(Vc p t e).lookup ("go_back":Tb)=Gh:=by rfl
theorem BA(p t e:Gc):(Vc p t e).lookup ("tell":Tb)=Gh:=by rfl
theorem Cd(p t e:Gc):(Vc p t e).lookup ("ask":Tb)=Gh:=by rfl
theorem Im(p t e:Gc):(Vc p t e).lookup ("lines_for":Tb)=Gh:=by rfl
theorem PQ(a f d:Gc):(Ij a f d).lookup ("things":Tb)=Ga (.ref a):=by rfl
theorem vc(a f d:Gc):(Ij a f d).lookup ("forms":Tb)=Ga (.ref f):=by rfl
theorem yz(a f d:Gc):(Ij a f d).lookup ("place_of":Tb)=Gh:=by rfl
theorem zY(p t e a:Gc):Yo "told" (.ref a) (Vc p t e)=Vc p a e:=by rfl
theorem Ow(p t e a:Gc):Yo "entries" (.ref a) (Vc p t e)=Vc p t a:=by rfl
def hI(ts:List Th):List En->Tl->Prop:=Paired λ(e:En)(p:Bool×Th×Th)=>e.1=tw p.1/\ts[e.2.1]?=Ga p.2.1/\ts[e.2.2]?=Ga p.2.2
structure Ul(P:Gg)(w:Gu)(CP CB:Gc)(H:Hp)(bk p a f d t e:Gc)(ts:List Th)(tl:Tl):Prop where
 ob:∃dx,H bk=Ga (.ins CB dx (Vc p t e))
 pl:Pl P w CP H p a f d ts
 to:∃vs,H t=Ga (.lst vs)/\Rl H vs tl
 en:∃es ens,H e=Ga (.lst es)/\Paired (gW H) es ens/\hI ts ens tl
 ta:t≠a
 tf:t≠f
 te:t≠e
 ea:e≠a
 ef:e≠f
structure ij(U ts:List Th)(tl:Tl):Prop where
 sub:∀t∈ts,t∈U
 cl:Ui U
 good:∀t∈U,t.good
 len:U.length<=60
 tl:tl.length<=900
theorem K0{l:List Th}(nd:l.Nodup)(h:∀p∈l,p∈S):l.length<=S.length:=by
 induction l generalizing S with
 |nil=>simp
 |cons a r c=>rw[List.nodup_cons]at nd;have:=c (S:=S.erase a) nd.2 λp b=>(List.mem_erase_of_ne (show p≠a fromλz=>nd.1 (by rw[<-z];exact b))).mpr (h p (List.mem_cons_of_mem _ b));have e:=List.length_erase_of_mem (h a List.mem_cons_self);have d:0<S.length:=List.length_pos_of_mem (h a List.mem_cons_self);simp only[List.length_cons];ext
theorem ij.le(h:ij U ts tl)(nd:ts.Nodup):ts.length<=60:=Tw (K0 nd h.sub) h.len
def qf(tl b:Tl)(n:Nat)(a c:Th):Prop:=tl[n]?=Ga (Gs,a,c)/\Cg b a c/\∀(j:Nat)d e,j<n->tl[j]?=Ga (Gs,d,e)->¬Cg b d e
def Jy(H:Hp)(X:Gc->Prop)(tl:Tl):Dd->V->Prop
 |.back i,v=>v=(J9 tl (.back i)).2
 |.tell b s t,v=>(¬Wh (tl++[(b,s,t)])/\v=.int ((tl.length:Int)+1))\/
   ∃d n a c e ls,v=.ref d/\H d=Ga (.tup [.str "clash",jv n,e])/\qf (tl++[(b,s,t)]) (tl++[(b,s,t)]) n a c/\Wf H X e ls/\kX (tl++[(b,s,t)]) Gh ls/\∃r,ls.getLast?=Ga (a,c,r)
 |.ask s t,v=>(Cg tl s t/\∃d e ls,v=.ref d/\H d=Ga (.tup [.str "equal",e])/\Wf H X e ls/\kX tl Gh ls/\∃r,ls.getLast?=Ga (s,t,r))\/
   (¬Cg tl s t/\∃d n a c e ls,v=.ref d/\H d=Ga (.tup [.str "unlike",jv n,e])/\qf tl (tl++[(Gf,s,t)]) n a c/\Wf H X e ls/\kX tl (Ga (s,t)) ls/\∃r,ls.getLast?=Ga (a,c,r))\/
   (¬Cg tl s t/\(∀a c,(Gs,a,c)∈tl->¬Cg (tl++[(Gf,s,t)]) a c)/\∃d h j f g S,v=.ref d/\H d=Ga (.tup [.str "open",h,j])/\Ub H X h f/\Ub H X j g/\lE tl S f/\lE (tl++[(Gf,s,t)]) S g/\s∈S/\t∈S/\∀b a c,(b,a,c)∈tl->a∈S/\c∈S)
theorem Jy.kp{X:Gc->Prop}{H u:Hp}(f:Q4 H u)(p:∀{c:Gc}{b:List V},H c=Ga (.lst b)->¬X c->u c=Ga (.lst b)){z:Tl}:∀{d:Dd}{v:V},Jy H X z d v->Jy u X z d v
 |.back i,v,h=>h
 |.tell b s t,v,h=>by
  rcases h with h|⟨g,n,a,c,r,q,j,k,l,m,o⟩
  .exact .inl h
  .exact .inr {g,n,a,c,r,q,j,f _ _ k,l,m.kp f p,o}
 |.ask s t,v,h=>by
  rcases h with⟨b,g,r,q,j,k,l,m⟩|⟨b,g,n,a,c,r,q,j,k,l,m,o⟩|⟨b,w,g,A,B,x,y,S,j,k,l,m,o⟩
  .exact .inl {b,g,r,q,j,f _ _ k,l.kp f p,m}
  .exact .inr (.inl {b,g,n,a,c,r,q,j,f _ _ k,l,m.kp f p,o})
  .exact .inr (.inr {b,w,g,A,B,x,y,S,j,f _ _ k,l.kp (λe=>f _ _ e) p,m.kp (λe=>f _ _ e) p,o})
theorem Jy.ex{X Y:Gc->Prop}{H:Hp}(m:∀c b,H c=Ga (.lst b)->¬X c->¬Y c){w:Tl}:∀{d:Dd}{v:V},Jy H X w d v->Jy H Y w d v
 |.back i,v,h=>h
 |.tell b s t,v,h=>by
  rcases h with h|⟨e,n,a,c,p,o,f,g,j,k,l⟩
  .exact .inl h
  .exact .inr {e,n,a,c,p,o,f,g,j,k.ex m,l}
 |.ask s t,v,h=>by
  rcases h with⟨b,e,p,o,f,g,j,k⟩|⟨b,e,n,a,c,p,o,f,g,j,k,l⟩|⟨b,q,e,x,y,r,u,S,f,g,j,k,l⟩
  .exact .inl {b,e,p,o,f,g,j.ex m,k}
  .exact .inr (.inl {b,e,n,a,c,p,o,f,g,j,k.ex m,l})
  .exact .inr (.inr {b,q,e,x,y,r,u,S,f,g,j.ex m,k.ex m,l})
theorem Pr(h:t.good):t.parts.length<=100:=by
 cases t with
 |mk u a=>have:=Ze a;have:=h.2.2;simp only[Th.size]at this;simp only[Th.parts];lia
theorem A7{p:Th}(h:p∈t.parts):p.depth<t.depth:=by
 cases t with
 |mk u a=>simp only[Th.parts]at h;have:=Wd h;simp only[Th.depth];ext
theorem A0(h:t.ok=Gf):TR t.word=Gf:=by
 cases t with
 |mk u a=>simp only[Th.ok,Tn]at h;exact h.1
theorem zb(h:¬p<ts.length):Yi (tfs ts) p=Em/\Zq (tfs ts) p=[]:=by unfold Yi Zq tfs;rw[List.getD_eq_getElem?_getD,List.getElem?_eq_none (by rw[List.length_map];ext)];exact⟨Xb,Xb⟩
theorem vI(nd:ts.Nodup)(d:Ui ts)(e:∀t∈ts,t.good)(a:ts.length<=60):mQ (tfs ts) (λp=>(tg ts p).depth)/\∀p,(tg ts p).depth<59:=by
 have a:∀{p:Nat},p<ts.length->tg ts p∈ts:=λh=>List.mem_of_getElem? (Wg h);refine{{λp=>?_,λp=>?_,λp b q c=>?_,λp q b c f g=>?_,by rw[Vu];ext},λp=>?_}
 .by_cases h:p<ts.length
  .rw[(Wy (Wg h)).1];exact A0 (e _ (a h)).1
  .rw[(zb h).1];decide+kernel
 .by_cases h:p<ts.length
  .rw[(Wy (Wg h)).2,List.length_map];exact Pr (e _ (a h))
  .rw[(zb h).2];exact Gz _
 .rw[Vu]at b⊢;rw[(Wy (Wg b)).2]at c;obtain⟨s,i,rfl⟩:=List.mem_map.mp c;have:=X5 d (a b) s i;exists List.idxOf_lt_length_of_mem this;rw[Ry this];exact A7 i
 .rw[Vu]at b c;obtain⟨k,i⟩:=Wy (Wg b);obtain⟨l,j⟩:=Wy (Wg c);rw[k,l]at f;rw[i,j]at g;have:=qg (ts:=ts) (X5 d (a b)) (X5 d (a c)) (LW f g);rw[<-R9 nd (Wg b),<-R9 nd (Wg c),this]
 .by_cases h:p<ts.length
  .have:=(e _ (a h)).2.1;ext
  .have:tg ts p=.mk Em []:=by unfold tg;rw[List.getD_eq_getElem?_getD,List.getElem?_eq_none (by ext)];rfl
   rw[this];simp[Th.depth,Wz]
theorem mV{b:Bool}(h:("same":Tb)=tw b):b=Gf:=by
 cases b with
 |true=>rfl
 |false=>exact absurd h (by decide+kernel)
theorem BI{b:Bool}(h:("unlike":Tb)=tw b):b=Gs:=by
 cases b with
 |true=>exact absurd h (by decide+kernel)
 |false=>rfl
theorem mx(R:hI ts ens tl){k:Tb}(h:ens[j]?=Ga (k,p,q)):∃b,k=tw b/\tl[j]?=Ga (b,tg ts p,tg ts q):=by obtain⟨⟨b,s,t⟩,a,c,d,e⟩:=Qw R h;exact{b,c,by rw[a,Uw d,Uw e]}
theorem O9(R:hI ts ens tl){b:Bool}{s:Th}(h:tl[j]?=Ga (b,s,t)):∃p q,ens[j]?=Ga (tw b,p,q)/\ts[p]?=Ga s/\ts[q]?=Ga t:=by
 have g:=Gq R;have c:j<ens.length:=by rw[g];exact(List.getElem?_eq_some_iff.mp h).1
 obtain⟨⟨i,k,l⟩,a,d,e,f⟩:=Qw R (List.getElem?_eq_getElem c);rw[h]at a;cases a;refine{ens[j].2.1,ens[j].2.2,?_,e,f};rw[List.getElem?_eq_getElem c,<-d]
theorem xc{c:List En}(R:hI ts ens tl)(g:∀p q,sme p q∈c↔sme p q∈ens):
  (∀a b,(Gf,a,b)∈tl->∃p q,(p,q)∈kK c/\ts[p]?=Ga a/\ts[q]?=Ga b)/\∀p q,(p,q)∈kK c->(Gf,tg ts p,tg ts q)∈tl:=by
 constructor
 .intro a b h;obtain⟨j,f⟩:=List.mem_iff_getElem?.mp h;obtain⟨p,q,e,d,i⟩:=O9 R f;exact{p,q,Ug.mpr ((g p q).mpr (List.mem_of_getElem? e)),d,i}
 .intro p q h;obtain⟨j,f⟩:=List.mem_iff_getElem?.mp ((g p q).mp (Ug.mp h));obtain⟨b,e,d⟩:=mx R f;rw[mV e]at d;exact List.mem_of_getElem? d
theorem yg{b:Tl}(R:hI ts ens tl)(k:∀e∈ens,e.2.1∈x.S/\e.2.2∈x.S)(f:∀p∈x.S,∀q∈x.S,x.lead p=x.lead q↔Cg b (tg ts p) (tg ts q))(h:qe x ens Gh):∀a c,(Gs,a,c)∈tl->¬Cg b a c:=λa c n l=>by obtain⟨j,m⟩:=List.mem_iff_getElem?.mp n;obtain⟨p,q,d,g,i⟩:=O9 R m;obtain⟨o,r⟩:=k _ (List.mem_of_getElem? d);refine h j p q d ((f p o q r).mpr ?_);rw[Uw g,Uw i];exact l
theorem wW{a:Tl}{n:Nat}(R:hI ts ens tl)(l:∀e∈ens,e.2.1∈x.S/\e.2.2∈x.S)(i:∀p∈x.S,∀q∈x.S,x.lead p=x.lead q↔Cg a (tg ts p) (tg ts q))(h:qe x ens (Ga n)):
  ∃p q,ens[n]?=Ga (unl p q)/\x.lead p=x.lead q/\p∈x.S/\q∈x.S/\qf tl a n (tg ts p) (tg ts q):=by
 obtain⟨⟨p,q,c,k⟩,v⟩:=h;obtain⟨s,u⟩:=l _ (List.mem_of_getElem? c);obtain⟨b,w,m⟩:=mx R c;rw[BI w]at m;refine{p,q,c,k,s,u,m,(i p s q u).mp k,λj C D z d y=>?_};obtain⟨r,t,o,A,B⟩:=O9 R d;obtain⟨f,g⟩:=l _ (List.mem_of_getElem? o);refine v j r t z o ((i r f t g).mpr ?_);rw[Uw A,Uw B];exact y
structure iD(K:Gd)(mg:Tb->Option Value)(C:Gc):Prop where
 cl:gJ K C
 places:Yv K C "places"
 told:Yv K C "told"
 entries:Yv K C "entries"
 mgC:mg "Book"=Ga (.ref C)
 no:∃u,mg "NO_MOMENT"=Ga u/\zu (.str "no moment") u
structure tJ(fs:List Fm)(x:Nn):Prop where
 inv:Wk (Yi fs) (Zq fs) x []
 fok:hZ fs x.S
 len:x.S.length<=60
 lk:x.links.length<64
 few:∀p,(Zq fs p).length<=100
inductive ye(P:Gg)(w:Gu)(C:Gc)(CP:Gc)(CB:Gc)(vs:List V)(H:Hp)(Q:VK):Prop
 |mk (bk:Gc) (p:Gc) (a:Gc) (f:Gc) (d:Gc) (t:Gc) (e:Gc) (ts:List Th) (tl:Tl) (n:Gc) (A:Na) (tb:Nat) (x:Nn) (ev:V) (k:Tb) (p1:Nat) (p2:Nat) (h0:vs=[.ref bk,.ref n,ev]) (h1:Ul P w CP CB H bk p a f d t e ts tl) (h2:gW H ev (k,p1,p2)) (h3:Z9 P w C H n A (tfs ts) tb x) (h4:tJ (tfs ts) x) (h5:p1∈x.S) (h6:p2∈x.S) (h7:x.lead p1=x.lead p2) (h8:(∀t∈ts,t.good)) (h9:∀(v:V)(ls:List Ln)(H':Hp),Q6 H H'->Wf H' (λb=>∃o,H b=Ga o) v (ls.map (lth ts))->(∀l∈ls,l.1<ts.length/\l.2.1<ts.length)->ia (tfs ts) x.links ls->(∃r,ls.getLast?=Ga (p1,p2,r))->Q v H'):ye P w C CP CB vs H Q
def R0(P:Gg)(w:Gu)(C b a:Gc):Sp:=λc H Q _=>ye P w C b a c H Q
section
variable{P:Gg}{w:Gu}{K:Gd}{mg:Tb->Option Value}{base:Heap}
theorem Ul.same{i c:Gc}{H j:Hp}{bk p a f d t e:Gc}{l:List Th}{k:Tl}(B:Ul P w i c H bk p a f d t e l k)(g:Q6 H j):Ul P w i c j bk p a f d t e l k:=by obtain⟨m,s⟩:=B.ob;obtain⟨x,u,v⟩:=B.to;obtain⟨r,b,n,o,q⟩:=B.en;exact{{m,g _ _ s},B.pl.same g,{x,g _ _ u,v.Qs (Q4.of g)},{r,b,g _ _ n,L2.Paired.Z8 o λ_ _ h=>h.Qs (Q4.of g),q},B.ta,B.tf,B.te,B.ea,B.ef}
theorem AF:Q3 ["self","net","entry"] ["self","net","entry"] (Ql nD):=by eq_refl
theorem zE(F:We K "lines_for" "Book.lines_for" nD f0 fd)(h:iD K mg CB)(TP:hJ K mg CP)(z:Qy P w K mg base Z5 6 fB fdB ["things","net","one","other"] (xH P w C))(S:KI K fB)(E:zk K fdB ["things","net","one","other"] [])(W:MG mg "lines_between" fB):
  Qy P w K mg base Z5 7 f0 fd ["self","net","entry"] (R0 P w C CP CB):=by
 refine F.ok AF (λvs A D y g=>?_) (λab e ac s A vs D y R g=>?_)
 .obtain⟨i,p,a,J,d,t,I,u,tl,n,e,r,x,ev,k,m,o,rfl,_⟩:=g;rfl
 obtain⟨i,p,a,J,d,t,I,u,tl,n,e,r,x,ev,k,m,o,rfl,f,⟨c,rfl,l⟩,X,b,pS,qS,M,L,q⟩:=g;exists _,Qh (Qt (Zl z R rfl W S E .nil Q7 (Qa (Qu (Qu (pv 0) rfl) rfl) (Qa (pv 1) (Qa (Qm Qo (pv 2) Qi) (Qa (Qm Qo (pv 2) Qi) Qe))))));subst_vars;obtain⟨H,Y⟩:=f.ob;obtain⟨G,Z⟩:=f.pl.ob;obtain⟨us,u1,v⟩:=f.pl.th;and_intros;refine{_,Xb,i,CB,H,_,_,Xb,Y,h.cl,h.places,U5 _ _ _,p,CP,G,_,_,Xb,Z,TP.cl,TP.nT,PQ _ _ _,_,Xb,_,Xb,c,_,_,_,Xb,Xb,Q9.of l,Rh _ _ _,_,Xb,c,_,_,_,Xb,Xb,Q9.of l,iJ _ _ _ _,a,n,e,tfs u,r,x,us,m,o,Xb,X,b.inv,b.fok,pS,qS,M,b.len,b.lk,b.few,u1,by rw[Vu,v.length],λaa V B j O N Q=>?_};obtain⟨T,U⟩:=OH (v.same j) L O;exact q aa V B j T U N Q
end
theorem gP.same{P:Gg}{w:Gu}{C:Gc}{b H a:Hp}{n:Gc}{A:Na}{c:List Fm}{d:Nat}{x:Nn}(N:gP P w C b H n A c d x)(g:Q6 H a):gP P w C b a n A c d x:={N.at_.same g,N.inv,N.fok,N.new,N.nn,N.sam.trans g,N.len,N.tt,N.cl,N.tbb}
theorem gP.lng{b:Hp}(N:gP P w C b H n A fs tb x)(a:∀p,(Zq fs p).length<=100):tJ fs x:={N.inv,N.fok,N.len,by have:=N.cl;have:=N.len;lia,a}
theorem gP.room{b:Hp}(N:gP P w C b H n A fs tb x):x.S.length<=10000/\Ud x<=10000/\cls x+x.links.length<=10000/\tb+cls x*Ud x<=900000:=by
 have c:=N.len;have a:=N.tt;have d:=N.cl;have e:=N.tbb;have f:x.links.length*Ud x+cls x*Ud x<=60*6000:=by rw[<-Eg];exact FI (by lia) a
 exact{by lia,by lia,by lia,by lia}
inductive yX(P:Gg)(w:Gu)(CP:Gc)(CB:Gc)(vs:List V)(H:Hp)(Q:VK):Prop
 |mk (bk:Gc) (p:Gc) (a:Gc) (f:Gc) (d:Gc) (t:Gc) (e:Gc) (ts:List Th) (tl:Tl) (U:List Th) (ev:V) (p1:Nat) (p2:Nat) (h0:vs=[.ref bk,ev]) (h1:Ul P w CP CB H bk p a f d t e ts tl) (h2:ij U ts tl) (h3:gW H ev (("ask":Tb),p1,p2)) (h4:p1<ts.length) (h5:p2<ts.length) (h6:∀(v:V)(H':Hp),Q6 H H'->Jy H' (λb=>∃o,H b=Ga o) tl (.ask (tg ts p1) (tg ts p2)) v->Q v H'):yX P w CP CB vs H Q
variable{w:Tb}
def sZ(P:Gg)(w:Gu)(b a:Gc):Sp:=λc H Q _=>yX P w b a c H Q
theorem vM(R:hI ts ens tl):∀e∈ens,e.2.1<ts.length/\e.2.2<ts.length:=λe c=>by obtain⟨j,d⟩:=List.mem_iff_getElem?.mp c;obtain⟨y,_,_,a,b⟩:=Qw R d;exact{(List.getElem?_eq_some_iff.mp a).1,(List.getElem?_eq_some_iff.mp b).1}
theorem qa(h:∃r,ls.getLast?=Ga (p,q,r)):∃r,(ls.map (lth ts)).getLast?=Ga (tg ts p,tg ts q,r):=by obtain⟨r,h⟩:=h;exact{r,by rw[List.getLast?_map,h];rfl}
section
variable{P:Gg}{w:Gu}{K:Gd}{mg:Tb->Option Value}{base:Heap}
theorem ua:Q3 ["self","entry","net","apart","number"] ["self","entry"] (Ql ix):=by eq_refl
theorem Kr{fE fM:Gc}{aG aH aF:Tq}(F:We K "ask" "Book.ask" ix f0 fd)(E:iD K mg CB)(TP:hJ K mg CP)(TN:Ut K mg C)
  (GN:Qy P w K mg base Z5 61 fN fdN ["forms","told"] (qr P w C))(kN:KI K fN)(bN:zk K fdN ["forms","told"] [])(mN:MG mg "net_of" fN)
  (mE:Ye K C "equal" fE)(GE:Qy P w K mg base Z5 1 fE aG ["self","one","other"] (lX P w C))(bE:zk K aG ["self","one","other"] [])(mR:Ye K C "rows" fR)(GR:Qy P w K mg base Z5 2 fR fdR ["self"] (xU P w C))(bR:zk K fdR ["self"] [])
  (mM:Ye K C "merge" fM)(GM:Qy P w K mg base Z5 4 fM aH ["self","one","other","reason"] (oz P w C))(bM:zk K aH ["self","one","other","reason"] [])
  (GC:Qy P w K mg base Z5 2 fC aF ["net","entries"] (ny P w C))(kC:KI K fC)(bC:zk K aF ["net","entries"] [])(mC:MG mg "least_clash" fC)
  (mL:Ye K CB "lines_for" fL)(GL:Qy P w K mg base Z5 7 fL fdL ["self","net","entry"] (R0 P w C CP CB))(bL:zk K fdL ["self","net","entry"] []):
  Qy P w K mg base Z5 62 f0 fd ["self","entry"] (sZ P w CP CB):=by
 refine F.ok ua (λS ac A v b=>?_) (λT W U s ac S A v hr b=>?_)
 .obtain⟨M,p,a,ai,d,t,k,h,Y,Z,ev,f,g,rfl,_⟩:=b;rfl
 obtain⟨M,p,a,ai,d,t,k,h,Y,Z,ev,f,g,rfl,X,r,⟨l,rfl,ad⟩,aI,aJ,q⟩:=b;have a0:Yd 1 _:=hr.mono (by lia);have ar:Yd 2 _:=hr.mono (by lia);have a2:Yd 4 _:=hr.mono (by lia);have aK:Yd 7 _:=hr.mono (by lia);have nd:=ua.nd;show∃t,Ia ?my _ t/\_;let w7:Xk ?my ix 6:={_,Qh (Qt (Zg (Qa Zk (Qa (pv 3) (Qa (wz (pv 2) TN.cl mR GR ar bR .nil Q7) Qe)))))}
 let w6:Xk ?my ix 5:=⟨_,Qc (Q8 (Qn Oy (pv 4) Uo (Qr _))
   (Qh (Qt (Zg (Qa Zk (Qa (pv 4) (Qa (Zh (pv 0) E.cl mL GL aK bL .nil Q7 (Qa (pv 2) (Qa (Qm Zc (Qu (pv 0) rfl) (pv 4)) Qe))) Qe)))))) Qv) w7.2⟩
 let w5:Xk ?my ix 4:={_,Qc (Qz 4 nd (Zl GC ar rfl mC kC bC .nil Q7 (Qa (pv 2) (Qa (Qu (pv 0) rfl) Qe)))) w6.2}
 let w4:Xk ?my ix 3:={_,Qc (Zj (Zh (pv 2) TN.cl mM GM a2 bM .nil Q7 (Qa (Qm Qo (pv 1) Qi) (Qa (Qm Qo (pv 1) Qi) (Qa (Zg (Qa Zk Qe)) Qe))))) w5.2}
 let w3:Xk ?my ix 2:={_,Qc (Qz 3 nd (wz (pv 2) TN.cl mR GR ar bR .nil Q7)) w4.2}
 let w2:Xk ?my ix 1:=⟨_,Qc (Q8 (Yb (Zh (pv 2) TN.cl mE GE a0 bE .nil Q7 (Qa (Qm Qo (pv 1) Qi) (Qa (Qm Qo (pv 1) Qi) Qe))))
   (Qh (Qt (Zg (Qa Zk (Qa (Zh (pv 0) E.cl mL GL aK bL .nil Q7 (Qa (pv 2) (Qa (pv 1) Qe))) Qe))))) Qv) w3.2⟩
 exists _,Qc (Qz 2 nd (Zl GN hr rfl mN kN bN .nil Q7 (Qa (Qu (Qu (pv 0) rfl) rfl) (Qa (Zt V0 (Qu (pv 0) rfl) (Zu (Qa (pv 1) Qe))) Qe)))) w2.2;subst_vars;obtain⟨dx,o1⟩:=X.ob;obtain⟨dp,o2⟩:=X.pl.ob;obtain⟨ws,f1,f2⟩:=X.pl.fo;obtain⟨I,H,e1,e2,R⟩:=X.en;have ae:=X.pl.nd;have aa:=X.pl.cl;have aQ:=r.le ae;obtain⟨TK,a3⟩:=vI ae aa (λt N=>r.good t (r.sub t N)) aQ;and_intros;have a4:I.length=Y.length:=(Gq e2).trans (Gq R);have a5:=r.tl;refine{_,Xb,M,CB,dx,_,_,Xb,o1,E.cl,E.places,U5 _ _ _,p,CP,dp,_,_,Xb,o2,TP.cl,TP.nF,vc _ _ _,_,Xb,M,CB,dx,_,_,Xb,o1,E.cl,E.entries,V8 _ _ _,_,Xb,by show 1<=Gj;decide,λr0 aZ=>?_};have s0:=Qf aZ (.lst [.ref l]);refine{k,r0,I,[.ref l],Xb,Xb,s0 _ _ e1,Qb,by rw[GV];simp only[List.length_singleton];lia,λr1 a1=>?_};have s1:=s0.trans (Qf a1 (.lst (I++[.ref l])));have g1:(zj (zj ac r0 (.lst [.ref l])) r1 (.lst (I++[.ref l]))) r1=Ga (.lst (I++[.ref l])):=Qb;generalize zj (zj ac r0 (.lst [.ref l])) r1 (.lst (I++[.ref l]))=H1 at s1 g1;have au:=Q4.of s1;have aN:Paired (gW H1) (I++[.ref l]) (H++[(("ask":Tb),f,g)]):=DU (L2.Paired.Z8 e2 λ_ _ b=>b.Qs au) {l,Xb,au _ _ ad};refine{ai,r1,ws,_,tfs h,_,_,Xb,s1 _ _ f1,L2.Paired.Z8 f2 λ_ _ b=>b.Qs au,g1,aN,TK,by rw[Vu];exact aQ,a3,λG ap=>?_,by rw[<-Gq aN,List.length_append,List.length_singleton];lia,λn W tb x H2 i _ Z=>?_}
 .rw[Vu];rcases List.mem_append.mp ap with b|b
  .exact vM R G b
  .have:G=(("ask":Tb),f,g):=by simpa using b
   rw[this];exact⟨aI,aJ⟩
 have L:Q6 ac H2:=s1.trans i.sam;have B:∀p q,sme p q∈H++[(("ask":Tb),f,g)]↔sme p q∈H:=λp q=>by
  rw[List.mem_append];constructor
  .rintro(b|b)
   .exact b
   .rw[List.mem_singleton]at b;exact absurd (show("same":Tb)="ask"from congrArg (·.1) b) (by decide+kernel)
  .exact .inl
 obtain⟨aO,aP⟩:=xc R B;have EQ:=vi Z;have ao:∀p∈x.S,∀q∈x.S,x.lead p=x.lead q↔Cg Y (tg h p) (tg h q):=λp hp q hq=>EQ.cg ae aa i.inv i.fok aO aP hp hq;have aR:∀a e n,(a,e,Ga (.told n))∈x.links->Y[n]?=Ga (Gf,tg h a,tg h e):=λa e n b=>by
  rcases Z.rsn _ b with z|⟨j,p',q',J,m⟩
  .cases z
  .cases J;have hj:n<H.length:=by
    rcases Tp n H.length with b|b
    .exact b
    .rw[List.getElem?_append_right b]at m;have:n - H.length=0:=by
      rcases Tp (n - H.length) 1 with v|v
      .lia
      .rw[List.getElem?_eq_none (by simpa using v)]at m;cases m
     rw[this]at m;have m:((("ask":Tb),f,g):En)=sme a e:=by simpa using m
     exact absurd (show("ask":Tb)="same"from congrArg (·.1) m) (by decide+kernel)
   rw[List.getElem?_append_left hj]at m;obtain⟨S,h3,A⟩:=mx R m;rw[mV h3]at A;exact A
 have aM:∀a e,¬(a,e,Ga Ji.asked)∈x.links:=λa e b=>by
  rcases Z.rsn _ b with z|⟨j,p',q',J,m⟩
  .cases z
  .cases J
 obtain⟨O,Q⟩:=Z.ins (("ask":Tb),f,g) (by simp);have O:f∈x.S:=O;have Q:g∈x.S:=Q;have aL:∀G∈H,G.2.1∈x.S/\G.2.2∈x.S:=λG ap=>Z.ins G (List.mem_append_left _ ap);obtain⟨dn,on⟩:=i.at_.ob;exists _,Xb,n,dn,_,Xb,on,qu _,_,Xb,l,_,_,_,Xb,Xb,Q9.of (L _ _ ad),Rh _ _ _,_,Xb,l,_,_,_,Xb,Xb,Q9.of (L _ _ ad),iJ _ _ _ _,n,W,_,tb,x,f,g,Xb,i.at_,O,Q,_,Xb;by_cases ah:x.lead f=x.lead g
 .rw[Gw ah];refine Yp ?_;have hC:=(ao f O g Q).mp ah;refine{_,Xb,M,dx,_,Xb,L _ _ o1,Im _ _ _,_,Xb,_,Xb,M,p,a,ai,d,t,k,h,Y,n,W,tb,x,.ref l,_,f,g,Xb,X.same L,{l,Xb,L _ _ ad},i.at_,i.lng TK.few,O,Q,ah,(λt N=>r.good t (r.sub t N)),λlv ls H3 g3 hl hb hg aq=>?_};refine{by show 2<=Gj;decide,λA S=>?_};have v:=Qf S (.tup [.str "equal",lv]);refine q _ _ ((L.trans g3).trans v) (.inl {hC,A,lv,ls.map (lth h),Xb,Qb,(hl.ex (by rintro c D _ B ⟨o,ho⟩;exact B {o,L _ _ ho})).kp (Q4.of v) (λk _=>v _ _ k),n9 aa hg hb aR (λa e b=>absurd b (aM a e)),qa aq})
 .rw[Gr ah];refine Q5 ?_;have hC:¬Cg Y (tg h f) (tg h g):=λz=>ah ((ao f O g Q).mpr z);refine{_,Xb,n,dn,_,Xb,on,xh _,n,W,_,tb,x,Xb,i.at_,i.fok,i.inv,by have:=i.len;lia,λv1 aX H3 g3 aU W1=>?_};have S3:=L.trans g3;have N3:=i.same g3;refine{_,Xb,n,dn,_,Xb,g3 _ _ on,vL _,_,Xb,l,_,_,_,Xb,Xb,Q9.of (S3 _ _ ad),Rh _ _ _,_,Xb,l,_,_,_,Xb,Xb,Q9.of (S3 _ _ ad),iJ _ _ _ _,by show 1<=Gj;decide,λc4 aT=>?_};have s4:=Qf aT (.tup [.str "asked"]);have N4:=N3.same s4;obtain⟨z1,z2,z3,z4⟩:=i.room;refine{n,W,_,tb,x,f,g,.ref c4,Ga .asked,Xb,N4.at_,i.fok,⟨c4,Xb,Qb⟩,by simp,O,Q,i.inv,z1,z2,z3,z4,λA H5 Y5 M5 F5=>?_};have S:=N4.merged Y5 M5 F5;have S5:Q6 ac H5:=s1.trans S.sam;have aS:=KR EQ M5 O Q;have eS:=M5.S;have aj:∀p∈A.S,∀q∈A.S,A.lead p=A.lead q↔Cg (Y++[(Gf,tg h f,tg h g)]) (tg h p) (tg h q):=λp hp q hq=>aS.cg ae aa S.inv S.fok (λa e b=>by
   rcases List.mem_append.mp b with b|b
   .obtain⟨u,ag,J,m⟩:=aO a e b;exact{u,ag,List.mem_append_left _ J,m}
   .have:(Gf,a,e)=(Gf,tg h f,tg h g):=by simpa using b
    cases this;exact{f,g,by simp,Wg aI,Wg aJ}) (λu ag b=>by
   rcases List.mem_append.mp b with b|b
   .exact List.mem_append_left _ (aP u ag b)
   .have:(u,ag)=(f,g):=by simpa using b
    cases this;simp) hp hq
  have al:∀G∈H,G.2.1∈A.S/\G.2.2∈A.S:=by rw[eS];exact aL
  refine{_,Xb,_,Xb,M,CB,dx,_,_,Xb,S5 _ _ o1,E.cl,E.entries,V8 _ _ _,n,k,W,_,_,A,I,H,Xb,S.at_,S5 _ _ e1,L2.Paired.Z8 e2 λ_ _ b=>b.Qs (Q4.of S5),al,λo H6 g6 av=>?_};have v:=S5.trans g6;have T:=S.same g6;have aY:∀{c:Gc}{D:List V},H3 c=Ga (.tup D)->H6 c=Ga (.tup D):=λ{c D}ec=>g6 _ _ (F5.keep _ _ (s4 _ _ ec) (N4.at_.n7 (s4 _ _ ec)));have aW:∀{c:Gc}{D:List V},H3 c=Ga (.lst D)->¬(∃o,H2 c=Ga o)->H6 c=Ga (.lst D):=λ{c D}ec B=>g6 _ _ (F5.keep _ _ (s4 _ _ ec) (λz=>B (by have:=i.at_.own z;rcases this with⟨_,b⟩|⟨_,b⟩|⟨_,b⟩|⟨_,b⟩<;>exact⟨_,b⟩)))
  have aV:=(aU.kp aY aW).ex (Y:=λe=>∃o,ac e=Ga o) (by rintro c D _ B ⟨o,ho⟩;exact B {o,L _ _ ho});exists _,Xb,Xb,_,Xb;rw[mq];cases o with
  |some af=>
   refine Yp ?_;obtain⟨p',q',J,m,am,an,aD⟩:=wW R al aj av;have hm:af<I.length:=by rw[Gq e2];exact(List.getElem?_eq_some_iff.mp J).1
   obtain⟨y,hy,aE⟩:=Qw e2 (List.getElem?_eq_getElem hm);rw[J]at hy;cases hy;obtain⟨cm,aB,aC⟩:=aE;refine{_,Xb,_,Xb,M,dx,_,Xb,v _ _ o1,Im _ _ _,_,Xb,_,Xb,M,CB,dx,_,_,Xb,v _ _ o1,E.cl,E.entries,V8 _ _ _,_,Xb,k,I,_,_,Xb,Xb,Za.of (v _ _ e1),Qj (List.getElem?_eq_getElem hm),M,p,a,ai,d,t,k,h,Y,n,W,_,A,_,_,p',q',Xb,X.same v,{cm,aB,v _ _ aC},T.at_,T.lng TK.few,am,an,m,(λt N=>r.good t (r.sub t N)),λlv ls H7 g7 hl hb hg aq=>?_};refine{by show 3<=Gj;decide,λc8 ak=>?_};have U:=Qf ak (.tup [.str "unlike",jv af,lv]);refine q _ _ ((v.trans g7).trans U) (.inr (.inl {hC,c8,af,_,_,lv,ls.map (lth h),Xb,Qb,aD,(hl.ex (by rintro c D _ B ⟨o,ho⟩;exact B {o,v _ _ ho})).kp (Q4.of U) (λk _=>U _ _ k),n9 aa hg hb (λa e n b=>?_) (λa e b=>?_),qa aq}))
   .rcases M5.rsn _ b with z|z|z
    .exact aR a e n z
    .cases z
    .cases z
   .rcases M5.rsn _ b with z|z|z
    .exact absurd z (aM a e)
    .cases z;rfl
    .cases z
  |none=>refine Q5 ?_;have ax:=yg R al aj av;obtain⟨aw,az⟩:=T.at_.ob;refine{_,Xb,_,Xb,n,aw,_,Xb,az,xh _,n,W,_,_,A,Xb,T.at_,T.fok,T.inv,by have:=T.len;lia,λv2 aA H7 g7 ay W2=>?_};refine{by show 3<=Gj;decide,λc8 ak=>?_};have U:=Qf ak (.tup [.str "open",v1,v2]);have ab:=g7.trans U;refine q _ _ (v.trans ab) (.inr (.inr {hC,ax,c8,v1,v2,aX,aA,x.S.map (tg h),Xb,Qb,aV.kp (λk=>ab _ _ k) (λk _=>ab _ _ k),(ay.ex (by rintro c D _ B ⟨o,ho⟩;exact B {o,v _ _ ho})).kp (λk=>U _ _ k) (λk _=>U _ _ k),yT (λt N=>r.good t (r.sub t N)) ae aa i.fok (by have:=i.len;lia) W1 ao,by rw[<-eS];exact yT (λt N=>r.good t (r.sub t N)) ae aa S.fok (by have:=S.len;lia) W2 aj,List.mem_map.mpr ⟨f,O,Xb⟩,List.mem_map.mpr ⟨g,Q,Xb⟩,λe a c hm=>?_}));obtain⟨j,hj⟩:=List.mem_iff_getElem?.mp hm;obtain⟨p',q',J,m,h3⟩:=O9 R hj;obtain⟨am,an⟩:=aL _ (List.mem_of_getElem? J);exact{List.mem_map.mpr {p',am,Uw m},List.mem_map.mpr {q',an,Uw h3}}
end
theorem se(a:List V){i:Int}(b:0<=i)(b:i<=(a.length:Int)):Ja a Gh (Ga i)=a.take i.toNat:=by
 unfold Ja;rw[HT.Ol];have:HT.Wq a.length a.length (Ga i)=i.toNat:=by show(if i<0 then(i+(a.length:Int)).toNat else min i.toNat a.length)=_;rw[Gi (by lia)];lia
 rw[this];simp
theorem uf(a f d p t e:Gc){c g b:Gc}:HO.ins C g (Ij a f d)=HO.ins c b (Vc p t e)->False:=λz=>by injection z with _ _ z;unfold Ij Vc at z;injection z with z _;injection z with z _;exact absurd z (by decide+kernel)
theorem AE(R:hI ts ens tl)(k:Nat):hI ts (ens.take k) (tl.take k):=by
 induction R generalizing k with
 |nil=>simp;exact .nil
 |cons h t a=>
  cases k with
  |zero=>exact .nil
  |succ k=>exact .cons h (a k)
theorem yF{c:Type}{F:α->c->Prop}{a:List α}{b:List c}(R:Paired F a b)(k:Nat):Paired F (a.take k) (b.take k):=by
 induction R generalizing k with
 |nil=>simp;exact .nil
 |cons h t d=>
  cases k with
  |zero=>exact .nil
  |succ k=>exact .cons h (d k)
structure xw(bk t:Gc)(H H':Hp):Prop where
 keep:∀b o,H b=Ga o->b≠bk->b≠t->H' b=Ga o
 there:∀b,H' b=Gh->H b=Gh
variable{p:Gc}
inductive zr(P:Gg)(w:Gu)(CP:Gc)(CB:Gc)(vs:List V)(H:Hp)(Q:VK):Prop
 |mk (bk:Gc) (p:Gc) (a:Gc) (f:Gc) (d:Gc) (t:Gc) (e:Gc) (ts:List Th) (tl:Tl) (U:List Th) (dv:V) (ev:V) (b:Bool) (p1:Nat) (p2:Nat) (h0:vs=[.ref bk,dv,ev]) (h1:Ul P w CP CB H bk p a f d t e ts tl) (h2:ij U ts tl) (h3:ir H dv (.tell b (tg ts p1) (tg ts p2))) (h4:gW H ev (tw b,p1,p2)) (h5:p1<ts.length) (h6:p2<ts.length) (h7:∀(v:V)(e':Gc)(H':Hp),Ul P w CP CB H' bk p a f d t e' ts (J9 tl (.tell b (tg ts p1) (tg ts p2))).1->Jy H' (λb=>∃o,H b=Ga o) tl (.tell b (tg ts p1) (tg ts p2)) v->xw bk t H H'->(e'=e\/H e'=Gh)->Q v H'):zr P w CP CB vs H Q
def zf(P:Gg)(w:Gu)(b a:Gc):Sp:=λc H Q _=>zr P w b a c H Q
inductive vH(P:Gg)(w:Gu)(CP:Gc)(CB:Gc)(vs:List V)(H:Hp)(Q:VK):Prop
 |mk (bk:Gc) (p:Gc) (a:Gc) (f:Gc) (d:Gc) (t:Gc) (e:Gc) (ts:List Th) (tl:Tl) (i:Int) (h0:vs=[.ref bk,.int i]) (h1:Ul P w CP CB H bk p a f d t e ts tl) (h2:∀(v:V)(t' e':Gc)(H':Hp),Ul P w CP CB H' bk p a f d t' e' ts (J9 tl (.back i)).1->v=(J9 tl (.back i)).2->xw bk bk H H'->(t'=t\/H t'=Gh)->(e'=e\/H e'=Gh)->Q v H'):vH P w CP CB vs H Q
def sD(P:Gg)(w:Gu)(b a:Gc):Sp:=λc H Q _=>vH P w b a c H Q
section
variable{P:Gg}{w:Gu}{K:Gd}{mg:Tb->Option Value}{base:Heap}
theorem qM:Q3 ["self","moment","forgotten"] ["self","moment"] (Ql Jo):=by eq_refl
theorem CC(F:We K "go_back" "Book.go_back" Jo f0 fd)(h:iD K mg CB)(B0:J2 mg):Qy P w K mg base Z5 1 f0 fd ["self","moment"] (sD P w CP CB):=by
 refine F.ok qM (λn o Q ab c=>?_) (λaf ae ai s o n Q ab hr c=>?_)
 .obtain⟨e,p,a,V,d,t,b,ts,I,i,rfl,_⟩:=c;rfl
 obtain⟨e,p,a,V,d,t,b,ts,I,i,rfl,k,q⟩:=c;obtain⟨nu,n1,n2⟩:=h.no;have nd:=qM.nd;show∃t,Ia ?my _ t/\_;let w5:Xk ?my Jo 4:={_,Qh (Qt (pv 2))}
 let w4:Xk ?my Jo 3:={_,Qc (Xd (pv 0) (Yc U1 (Qu (pv 0) rfl) Xo (Yk (pv 1))) rfl) w5.2}
 let w3:Xk ?my Jo 2:={_,Qc (Xd (pv 0) (Yc U1 (Qu (pv 0) rfl) Xo (Yk (pv 1))) rfl) w4.2}
 let w2:Xk ?my Jo 1:={_,Qc (Q8 (PW.pt (Y1 (Qn Vg (pv 1) Qi (Qr _)) (Xp (Qn Vg (pv 2) Qi (Qr _))))) (Qh (Qt (O5 rfl n1 n2))) Qv) w3.2}
 exists _,Qc (Qz 2 nd (Zt jz (Qp Zs rfl B0.len Gx (Qa (Qu (pv 0) rfl) Qe)) (pv 1))) w2.2;subst_vars;obtain⟨l,g⟩:=k.ob;obtain⟨dp,op⟩:=k.pl.ob;obtain⟨n,t1,t2⟩:=k.to;obtain⟨C,ag,T,U,R⟩:=k.en;and_intros;have lv:=Gq t2;have le:=(Gq U).trans (Gq R);exists _,Xb,e,CB,l,_,_,Xb,g,h.cl,h.told,oX _ _ _,t,n,Xb,.inl (Za.of t1),_,Xb,_,_,Xb,Xb;exists _,Xb,_,_,Xb,Xb,_,Xb;have no:¬(0<=i/\i<=(I.length:Int))->Q (.str "no moment") o:=λc=>q _ t b o (by simp only[J9];rw[Gi c];exact k) (by simp only[J9];rw[Gi c]) {λ_ _ b _ _=>b,λ_ c=>c} (.inl Xb) (.inl Xb);by_cases Y:i<0
 .rw[Gw Y];refine Yp (Yp ?_);exact no (λz=>by ext)
 rw[Gr Y];refine Q5 {_,Xb,_,_,Xb,Xb,_,Xb,?_};by_cases X:(n.length:Int) - i<0
 .rw[Gw X];refine Yp ?_;exact no (λz=>by ext)
 rw[Gr X];refine Q5 ?_;have D:0<=i:=by ext
 have W:i<=(I.length:Int):=by ext
 refine{_,Xb,e,CB,l,_,_,Xb,g,h.cl,h.told,oX _ _ _,_,Xb,_,Xb,t,n,Xb,Za.of t1,λm A=>?_};rw[se n D (by ext)];have N:=Qf A (.lst (n.take i.toNat));exists _,Xb,e,CB,l,_,Xb,N _ _ g,h.cl,h.told,(by show 3<1000;decide);rw[zY];have S:e≠m:=Qd g A;have be:b≠e:=Yj T g nofun;generalize E:zj (zj o m (.lst (n.take i.toNat))) e (.ins CB l (Vc p m b))=x;have G:∀{f j},o f=Ga j->f≠e->x f=Ga j:=λb c=>by rw[<-E];exact Qk (N _ _ b) c
 have M:x e=Ga (.ins CB l (Vc p m b)):=by rw[<-E];exact Qb
 have aa:x m=Ga (.lst (n.take i.toNat)):=by rw[<-E];exact Qk Qb (Gn S)
 have Z:∀{f},x f=Gh->o f=Gh:=λ{f}c=>by rw[<-E]at c;exact N.free (Z4 c)
 refine{_,Xb,e,CB,l,_,_,Xb,M,h.cl,h.entries,V8 _ _ _,_,Xb,_,Xb,b,C,Xb,Za.of (G T be),λr u=>?_};rw[se C D (by ext)];have H:=Qf u (.lst (C.take i.toNat));exists _,Xb,e,CB,l,_,Xb,H _ _ M,h.cl,h.entries,(by show 3<1000;decide);rw[Ow];have ac:e≠r:=Qd M u;have ad:m≠r:=Qd aa u;generalize y:zj (zj x r (.lst (C.take i.toNat))) e (.ins CB l (Vc p m r))=B;have v:∀{f j},o f=Ga j->f≠e->B f=Ga j:=λb c=>by rw[<-y];exact Qk (H _ _ (G b c)) c
 have O:Q4 o B:=λf xs b=>v b (Yj b g nofun);subst_vars;obtain⟨us,J,_⟩:=k.pl.th;obtain⟨ws,L,_⟩:=k.pl.fo;obtain⟨ah,d1,_⟩:=k.pl.kn;and_intros;have BK:Ul P w CP CB B e p a V d m r ts (I.take i.toNat):=by
  exists {l,by rw[<-y];exact Qb},k.pl.keep (λj b=>v b (Yj op g (uf _ _ _ _ _ _))) (λj b=>v b (Yj J g nofun)) (λj b=>v b (Yj L g nofun)) (λj b=>v b (Yj d1.at_ g nofun)) O,{_,by rw[<-y];exact Qk (H _ _ aa) (Gn S),Rl.Qs O (yF t2 _)},{_,_,by rw[<-y];exact Qk Qb (Gn ac),L2.Paired.Z8 (yF U _) λ_ _ c=>c.Qs O,AE R _},Gn (Qd J A),Gn (Qd L A),ad,?_
  .exact Gn (Qd (G J (Yj J g nofun)) u)
  .exact Gn (Qd (G L (Yj L g nofun)) u)
 refine{_,Xb,q _ m r B (by simp only[J9];rw[Gp ⟨D,W⟩];exact BK) (by simp only[J9];rw[Gp ⟨D,W⟩,lv]) {λf j b c _=>v b c,λf c=>Z (by rw[<-y]at c;exact H.free (Z4 c))} (.inr A) (.inr (Z u))}
theorem yc:Q3 ["self","deed","entry","entries","net","number"] ["self","deed","entry"] (Ql Of):=by eq_refl
theorem OU{ai:Tq}(F:We K "tell" "Book.tell" Of f0 fd)(D:iD K mg CB)(TP:hJ K mg CP)(B0:J2 mg)
  (GN:Qy P w K mg base Z5 61 fN fdN ["forms","told"] (qr P w C))(kN:KI K fN)(bN:zk K fdN ["forms","told"] [])(mN:MG mg "net_of" fN)
  (GC:Qy P w K mg base Z5 2 fC ai ["net","entries"] (ny P w C))(kC:KI K fC)(bC:zk K ai ["net","entries"] [])(mC:MG mg "least_clash" fC)
  (mL:Ye K CB "lines_for" fL)(GL:Qy P w K mg base Z5 7 fL fdL ["self","net","entry"] (R0 P w C CP CB))(bL:zk K fdL ["self","net","entry"] []):
  Qy P w K mg base Z5 62 f0 fd ["self","deed","entry"] (zf P w CP CB):=by
 refine F.ok yc (λvs I Q N f=>?_) (λS ac Z s I vs Q N hr f=>?_)
 .obtain⟨m,p,a,aa,d,t,e,g,u,H,dv,ev,b,E,G,rfl,_⟩:=f;rfl
 obtain⟨m,p,a,aa,d,t,e,g,u,H,dv,ev,b,E,G,rfl,h,M,az,⟨k,rfl,ay⟩,aF,aG,q⟩:=f;have aI:Yd 2 _:=hr.mono (by lia);have aJ:Yd 7 _:=hr.mono (by lia);have nd:=yc.nd;show∃t,Ia ?my _ t/\_;let w7:Xk ?my Of 6:={_,Qh (Qt (Qp Zs rfl B0.len Gx (Qa (pv 3) Qe)))}
 let w6:Xk ?my Of 5:={_,Qc (Xd (pv 0) (pv 3) rfl) w7.2}
 let w5:Xk ?my Of 4:={_,Qc (Zj (X0 Gv GQ GX Zy (Qu (pv 0) rfl) (Qa (pv 1) Qe))) w6.2}
 let w4:Xk ?my Of 3:=⟨_,Qc (Q8 (Qn Oy (pv 5) Uo (Qr _))
   (Qh (Qt (Zg (Qa Zk (Qa (pv 5) (Qa (Zh (pv 0) D.cl mL GL aJ bL .nil Q7 (Qa (pv 4) (Qa (Qm Zc (pv 3) (pv 5)) Qe))) Qe)))))) Qv) w5.2⟩
 let w3:Xk ?my Of 2:={_,Qc (Qz 5 nd (Zl GC aI rfl mC kC bC .nil Q7 (Qa (pv 4) (Qa (pv 3) Qe)))) w4.2}
 let w2:Xk ?my Of 1:={_,Qc (Qz 4 nd (Zl GN hr rfl mN kN bN .nil Q7 (Qa (Qu (Qu (pv 0) rfl) rfl) (Qa (pv 3) Qe)))) w3.2}
 exists _,Qc (Qz 3 nd (Zt V0 (Qu (pv 0) rfl) (Zu (Qa (pv 2) Qe)))) w2.2;subst_vars;obtain⟨L,l⟩:=h.ob;obtain⟨dp,o2⟩:=h.pl.ob;obtain⟨ws,f1,f2⟩:=h.pl.fo;obtain⟨us,u1,_⟩:=h.pl.th;obtain⟨aW,d1,_⟩:=h.pl.kn;obtain⟨vs,W,t2⟩:=h.to;obtain⟨A,ah,e1,e2,R⟩:=h.en;have ae:=h.pl.nd;have ad:=h.pl.cl;have ao:=M.le ae;obtain⟨TK,aP⟩:=vI ae ad (λt ht=>M.good t (M.sub t ht)) ao;and_intros;have aA:A.length=u.length:=(Gq e2).trans (Gq R);have aV:vs.length=u.length:=Gq t2;have aU:=M.tl;refine{_,Xb,m,CB,L,_,_,Xb,l,D.cl,D.entries,V8 _ _ _,_,Xb,by show 1<=Gj;decide,λr0 aH=>?_};have s0:=Qf aH (.lst [.ref k]);refine{e,r0,A,[.ref k],Xb,Xb,s0 _ _ e1,Qb,by rw[GV];simp only[List.length_singleton];lia,λi ak=>?_};have Y:I i=Gh:=s0.free ak;have U:=s0.trans (Qf ak (.lst (A++[.ref k])));have g1:(zj (zj I r0 (.lst [.ref k])) i (.lst (A++[.ref k]))) i=Ga (.lst (A++[.ref k])):=Qb;generalize zj (zj I r0 (.lst [.ref k])) i (.lst (A++[.ref k]))=H1 at U g1;have af:=Q4.of U;have T:Paired (gW H1) (A++[.ref k]) (ah++[(tw b,E,G)]):=DU (L2.Paired.Z8 e2 λ_ _ f=>f.Qs af) {k,Xb,af _ _ ay};have O:hI g (ah++[(tw b,E,G)]) (u++[(b,tg g E,tg g G)]):=DU R {Xb,Wg aF,Wg aG};refine{_,Xb,m,CB,L,_,_,Xb,U _ _ l,D.cl,D.places,U5 _ _ _,p,CP,dp,_,_,Xb,U _ _ o2,TP.cl,TP.nF,vc _ _ _,_,Xb,aa,i,ws,_,tfs g,_,_,Xb,U _ _ f1,L2.Paired.Z8 f2 λ_ _ f=>f.Qs af,g1,T,TK,by rw[Vu];exact ao,aP,λen aB=>by rw[Vu];exact vM O en aB,by rw[<-Gq T,List.length_append,List.length_singleton];lia,λn ac tb x H2 J _ H=>?_};have S2:Q6 I H2:=U.trans J.sam;obtain⟨aQ,aR⟩:=xc O (λp q=>Iff.rfl);have EQ:=vi H;have ag:∀p∈x.S,∀q∈x.S,x.lead p=x.lead q↔Cg (u++[(b,tg g E,tg g G)]) (tg g p) (tg g q):=λp hp q hq=>EQ.cg ae ad J.inv J.fok aQ aR hp hq;have aS:∀a b' n,(a,b',Ga (.told n))∈x.links->(u++[(b,tg g E,tg g G)])[n]?=Ga (Gf,tg g a,tg g b'):=λa b' n f=>by
  rcases H.rsn _ f with z|⟨j,p',q',o,B⟩
  .cases z
  .cases o;obtain⟨S,Q,N⟩:=mx O B;rw[mV Q]at N;exact N
 have aL:∀a b,¬(a,b,Ga Ji.asked)∈x.links:=λa b f=>by
  rcases H.rsn _ f with z|⟨j,p',q',o,B⟩
  .cases z
  .cases o
 refine{_,Xb,_,Xb,n,i,ac,_,tb,x,_,_,Xb,J.at_,J.sam _ _ g1,L2.Paired.Z8 T λ_ _ f=>f.Qs (Q4.of J.sam),H.ins,λr H3 g3 aj=>?_};have v:=S2.trans g3;have X:=J.same g3;have al:=X.sam _ _ g1;exists _,Xb,Xb,_,Xb;rw[mq];cases r with
 |some S=>
  refine Yp ?_;obtain⟨p',q',o,B,aM,aN,Q⟩:=wW O H.ins ag aj;have hm:S<(A++[V.ref k]).length:=by rw[Gq T];exact(List.getElem?_eq_some_iff.mp o).1
  obtain⟨y,hy,aK⟩:=Qw T (List.getElem?_eq_getElem hm);rw[o]at hy;cases hy;obtain⟨cm,av,ax⟩:=aK;refine{_,Xb,_,Xb,m,L,_,Xb,v _ _ l,Im _ _ _,_,Xb,_,Xb,_,Xb,i,_,_,_,Xb,Xb,Za.of al,Qj (List.getElem?_eq_getElem hm),m,p,a,aa,d,t,e,g,u,n,ac,_,x,_,_,p',q',Xb,h.same v,{cm,av,X.sam _ _ ax},X.at_,X.lng TK.few,aM,aN,B,(λt ht=>M.good t (M.sub t ht)),λlv ls H7 g7 hl hb hg aC=>?_};refine{by show 3<=Gj;decide,λc8 aw=>?_};have Z:=Qf aw (.tup [.str "clash",jv S,lv]);have N:=(v.trans g7).trans Z;have ab:Wh (u++[(b,tg g E,tg g G)]):={_,_,List.mem_of_getElem? Q.1,Q.2.1};refine q _ e _ (by simp only[J9];rw[Gp ab];exact h.same N) (.inr {c8,S,_,_,lv,ls.map (lth g),Xb,Qb,Q,(hl.ex (by rintro c ys _ hx ⟨r,ho⟩;exact hx {r,v _ _ ho})).kp (Q4.of Z) (λe _=>Z _ _ e),n9 ad hg hb aS (λa b f=>absurd f (aL a b)),qa aC}) {λb r e _ _=>N _ _ e,λb f=>N.free f} (.inl Xb)
 |none=>
  refine Q5 ?_;have aE:=yg O H.ins ag aj;have ab:¬Wh (u++[(b,tg g E,tg g G)]):=(by rintro⟨a,c,o,B⟩;exact aE a c o B);have t3:=v _ _ W;exists _,Xb,m,CB,L,_,_,Xb,v _ _ l,D.cl,D.told,oX _ _ _,.inl {Xb,_,Za.of t3},_,Xb,t,vs,_,Xb,Xb,t3,(by rw[GV];lia);have tb:t≠m:=Yj W l nofun;exists _,Xb,_,Xb,m,CB,L,_,Xb,Qk (v _ _ l) (Gn tb),D.cl,D.entries,(by show 3<1000;decide);rw[Ow];have an:t≠i:=Qd W Y;have aO:m≠i:=Qd l Y;generalize Q:zj (zj H3 t (.lst (vs++[dv]))) m (.ins CB L (Vc p t i))=N;have S:∀{b r},I b=Ga r->b≠m->b≠t->N b=Ga r:=λe o B=>by rw[<-Q];exact Qk (Qk (v _ _ e) B) o
  have Z:Q4 I N:=λb xs e=>S e (Yj e l nofun) (Yj e W nofun);have am:N i=Ga (.lst (A++[.ref k])):=by rw[<-Q];exact Qk (Qk al (Gn an)) (Gn aO)
  have aT:Q4 H1 N:=λc xs ec=>by have:H3 c=Ga (.tup xs):=X.sam _ _ ec;rw[<-Q];exact Qk (Qk this (Yj this t3 nofun)) (Yj this (v _ _ l) nofun)
  obtain⟨ca,v1,v2,ap,aq,ar,au⟩:=az;have BK:Ul P w CP CB N m p a aa d t i g (u++[(b,tg g E,tg g G)]):=by refine{{L,by rw[<-Q];exact Qb},h.pl.keep (λr e=>S e (Yj o2 l (uf _ _ _ _ _ _)) (Yj o2 W nofun)) (λr e=>S e (Yj u1 l nofun) (Gn h.ta)) (λr e=>S e (Yj f1 l nofun) (Gn h.tf)) (λr e=>S e (Yj d1.at_ l nofun) (Yj d1.at_ W nofun)) Z,{_,by rw[<-Q];exact Qk Qb tb,DU (t2.Qs Z) {ca,v1,v2,ap,Z _ _ aq,ar.Qs Z,au.Qs Z}},{_,_,am,L2.Paired.Z8 T λ_ _ f=>f.Qs aT,O},h.ta,h.tf,an,Gn (Qd u1 Y),Gn (Qd f1 Y)}
  exists _,Xb,i,_,Xb,.inl (Za.of am);have aD:((A++[V.ref k]).length:Int)=(u.length:Int)+1:=by rw[List.length_append,List.length_singleton,aA];lia
  rw[aD];exact q _ i N (by simp only[J9];rw[Gi ab];exact BK) (.inl ⟨ab,Xb⟩) {λb r e o B=>S e o B,λb f=>v.free (by rw[<-Q]at f;exact Z4 (Z4 f))} (.inr Y)
end
structure kq(bk a f d t:Gc)(H H':Hp):Prop where
 keep:∀b o,H b=Ga o->b≠bk->b≠a->b≠f->b≠d->b≠t->H' b=Ga o
 there:∀b,H' b=Gh->H b=Gh
inductive yv(P:Gg)(w:Gu)(CP:Gc)(CB:Gc)(vs:List V)(H:Hp)(Q:VK):Prop
 |mk (bk:Gc) (p:Gc) (a:Gc) (f:Gc) (d:Gc) (t:Gc) (e:Gc) (ts:List Th) (tl:Tl) (U:List Th) (dv:V) (dd:Dd) (h0:vs=[.ref bk,dv]) (h1:Ul P w CP CB H bk p a f d t e ts tl) (h2:ij U ts tl) (h3:ir H dv dd) (h4:dd.fits U) (h5:∀(v:V)(t' e':Gc)(ts':List Th)(H':Hp),Ul P w CP CB H' bk p a f d t' e' ts' (J9 tl dd).1->Jy H' (λb=>(∃o,H b=Ga o)\/b=t') tl dd v->(∀x∈ts',x∈U)->kq bk a f d t H H'->(t'=t\/H t'=Gh)->(e'=e\/H e'=Gh)->Q v H'):yv P w CP CB vs H Q
def nB(P:Gg)(w:Gu)(b a:Gc):Sp:=λc H Q _=>yv P w b a c H Q
inductive uz(P:Gg)(w:Gu)(CP:Gc)(CB:Gc)(vs:List V)(H:Hp)(Q:VK):Prop
 |mk (bk:Gc) (dx:Gc) (h0:vs=[.ref bk]) (h1:H bk=Ga (.ins CB dx [])) (h2:∀(p a f d t e:Gc)(H':Hp),Ul P w CP CB H' bk p a f d t e [] []->(∀b o,H b=Ga o->b≠bk->H' b=Ga o)->H a=Gh->H f=Gh->H d=Gh->H t=Gh->H e=Gh->Q .non H'):uz P w CP CB vs H Q
def tX(P:Gg)(w:Gu)(b a:Gc):Sp:=λc H Q _=>uz P w b a c H Q
theorem oV{m:List Th}(h:ts[j]?=Ga t):(ts++m)[j]?=Ga t:=by rw[List.getElem?_append_left (List.getElem?_eq_some_iff.mp h).1];exact h
section
variable{P:Gg}{w:Gu}{K:Gd}{mg:Tb->Option Value}{base:Heap}
theorem Ul.place{bk a t e:Gc}{m:List Th}(B:Ul P w CP CB H bk p a f d t e ts tl)(x:Pl P w CP H' p a f d (ts++m))(F:gE a f d H H'):Ul P w CP CB H' bk p a f d t e (ts++m) tl:=by obtain⟨l,b⟩:=B.ob;obtain⟨y,s,_⟩:=B.pl.th;obtain⟨z,v,_⟩:=B.pl.fo;obtain⟨q,c,_⟩:=B.pl.kn;obtain⟨u,j,r⟩:=B.to;obtain⟨o,g,i,n,R⟩:=B.en;have k:=F.Qs B.pl;refine{{l,F.keep _ _ b (Yj b s nofun) (Yj b v nofun) (Yj b c.at_ nofun)},x,{u,F.keep _ _ j B.ta B.tf (Yj j c.at_ nofun),r.Qs k},{o,g,F.keep _ _ i B.ea B.ef (Yj i c.at_ nofun),L2.Paired.Z8 n λ_ _ h=>h.Qs k,L2.Paired.Z8 R λ_ _ h=>{h.1,oV h.2.1,oV h.2.2}},B.ta,B.tf,B.te,B.ea,B.ef}
theorem ij.grow(F:ij U ts tl)(b:t∈U):ij U (Yy ts t.inside) tl:=⟨λs a=>by
 rw[oy]at a;rcases a with h|h
 .exact F.sub s h
 .exact F.cl t b s h,F.cl,F.good,F.len,F.tl⟩
theorem Az:Q3 ["self"] ["self"] (Ql j5):=by eq_refl
theorem BR(F:We K "__init__" "Book.__init__" j5 f0 fd)(j:iD K mg CB)(TP:hJ K mg CP)(Q:Mk K CP fI)(O:Qy P w K mg base Z5 1 fI fdI ["self"] (uA P w CP))(S:zk K fdI ["self"] []):Qy P w K mg base Z5 3 f0 fd ["self"] (tX P w CP CB):=by
 refine F.ok Az (λvs v R N C=>?_) (λab aa ag s v vs R N Z C=>?_)
 .obtain⟨f,h,rfl,_⟩:=C;rfl
 obtain⟨f,h,rfl,D,q⟩:=C;show∃t,Ia ?my _ t/\_;let w3:Xk ?my j5 2:={_,Qh (Xd (pv 0) (Zu Qe) rfl)}
 let w2:Xk ?my j5 1:={_,Qc (Xd (pv 0) (Zu Qe) rfl) w3.2}
 exists _,Qc (Xd (pv 0) (wG Q O Z rfl TP.mgC S .nil Q7) rfl) w2.2;intro p A E X ad;have x:Q6 v (zj (zj v A (.own p)) p (.ins CP A [])):=λc g b=>Qk (Qk b (Qd b X)) (Qd b E);refine{p,A,Xb,Qb,λa U d y u k1 V Y W=>{Xb,?_}};have m:Q6 v y:=λi g b=>k1 i g (x _ _ b) (Qd b E);have pb:p≠f:=Gn (Qd D E);subst_vars;obtain⟨ac,af⟩:=u.ob;obtain⟨us,H,_⟩:=u.th;obtain⟨ws,I,_⟩:=u.fo;obtain⟨ae,T,_⟩:=u.kn;and_intros;refine{_,Xb,f,CB,h,[],Xb,m _ _ D,j.cl,j.places,by show 0<1000;decide,Gz _,λt ht=>?_};have k:=m _ _ D;have r:=Z4 ht;have G:t≠f:=Gn (Qd k r);refine{_,Xb,f,CB,h,_,Xb,Qk Qb (Gn G),j.cl,j.told,by show 1<1000;decide,Gz _,λb M=>?_};have o:=Z4 (Z4 (Z4 M));have J:b≠f:=Gn (Qd k o);have L:t≠b:=λz=>by have:=Z4 M;rw[<-z,Qb]at this;cases this
 exists _,Xb,f,CB,h,_,Xb,Qk Qb (Gn J),j.cl,j.entries,(by show 2<1000;decide);have l:∀{i g},y i=Ga g->i≠f->(zj (zj (zj (zj (zj y f (.ins CB h (Yo "places" (.ref p) []))) t (.lst [])) f (.ins CB h (Yo "told" (.ref t) (Yo "places" (.ref p) [])))) b (.lst [])) f (.ins CB h (Yo "entries" (.ref b) (Yo "told" (.ref t) (Yo "places" (.ref p) []))))) i=Ga g:=λB n=>Qk (Qk (Qk (Qk (Qk B n) (Qd B r)) n) (Qd B o)) n;refine q p a U d t b _ {⟨h,Qb⟩,u.keep (λg e=>l e pb) (λg e=>l e (Yj H k nofun)) (λg e=>l e (Yj I k nofun)) (λg e=>l e (Yj T.at_ k nofun)) (λi xs e=>l e (Yj e k nofun)),{[],Qk (Qk (Qk Qb G) L) G,.nil},{[],[],Qk Qb J,.nil,.nil},Gn (Qd H r),Gn (Qd I r),L,Gn (Qd H o),Gn (Qd I o)} (λi g e n=>l (m _ _ e) n) (x.free V) (x.free Y) (x.free W) (m.free r) (m.free o)
theorem tq:Q3 ["self","deed","entry"] ["self","deed"] (Ql Rc):=by eq_refl
theorem P2{f:V}{e:Dd}(h:ir H f e):∃c k m,f=.ref c/\H c=Ga (.tup (.str k::m))/\(k="back"↔∃i,e=.back i)/\(k="ask"↔∃s t,e=.ask s t):=by
 cases e with
 |tell b s t=>
  obtain⟨c,g,l,a,d,_⟩:=h;refine{c,_,_,a,d,{λz=>?_,λ⟨i,z⟩=>by cases z},{λz=>?_,λ⟨i,j,z⟩=>by cases z}}
  .cases b<;>exact absurd z (by decide+kernel)
  .cases b<;>exact absurd z (by decide+kernel)
 |ask s t=>obtain⟨c,g,l,a,d,_⟩:=h;exact{c,_,_,a,d,{λz=>absurd z (by decide+kernel),λ⟨i,z⟩=>by cases z},{λz=>⟨s,t,rfl⟩,λ_=>rfl}}
 |back i=>obtain⟨c,a,d⟩:=h;exact{c,_,_,a,d,{λz=>⟨i,Xb⟩,λ_=>rfl},{λz=>absurd z (by decide+kernel),λ⟨i,j,z⟩=>by cases z}}
theorem KW{fG fP fT:Gc}{al am ak an:Tq}(F:We K "answer" "Book.answer" Rc f0 fd)(A:iD K mg CB)(TP:hJ K mg CP)
  (mG:Ye K CB "go_back" fG)(GG:Qy P w K mg base Z5 1 fG al ["self","moment"] (sD P w CP CB))(bG:zk K al ["self","moment"] [])(mP:Ye K CP "place_of" fP)(GP:Qy P w K mg base Z5 52 fP am ["self","thing"] (wH P w CP))(bP:zk K am ["self","thing"] [])
  (mA:Ye K CB "ask" fA)(GA:Qy P w K mg base Z5 62 fA ak ["self","entry"] (sZ P w CP CB))(bA:zk K ak ["self","entry"] [])(mT:Ye K CB "tell" fT)(GT:Qy P w K mg base Z5 62 fT an ["self","deed","entry"] (zf P w CP CB))(bT:zk K an ["self","deed","entry"] []):
  Qy P w K mg base Z5 63 f0 fd ["self","deed"] (nB P w CP CB):=by
 refine F.ok tq (λW N V L D=>?_) (λax aw ay s N W V L hr D=>?_)
 .obtain⟨o,p,a,C,d,t,S,v,tl,R,dv,Z,rfl,_⟩:=D;rfl
 obtain⟨o,p,a,C,d,t,S,v,tl,R,dv,Z,rfl,f,Q,aa,ab,q⟩:=D;have aE:Yd 1 _:=hr.mono (by lia);have ar:Yd 52 _:=hr.mono (by lia);have nd:=tq.nd;show∃t,Ia ?my _ t/\_;let w4:Xk ?my Rc 3:={_,Qh (Qt (Zh (pv 0) A.cl mT GT hr bT .nil Q7 (Qa (pv 1) (Qa (pv 2) Qe))))}
 let w3:Xk ?my Rc 2:={_,Qc (Q8 (Qn Xn (Qm Qo (pv 1) Qi) Zk (Qr _)) (Qh (Qt (Zh (pv 0) A.cl mA GA hr bA .nil Q7 (Qa (pv 2) Qe)))) Qv) w4.2}
 let w2:Xk ?my Rc 1:={_,Qc (Qz 2 nd (Zg (Qa (Qm Qo (pv 1) Qi) (Qa (Zh (Qu (pv 0) rfl) TP.cl mP GP ar bP .nil Q7 (Qa (Qm Qo (pv 1) Qi) Qe)) (Qa (Zh (Qu (pv 0) rfl) TP.cl mP GP ar bP .nil Q7 (Qa (Qm Qo (pv 1) Qi) Qe)) Qe))))) w3.2}
 exists _,Qc (Q8 (Qn Xn (Qm Qo (pv 1) Qi) Zk (Qr _)) (Qh (Qt (Zh (pv 0) A.cl mG GG aE bG .nil Q7 (Qa (Qm Qo (pv 1) Qi) Qe)))) Qv) w2.2;subst_vars;obtain⟨dx,o1⟩:=f.ob;obtain⟨c,k,xs,rfl,H,kb,ka⟩:=P2 aa;and_intros;exists _,Xb,c,_,_,_,Xb,Xb,Q9.of H,Rz _ _,Xb,_,Xb;rw[Zb];subst_vars;obtain⟨us,u1,_⟩:=f.pl.th;obtain⟨ws,w1,_⟩:=f.pl.fo;obtain⟨aK,d1,_⟩:=f.pl.kn;obtain⟨aP,t1,_⟩:=f.to;and_intros;by_cases hb:k="back"
 .subst hb;rw[Ev];refine Yp ?_;obtain⟨i,rfl⟩:=kb.mp rfl;obtain⟨Y,g,h⟩:=aa;cases g;refine{_,Xb,o,dx,_,Xb,o1,OD _ _ _,_,Xb,c,_,_,_,Xb,Xb,Q9.of h,Rh _ _ _,o,p,a,C,d,t,S,v,tl,i,Xb,f,λU t' e' W V I L ad ac=>?_};exact q U t' e' v W V I Q.sub {λb l j g _ _ _ _=>L.keep b l j g g,L.there} ad ac
 have aG:(k==("back":Tb))=Gs:=by simpa using hb
 rw[aG];refine Q5 ?_;subst_vars;obtain⟨s,e,m,n,aF,i1,i2,hs,ht,aC⟩:∃s e m n,xs=[m,n]/\Zv N m s/\Zv N n e/\s∈R/\e∈R/\((k="ask"/\Z=.ask s e)\/(k≠"ask"/\∃b,k=tw b/\Z=.tell b s e)):=by
  cases Z with
  |tell b s e=>obtain⟨Y,m,n,g,h,E,G⟩:=aa;cases g;rw[H]at h;cases h;exact{s,e,m,n,Xb,E,G,ab.1,ab.2,.inr {(λz=>by obtain⟨_,_,z⟩:=ka.mp z;cases z),b,rfl,rfl}}
  |ask s e=>obtain⟨Y,m,n,g,h,E,G⟩:=aa;cases g;rw[H]at h;cases h;exact{s,e,m,n,Xb,E,G,ab.1,ab.2,.inl ⟨Xb,Xb⟩}
  |back i=>exact absurd (kb.mpr ⟨i,Xb⟩) hb
 and_intros;subst aF;obtain⟨dp,op⟩:=f.pl.ob;have gs:=Q.good s hs;have gt:=Q.good e ht;have aL:=Q.le f.pl.nd;refine{_,Xb,c,_,_,_,Xb,Xb,Q9.of H,Rz _ _,_,Xb,o,CB,dx,_,_,Xb,o1,A.cl,A.places,U5 _ _ _,p,dp,_,Xb,op,yz _ _ _,_,Xb,c,_,_,_,Xb,Xb,Q9.of H,Rh _ _ _,p,m,s,a,C,d,v,Xb,f.pl,i1,gs.1,by have:=gs.2.1;lia,by have:=gs.2.2;lia,λr H1 x1 aD F1=>?_};obtain⟨m1,aj⟩:=Vw s.inside v;have au:=x1;rw[aj]at au;have x:=f.place au F1;rw[<-aj]at x;have FW1:=Q.grow hs;have aM:=FW1.le x.pl.nd;have af:=F1.Qs f.pl;obtain⟨aA,aH⟩:=x.ob;obtain⟨az,aI⟩:=x.pl.ob;refine{_,Xb,o,CB,aA,_,_,Xb,aH,A.cl,A.places,U5 _ _ _,p,az,_,Xb,aI,yz _ _ _,_,Xb,c,_,_,_,Xb,Xb,Q9.of (af _ _ H),iJ _ _ _ _,p,n,e,a,C,d,_,Xb,x.pl,i2.Qs af,gt.1,by have:=gt.2.1;lia,by have:=gt.2.2;lia,λJ X x2 aq F2=>?_};obtain⟨m2,ae⟩:=Vw e.inside (Yy v s.inside);have av:=x2;rw[ae]at av;have B2:=x.place av F2;rw[<-ae]at B2;have FW2:=FW1.grow ht;have ag:Q4 N X:=λb xs j=>(F2.Qs x.pl) _ _ (af _ _ j);have ap:(Yy (Yy v s.inside) e.inside)[r]?=Ga s:=by rw[ae];exact oV aD
 refine{by show 3<=Gj;decide,λB aB=>?_};have T:=Qf aB (.tup [.str k,jv r,jv J]);have y:=B2.same T;generalize aJ:Yy (Yy v s.inside) e.inside=O at*;have e1:=Uw ap;have e2:=Uw aq;have l1:r<O.length:=(List.getElem?_eq_some_iff.mp ap).1;have l2:J<O.length:=(List.getElem?_eq_some_iff.mp aq).1;have M:gE a C d N (zj X B (.tup [.str k,jv r,jv J])):=(F1.trans F2).trans (gE.of T);subst_vars;obtain⟨ai,o3⟩:=y.ob;obtain⟨aN,u3,_⟩:=y.pl.th;obtain⟨aQ,w3,_⟩:=y.pl.fo;obtain⟨aO,t3,_⟩:=y.to;and_intros;have ao:(zj X B (.tup [.str k,jv r,jv J])) c=Ga (.tup (.str k::[m,n])):=T _ _ (ag _ _ H);have back:∀b l,N b=Ga l->∃u,(zj X B (.tup [.str k,jv r,jv J])) b=Ga u:=λb l j=>Si.mp λz=>by rw[M.there b z]at j;cases j
 exists _,Xb,c,_,_,_,Xb,Xb,Q9.of ao,Rz _ _,Xb,_,Xb;rw[Zb];rcases aC with⟨rfl,rfl⟩|⟨hk,b,rfl,rfl⟩
 .rw[Ev];refine Yp ?_;refine{_,Xb,o,ai,_,Xb,o3,Cd _ _ _,_,Xb,o,p,a,C,d,t,S,O,tl,R,.ref B,r,J,Xb,y,FW2,⟨B,Xb,Qb⟩,l1,l2,λU H4 L I=>?_};rw[e1,e2]at I;refine q U t S O H4 (y.same L) (I.ex λY ys _ hx z=>hx ?_) FW2.sub {λb l j g h E G h5=>L _ _ (M.keep b l j h E G),λb D=>M.there b (L.free D)} (.inl Xb) (.inl Xb);rcases z with⟨l,ho⟩|z
  .exact back _ _ ho
  .rw[z];exact{_,t3}
 .have ah:(tw b==("ask":Tb))=Gs:=by simpa using hk
  rw[ah];refine Q5 ?_;refine{_,Xb,o,ai,_,Xb,o3,BA _ _ _,_,Xb,_,Xb,o,p,a,C,d,t,S,O,tl,R,.ref c,.ref B,b,r,J,Xb,y,FW2,?_,⟨B,Xb,Qb⟩,l1,l2,λU e' H4 L I V W=>?_}
  .rw[e1,e2];exact{c,m,n,Xb,ao,(i1.Qs ag).same T,(i2.Qs ag).same T}
  .rw[e1,e2]at L I;refine q U t e' O H4 L (I.ex λY ys _ hx z=>hx ?_) FW2.sub {λb l j g h E G h5=>V.keep _ _ (M.keep b l j h E G) g h5,λb D=>M.there b (V.there b D)} (.inl Xb) (W.elim .inl λz=>.inr (M.there _ z));rcases z with⟨l,ho⟩|z
   .exact back _ _ ho
   .rw[z];exact{_,t3}
end
def rb(H:Hp)(X:Gc->Prop)(a:List Dd)(b:List V):Prop:=∀(k:Nat)(d:Dd)(v:V),a[k]?=Ga d->b[k]?=Ga v->Jy H X (after [] (a.take k)) d v
inductive sY(vs:List V)(H:Hp)(Q:VK):Prop
 |mk (l:Gc) (es:List V) (dl:List Dd) (U:List Th) (h0:vs=[.ref l]) (h1:H l=Ga (.lst es)) (h2:Rq H es dl) (h3:ke U) (h4:(∀d∈dl,d.fits U)) (h5:dl.length<=800) (h6:∀(r:Gc)(rs:List V)(H':Hp),Q6 H H'->H r=Gh->H' r=Ga (.lst rs)->rs.length=dl.length->rb H' (λb=>b=r) dl rs->Q (.ref r) H'):sY vs H Q
def vX:Sp:=λa H Q _=>sY a H Q
theorem PN{a:List Dd}(b:ke U)(h:∀x∈ts,x∈U)(c:a.length<=800)(i:Nat):ij U ts (after [] (a.take i)):={h,b.cl,b.good,b.len,by have:=pj (ds:=a.take i) (tl:=[]);rw[List.length_take]at this;simp only[List.length_nil]at this;lia}
section
variable{P:Gg}{w:Gu}{K:Gd}{mg:Tb->Option Value}{base:Heap}
theorem Ul.but{i g:Gc}{H:Hp}{bk p a f d t e r:Gc}{l:List Th}{k:Tl}{D n:List V}(B:Ul P w i g H bk p a f d t e l k)(c:H r=Ga (.lst D))(v:r≠a)(y:r≠f)(rt:r≠t)(x:r≠e):Ul P w i g (zj H r (.lst n)) bk p a f d t e l k:=by
 obtain⟨o,j⟩:=B.ob;obtain⟨C,z,A⟩:=B.to;obtain⟨u,b,q,s,R⟩:=B.en;have m:Q4 H (zj H r (.lst n)):=Z0 λE e=>by rw[c]at e;cases e
 exact{{o,Qk j (Yj j c nofun)},B.pl.but c v y,{C,Qk z (Gn rt),A.Qs m},{u,b,Qk q (Gn x),L2.Paired.Z8 s λ_ _ h=>h.Qs m,R},B.ta,B.tf,B.te,B.ea,B.ef}
theorem kq.Qs{bk a t e:Gc}(F:kq bk a f d t H H')(B:Ul P w CP CB H bk p a f d t e ts tl):Q4 H H':=λb s c=>by obtain⟨m,i⟩:=B.ob;obtain⟨o,k,_⟩:=B.pl.th;obtain⟨r,l,_⟩:=B.pl.fo;obtain⟨h,g,_⟩:=B.pl.kn;obtain⟨q,j,n⟩:=B.to;exact F.keep _ _ c (Yj c i nofun) (Yj c k nofun) (Yj c l nofun) (Yj c g.at_ nofun) (Yj c j nofun)
theorem kq.lst{i h:Gc}{H g:Hp}{bk p a f d t e:Gc}{r:List Th}{q:Tl}(F:kq bk a f d t H g)(B:Ul P w i h H bk p a f d t e r q){c:Gc}{xs:List V}(b:H c=Ga (.lst xs))(k:c≠a)(l:c≠f)(m:c≠t):g c=Ga (.lst xs):=by obtain⟨s,o⟩:=B.ob;obtain⟨n,j,_⟩:=B.pl.kn;exact F.keep _ _ b (Yj b o nofun) k l (Yj b j.at_ nofun) m
theorem tW:Q3 ["deeds","book"] ["deeds"] (Ql Oz):=by eq_refl
theorem z8:(["deed","book"]:List Tb).Nodup:=by decide+kernel
theorem zO{aj:Tq}(F:We K "answers" "answers" Oz f0 fd)(ai:iD K mg CB)(aw:Mk K CB fI)(GI:Qy P w K mg base Z5 3 fI fdI ["self"] (tX P w CP CB))(bI:zk K fdI ["self"] [])
  (mA:Ye K CB "answer" fA)(GA:Qy P w K mg base Z5 63 fA aj ["self","deed"] (nB P w CP CB))(bA:zk K aj ["self","deed"] []):Qy P w K mg base Z5 64 f0 fd ["deeds"] vX:=by
 refine F.ok tW (λE l o j ab=>?_) (λY Q Z s l E o j hr ab=>?_)
 .obtain⟨ad,es,G,aa,rfl,_⟩:=ab;rfl
 obtain⟨ad,es,G,aa,rfl,hl,ak,hU,aB,aC,q⟩:=ab;have aD:Yd 4 _:=hr.mono (by lia);have nd:=tW.nd;exists _,Qc (V1 (i:=1) nd rfl (DJ Xb) (wG aw GI aD rfl ai.mgC bI .nil Q7))
  (Qh (Qt (Vs (te:=kj CB "answer" (nB P w CP CB) [] E0 (Vz 1) (iH (Vz 0) i8)) (own:=["deed"]) (fv:=[(1,"book")]) rfl (S:=(by eq_refl:Xy (Ql Oz) _)) (.cons rfl (T3 Xb) rfl .nil)
   (Yg (pv 0)) (λ_ _ _ _ _=>Xc (i:=0) z8 rfl (T3 Xb) (DJ Xb)) (λ_ _ _ _ _=>Wb) (λ_ _ _ _ _=>Zh (pv 1) ai.cl mA GA hr bA .nil Q7 (Qa (pv 0) Qe)))))
 intro B dx ac az aL;have N:Q6 l (zj (zj l dx (.own B)) B (.ins CB dx [])):=λc L g=>Qk (Qk g (Qd g az)) (Qd g ac);refine{B,dx,Xb,Qb,λp a v d t g H1 I k1 ha hf hd ht he=>{Xb,?_}};have R:Q6 l H1:=λb L h=>k1 b L (N _ _ h) (Qd h ac);have ax:=N.free ha;have aA:=N.free hf;have ay:=N.free hd;have aE:=N.free ht;refine{_,Xb,ad,Xb,{_,Za.of (R _ _ hl)},λf C=>?_};subst_vars;obtain⟨us,u1,_⟩:=I.pl.th;obtain⟨ws,w1,_⟩:=I.pl.fo;obtain⟨aM,t1,_⟩:=I.to;obtain⟨aK,aJ,e1,_⟩:=I.en;and_intros;have ra:f≠a:=Gn (Qd u1 C);have rf:f≠v:=Gn (Qd w1 C);have M:f≠t:=Gn (Qd t1 C);have T:f≠g:=Gn (Qd e1 C);have s2:=Qf C (.lst []);have aF:es.length=G.length:=Gq ak;refine I8 (K:=K) (a:=ad) (xs:=es) (small (by lia)) (λi D X u=>hA λ(x0:Option V)(t g:Gc)(O:List Th)=>hB (X=[x0,Ga (.ref B)]) (Ul P w CP CB u B p a v d t g O (after [] (G.take i))) (∀x∈O,x∈aa) (Q6 l u) (l t=Gh) (f≠t) (f≠g) (rb u (λb=>b=a\/b=v\/b=t\/b=f) (G.take i) D))
  {_,t,g,[],Xb,I.same s2,(λx e=>nomatch e),R.trans s2,aE,M,T,(λk d U n=>by simp at n)} (by rintro i D X u _ ⟨_,_,_,_,_,_,_,j,_⟩;exact Za.of (j _ _ hl)) ?_ ?_
 .rintro i y D X u hi al ⟨x0,t,g,O,rfl,r,sub,J,t0,M,T,S⟩ H;obtain⟨dd,Y,hy⟩:=Qw ak hi;obtain⟨am,o2⟩:=r.ob;have av:Q4 l u:=Q4.of J;refine{_,Xb,B,am,_,Xb,o2,IY _ _ _,_,Xb,B,p,a,v,d,t,g,O,_,aa,y,dd,Xb,r,PN hU sub aC i,hy.Qs av,aB dd (List.mem_of_getElem? Y),λU o e' au E B3 hv aq Q Z an=>?_};have r3:=Q.lst r H ra rf M;have ag:f≠o:=Z.elim (λz=>z▸M) (λz=>Qd H z);have af:f≠e':=an.elim (λz=>z▸T) (λz=>Qd H z);have g3:Q6 l E:=λb L h=>Q.keep b L (J _ _ h) (Qd h ac) (Qd h ax) (Qd h aA) (Qd h ay) (Qd h t0);have ar:l o=Gh:=Z.elim (λz=>z▸t0) (λz=>J.free z);subst_vars;obtain⟨aH,u2,_⟩:=r.pl.th;obtain⟨aI,w2,_⟩:=r.pl.fo;and_intros;refine{r3,_,o,e',au,Xb,(by rw[vv Y];exact B3.but r3 ra rf ag af),aq,λb L h=>Qk (g3 _ _ h) (Qd h (R.free C)),ar,ag,af,λk dk W n A=>?_};have ah:Q4 E (zj E f (.lst (D++[U]))):=Z0 λxs g=>by rw[r3]at g;cases g
  have ae:∀{c:Gc}{xs:List V},E c=Ga (.lst xs)->¬(c=a\/c=v\/c=o\/c=f)->(zj E f (.lst (D++[U]))) c=Ga (.lst xs):=λm e=>Qk m (λz=>e (.inr (.inr (.inr z))));have ao:k<i+1:=by have:=(List.getElem?_eq_some_iff.mp n).1;rw[List.length_take]at this;lia
  have ek:(G.take (i+1)).take k=G.take k:=by rw[List.take_take,EZ (by lia)]
  rw[ek];rw[List.getElem?_take_of_lt ao]at n;rcases Tp k i with ap|aG
  .rw[List.getElem?_append_left (by lia)]at A;have h0:=S k dk W (by rw[List.getElem?_take_of_lt ap];exact n) A;rw[List.take_take,EZ (by lia)]at h0;have h1:=h0.ex (Y:=λb=>b=a\/b=v\/b=t\/b=o\/b=f) λc xs m e z=>by
    rcases z with z|z|z|z|z
    .exact e (.inl z)
    .exact e (.inr (.inl z))
    .exact e (.inr (.inr (.inl z)))
    .rcases Z with j|j
     .exact e (.inr (.inr (.inl (z.trans j))))
     .rw[z,j]at m;cases m
    .exact e (.inr (.inr (.inr z)))
   have h2:=h1.kp (Q.Qs r) λ{c xs}m e=>Q.lst r m (λz=>e (.inl z)) (λz=>e (.inr (.inl z))) (λz=>e (.inr (.inr (.inl z))));have h3:=h2.ex (Y:=λb=>b=a\/b=v\/b=o\/b=f) λc xs m e z=>by
    rcases z with z|z|z|z
    .exact e (.inl z)
    .exact e (.inr (.inl z))
    .exact e (.inr (.inr (.inr (.inl z))))
    .exact e (.inr (.inr (.inr (.inr z))))
   exact h3.kp ah ae
  .have j:k=i:=by lia
   subst j;rw[List.getElem?_append_right (by lia),al,Nat.sub_self]at A;have A:U=W:=by simpa using A
   subst A;rw[Y]at n;cases n;exact(hv.ex (Y:=λb=>b=a\/b=v\/b=o\/b=f) λc xs m e z=>by
    rcases z with z|z|z|z
    .exact e (.inl (by rw[z];exact{_,u2}))
    .exact e (.inl (by rw[z];exact{_,w2}))
    .exact e (.inr z)
    .exact e (.inl (by rw[z];exact{_,H}))).kp ah ae
 .rintro D X u al ⟨x0,t,g,O,rfl,r,sub,J,t0,M,T,S⟩ H;rw[aF,List.take_length]at S;exact q f D u J (R.free C) H (by lia) λk dk W n A=>(S k dk W n A).ex λc xs m e z=>e (.inr (.inr (.inr z)))
end
open PySem L2 Sb
structure gN(mg:Tb->Option Value):Prop where
 len:mg "len"=Gh
 min:mg "min"=Gh
 abs:mg "abs"=Gh
 list:mg "list"=Gh
 tuple:mg "tuple"=Gh
 str:mg "str"=Gh
 bool:mg "bool"=Gh
 int:mg "int"=Gh
 isinstance:mg "isinstance"=Gh
 range:mg "range"=Gh
 reversed:mg "reversed"=Gh
def sH:TY->List TY
 |.While _ b _ _=>b
 |_=>[]
abbrev cSt(i:Nat):TY:=(X8 Vv).getD i (.Pass {0,0,0,0})
abbrev I6:TY:=(sH (cSt 7)).getD 1 (.Pass {0,0,0,0})
abbrev OX:TY:=(sH (cSt 7)).getD 2 (.Pass {0,0,0,0})
abbrev cN:List Tb:=["_law_told","_law_things","_law_todo","_law_word","_law_one","_law_other","_law_leaders","_law_part","_law_pairs","_law_names","_law_going","_law_k","_law_j","_law_two","_law_inner","_law_old","_law_name"]
theorem Jd:Q3 cN ["_law_told","_law_things"] (Ql Vv):=by eq_refl
theorem nd2:(["_law_part","_law_leaders"]:List Tb).Nodup:=by decide+kernel
def Good(tl:Tl)(S:List Th)(a:List (Th×Th)):Prop:=∀p∈a,p.1∈S/\p.2∈S/\Cg tl p.1 p.2
def gM(tl:Tl)(S:List Th)(L:Th->Int):Prop:=∀x∈S,∀y∈S,L x=L y->Cg tl x y
def tI(S:List Th)(L a:Th->Int):Prop:=∀x∈S,∀y∈S,L x=L y->a x=a y
abbrev s4(k l m n o p:Option V)(d:Gc)(q:Option V)(j i:Gc)(g:Bool)(a b c e f h:Option V):St:=[k,l,m,n,o,p,Ga (.ref d),q,Ga (.ref j),Ga (.ref i),Ga (.bl g),a,b,c,e,f,h]
section
variable{P:Gg}{w:Gu}{K:Gd}{mg:Tb->Option Value}{base:Heap}{f:Gc}{cdv:Value}{A:TQ}{outer:List Fd}{s:Gk}{Hi:Hp}{E:XK}
abbrev XC(P:Gg)(w:Gu)(K:Gd)(mg:Tb->Option Value)(base:Heap)(f:Gc)(cdv:Value)(A:TQ)(outer:List Fd)(s:Gk)(Hi:Hp)(E:XK):Cx:=(iM Z5 P w K mg base cN "_law_classes" (Ql Vv) f cdv A outer s Hi E).nox
theorem Ha(hu:(XC P w K mg base f cdv A outer s Hi E).A.units+64<DA):∃t,PS (XC P w K mg base f cdv A outer s Hi E) OX t/\∀(tl:Tl)(S:List Th)(l:Th->Int)(d D C:Gc)(Z nv:List V)(v:List (Th×Th))(J:Hp)(x0 x1 x2 x3 x7:Option V)
  (hN:Num P w J d S l)(ag:J D=Ga (.lst Z))(al:gV J Z v)(aj:J C=Ga (.lst nv))(ak:Zr J nv S)(hG:Good tl S v)(hS:gM tl S l)(ax:S.length<=3000),
  Tr t
   (λσ H=>H=J/\∃G I aa ab ac ad F h,σ=s4 x0 x1 x2 x3 G I d x7 D C Gs aa ab ac ad F h)
   (λσ H=>ym λg a G I aa ab ac ad F h=>hB (σ=s4 x0 x1 x2 x3 G I d x7 D C g aa ab ac ad F h) (Rf d J H) (Num P w H d S a) (gM tl S a) (tI S l a) (∀p∈v,a p.1=a p.2) (g=Gs->∀t∈S,a t=l t) (g=Gf->∃x∈S,∃y∈S,l x≠l y/\a x=a y)):=by
 have nd:=Jd.nd;exists _,(Z6 Gy rfl (Yg (pv 8)) (Vx rfl (Zn (Zz 4 nd) (Zn (Zz 5 nd) Wm)))
  (Qc (Qz 15 nd (Qm (iq hu) (pv 6) (pv 4)))
  (Qh (Q8 (Qn Uc (pv 15) (Qm (iq hu) (pv 6) (pv 5)) (Qr _))
  (Qc (Qz 10 nd Yf)
  (Qh (Z6 Gy rfl (Yg (pv 9)) (Zz 16 nd)
  (Qh (Q8 (Qn Xn (Qm (iq hu) (pv 6) (pv 16)) (pv 15) (Qr _))
  (Qh (Rt (Qm (iq hu) (pv 6) (pv 5)) (jJ (pv 6) (pv 16) (jA hu)))) Qv))))) Qv))))
 intro tl S l d D C Z nv v J x0 x1 x2 x3 x7 hN ag al aj ak hG hS ax;rintro aD σ H ⟨rfl,G,I,aa,ab,ac,ad,F,h,rfl⟩ k;obtain⟨od,af⟩:=hN.at;have az:D≠d:=Zo ag af (by intro z;cases z);have aq:C≠d:=Zo aj af (by intro z;cases z);let aA:Nat->St->Hp->Prop:=λi σ R=>iy λg a G I F h=>hB (σ=s4 x0 x1 x2 x3 G I d x7 D C g aa ab ac ad F h) (Rf d H R) (Num P w R d S a) (gM tl S a) (tI S l a) (∀p∈v.take i,a p.1=a p.2) (g=Gs->∀t∈S,a t=l t) (g=Gf->∃x∈S,∃y∈S,l x≠l y/\a x=a y)
 refine⟨_,Xb,D,Xb,{_,Za.of ag},Y9 (K:=K) (a:=D) (xs:=Z) aA
  {Gs,l,G,I,F,h,Xb,Rf.refl,hN,hS,λ_ _ _ _ e=>e,by simp,λ_ _ _=>rfl,λe=>by cases e} (by rintro i σ R _ ⟨_,_,_,_,_,_,_,B,_⟩;exact Za.of (B _ _ ag az)) ?_ ?_⟩
 .rintro i x σ R hi ⟨g,a,G,I,F,h,rfl,B,T,ai,ae,dn,gf,gt⟩;subst_vars;obtain⟨⟨Q,q⟩,eu,a',v1,v2,rfl,aw,t1,t2⟩:=Qw al hi;have tu:Q4 H R:=B.Qs af (λxs z=>by cases z);obtain⟨b1,_,_,_,rfl,_,_,_⟩:=t1.inv;obtain⟨b2,_,_,_,rfl,_,_,_⟩:=t2.inv;have t1:=t1.Qs tu;have t2:=t2.Qs tu;obtain⟨Y,N,mc⟩:=hG (Q,q) (List.mem_of_getElem? eu);and_intros;have tk:v.take (i+1)=v.take i++[(Q,q)]:=by rw[List.take_add_one,eu];rfl
  exists a',_,Xb,Q9.of (tu _ _ aw),Xb,_,_,Xb,_,_,Xb,Xb;refine{_,Xb,_,Xb,T.get Y t1 ?_};refine{_,Xb,_,Xb,_,Xb,T.get N t2 {Xb,_,Xb,?_}};rw[Ux];refine Uu (λc=>?_) (λc=>?_)
  .have c:a Q≠a q:=by simpa using c
   generalize ho:a Q=u at*;generalize hn:a q=n at*;have ay:∀t,mrg a u n t≠u:=λt z=>by
    unfold mrg at z;split at z
    .exact c z.symm
    .rename_i av;exact av z
   have am:mrg a u n q=n:=by unfold mrg;rw[Gi (by rw[hn];exactλz=>c z.symm)];exact hn
   have ap:=B _ _ aj aq;let aB:Nat->St->Hp->Prop:=λj σ U=>jV λL2 h=>iZ (σ=s4 x0 x1 x2 x3 (Ga (.ref b1)) (Ga (.ref b2)) d x7 D C Gf aa ab ac ad (Ga (.int u)) h) (Rf d R U) (Num P w U d S L2) (∀t∈S,L2 t=a t\/L2 t=mrg a u n t) (∀t∈S.take j,L2 t=mrg a u n t)
   refine⟨_,Xb,C,Xb,{_,Za.of ap},Y9 (K:=K) (a:=C) (xs:=nv) aB
    {a,_,Xb,Rf.refl,T,λt _=>.inl Xb,by simp} (by rintro j σ U _ ⟨_,_,_,L,_⟩;exact Za.of (L _ _ ap aq)) ?_ ?_⟩
   .rintro j y σ U hj ⟨L2,h,rfl,L,W,X,l2⟩;subst_vars;obtain⟨O,e0,o⟩:=ak.get hj;have ah:=List.mem_of_getElem? e0;have aC:Q4 H U:=(B.trans L).Qs af (λxs z=>by cases z);obtain⟨b0,_,_,_,rfl,_,_,_⟩:=o.inv;and_intros;have o:=o.Qs aC;have ar:S.take (j+1)=S.take j++[O]:=by rw[List.take_add_one,e0];rfl
    refine{_,Xb,_,Xb,W.get ah o {_,Xb,Xb,_,Xb,?_}};rw[Ux];refine Uu (λM=>?_) (λM=>?_)
    .have M:L2 O=u:=by simpa using M
     have e2:L2 q=n:=by
      rcases X q N with z|z
      .rw[z,hn]
      .rw[z,am]
     have ao:mrg a u n O=n:=by
      rcases X O ah with z|z
      .unfold mrg;rw[Gp (by rw[<-z];exact M)]
      .exact absurd (z.symm.trans M) (ay O)
     refine{_,Xb,_,Xb,W.get N (t2.Qs (L.Qs T.at.choose_spec (λxs z=>by cases z))) {_,rfl,_,rfl,W.put (by ext) ah o λH3 au N3=>?_}};refine{_,_,Xb,L.trans au,N3,λt m=>?_,λt m=>?_}
     .by_cases z:t=O
      .subst z;right;rw[Gp Xb,e2,ao]
      .rw[Gi z];exact X t m
     .by_cases z:t=O
      .subst z;rw[Gp Xb,e2,ao]
      .rw[Gi z];rw[ar,List.mem_append,List.mem_singleton]at m;exact l2 t (m.resolve_right z)
    .have M:L2 O≠u:=by simpa using M
     refine{_,_,Xb,L,W,X,λt m=>?_};rw[ar,List.mem_append,List.mem_singleton]at m;rcases m with m|m
     .exact l2 t m
     .subst m;rcases X t ah with z|z
      .rw[z];unfold mrg;rw[Gi (by rw[<-z];exact M)]
      .exact z
   .rintro σ U ⟨L2,h,rfl,L,W,X,l2⟩;rw[ak.length,List.take_length]at l2;have r:∀x∈S,L2 x=mrg a u n x:=l2;refine{Gf,L2,_,_,_,_,Xb,B.trans L,W,?_,?_,?_,(λe=>by cases e),λ_=>?_}
    .intro x hx y o e;rw[r x hx,r y o]at e;rw[<-ho,<-hn]at e;exact Kj Y N ai mc x hx y o e
    .intro x hx y o e;rw[r x hx,r y o];exact uT (ae x hx y o e)
    .intro p b;rw[tk,List.mem_append,List.mem_singleton]at b;rcases b with b|b
     .have an:=hG p (List.mem_of_mem_take b);rw[r _ an.1,r _ an.2.1];exact uT (dn p b)
     .subst b;show L2 Q=L2 q;rw[r _ Y,r _ N,am];unfold mrg;rw[Gp ho]
    .exists Q,Y,q,N,λz=>c ?_
     .have:=ae Q Y q N z;rw[ho,hn]at this;exact this
     .rw[r _ Y,r _ N,am];unfold mrg;rw[Gp ho]
  .have c:a Q=a q:=by simpa using c
   refine{g,a,_,_,_,_,Xb,B,T,ai,ae,λp b=>?_,gf,gt};rw[tk,List.mem_append,List.mem_singleton]at b;rcases b with b|b
   .exact dn p b
   .subst b;exact c
 .rintro σ R ⟨g,a,G,I,F,h,rfl,B,T,ai,ae,dn,gf,gt⟩;have e:v.take Z.length=v:=by rw[show Z.length=v.length from Gq al,List.take_length]
  rw[e]at dn;exact k _ _ {g,a,_,_,_,_,_,_,_,_,Xb,B,T,ai,ae,dn,gf,gt}
end
inductive ip(L:Th->Int)(u v:Th):Prop
 |mk (w:_) (ps:_) (qs:_) (h0:u=.mk w ps) (h1:v=.mk w qs) (h2:ps.map L=qs.map L):ip L u v
theorem Af{L:Th->Int}(b:∀w ps,Th.mk w ps∈S->∀p∈ps,p∈S)(j:gM tl S L){a:List Th}(g:Th.mk w ps∈S)(h:Th.mk w a∈S)(e:ps.map L=a.map L):Cg tl (.mk w ps) (.mk w a):=by
 refine .cong (gC.of (by have:=congrArg List.length e;simpa using this) λi p q d f=>?_);have c:(ps.map L)[i]?=(a.map L)[i]?:=by rw[e]
 rw[List.getElem?_map,List.getElem?_map,d,f]at c;exact j p (b _ _ g p (List.mem_of_getElem? d)) q (b _ _ h q (List.mem_of_getElem? f)) (Ti c)
section
variable{P:Gg}{w:Gu}{K:Gd}{mg:Tb->Option Value}{base:Heap}{f:Gc}{cdv:Value}{A:TQ}{outer:List Fd}{s:Gk}{Hi:Hp}{E:XK}
theorem OV(ad:gN mg)(B:(XC P w K mg base f cdv A outer s Hi E).A.units+64<DA):∃t,PS (XC P w K mg base f cdv A outer s Hi E) I6 t/\∀(tl:Tl)(S:List Th)(g:Th->Int)(d e C:Gc)(pq Y:List V)(L:List (Th×Th))(N:Hp)(x0 x1 x2 x3 x5 x7:Option V)
  (hN:Num P w N d S g)(ag:N e=Ga (.lst pq))(ay:gV N pq L)(an:N C=Ga (.lst Y))(af:Zr N Y S)(av:C≠e)(hG:Good tl S L)(hS:gM tl S g)(cl:∀w ps,Th.mk w ps∈S->∀p∈ps,p∈S)(ao:∀t∈S,t.size<=3000)(aB:S.length<=3000)(aE:L.length<=3000),
  Tr t
   (λσ H=>H=N/\∃m M n h l T U,σ=s4 x0 x1 x2 x3 m x5 d x7 e C Gs M n h l T U)
   (λσ H=>nE λD b m M n h l T U=>iQ (σ=s4 x0 x1 x2 x3 m x5 d x7 e C Gs M n h l T U) (Rf e N H) (H e=Ga (.lst D)) (gV H D b) (Good tl S b) (∀p∈L,p∈b) (∀(k j:Nat)u v,j<k->S[k]?=Ga u->S[j]?=Ga v->ip g u v->(u,v)∈b)):=by
 have nd:=Jd.nd;exists _,(Z6 Gy rfl (V7 rfl ad.range (Qa (Qp Zm rfl ad.len Gx (Qa (pv 9) Qe)) Qe)) (Zz 11 nd)
  (Qh (Z6 Gy rfl (V7 rfl ad.range (Qa (pv 11) Qe)) (Zz 12 nd)
  (Qc (Qz 4 nd (Qm Zc (pv 9) (pv 11)))
  (Qc (Qz 13 nd (Qm Zc (pv 9) (pv 12)))
  (Qh (Q8 (PW.pt (Ir (Qn Xn (Qm Qo (pv 4) Qi) (Qm Qo (pv 13) Qi) (Qr _)) (Jl (Qn Xn (Qp Zm rfl ad.len Gx (Qa (pv 4) Qe)) (Qp Zm rfl ad.len Gx (Qa (pv 13) Qe)) (Qr _)))))
  (Qc (Ue (i:=14) (own:=["_law_part"]) (fv:=[(6,"_law_leaders")]) nd rfl rfl rfl (S:=(by eq_refl:Xy (Ql Vv) _)) (.cons rfl (T3 Xb) rfl .nil) (Uj (Yc Vy (pv 4) (Yk Qi) Xo))
   (λ_ _ _ _ _=>Xc (i:=0) nd2 rfl (T3 Xb) (DJ Xb)) (λ_ _ _ _ _=>Wb) (λ_ _ _ _ _=>(Qm (r:=j8 P w) (iq B) (pv 1) (pv 0))))
  (Qh (Q8 (Qn (Uq B) (pv 14) (Vs (own:=["_law_part"]) (fv:=[(6,"_law_leaders")]) rfl (S:=(by eq_refl:Xy (Ql Vv) _)) (.cons rfl (T3 Xb) rfl .nil) (Uj (Yc Vy (pv 13) (Yk Qi) Xo))
   (λ_ _ _ _ _=>Xc (i:=0) nd2 rfl (T3 Xb) (DJ Xb)) (λ_ _ _ _ _=>Wb) (λ_ _ _ _ _=>(Qm (r:=j8 P w) (iq B) (pv 1) (pv 0)))) (Qr _))
  (Qh (Zj (X0 Gv GQ GX Zy (pv 8) (Qa (Zg (Qa (pv 4) (Qa (pv 13) Qe))) Qe)))) Qv))) Qv)))))))
 intro tl S g d e C pq Y L N x0 x1 x2 x3 x5 x7 hN ag ay an af av hG hS cl ao aB aE;rintro aS σ H ⟨rfl,m,M,n,h,l,T,U,rfl⟩ kk;obtain⟨od,au⟩:=hN.at;have aI:d≠e:=λz=>by rw[z,ag]at au;cases au
 have aT:=af.length;let aK:Nat->St->Hp->Prop:=λi σ H1=>tP λD b m M n h l=>hB (σ=s4 x0 x1 x2 x3 m x5 d x7 e C Gs M n h l T U) (Rf e H H1) (H1 e=Ga (.lst D)) (gV H1 D b) (Good tl S b) (∀p∈L,p∈b) (∀(k j:Nat)u v,k<i->j<k->S[k]?=Ga u->S[j]?=Ga v->ip g u v->(u,v)∈b) (b.length<=3000+i*3000)
 refine⟨_,Xb,_,_,Xb,.inl {Y,Za.of an,Xb},_,Xb,by lia,by lia,V6 (lo:=0) (n:=((Y.length:Int)).toNat) aK
  {pq,L,m,M,n,h,l,Xb,Rf.refl,ag,ay,hG,λ_ y=>y,λk j u v y=>by lia,by lia} ?_ ?_⟩
 .rintro i σ H1 hi ⟨ap,aq,m,M,n,h,l,rfl,q,x,I,O,Q,R,g6⟩;have hi:i<S.length:=by lia
  let aL:Nat->St->Hp->Prop:=λj σ F=>iy λD b m n h l=>jW (σ=s4 x0 x1 x2 x3 m x5 d x7 e C Gs (Ga (.int (0+(i:Int)))) n h l T U) (Rf e H F) (F e=Ga (.lst D)) (gV F D b) (Good tl S b) (∀p∈L,p∈b) (∀(k j:Nat)u v,k<i->j<k->S[k]?=Ga u->S[j]?=Ga v->ip g u v->(u,v)∈b) (∀(o:Nat)u v,o<j->S[i]?=Ga u->S[o]?=Ga v->ip g u v->(u,v)∈b) (b.length<=3000+i*3000+j)
  refine⟨_,Xb,_,Xb,by lia,by lia,V6 (lo:=0) (n:=((0+(i:Int))).toNat) aL
   {ap,aq,m,n,h,l,Xb,q,x,I,O,Q,R,λo u v y=>by lia,by lia} ?_ ?_⟩
  .rintro j σ F hj ⟨Z,ae,m,n,h,l,rfl,q,x,I,O,Q,R,g6,g7⟩;have hj:j<i:=by lia
   subst_vars;obtain⟨v1,e1,t1⟩:=af.at (List.getElem?_eq_getElem hi);obtain⟨v2,e2,t2⟩:=af.at (List.getElem?_eq_getElem (show j<S.length by lia));and_intros;have tu:Q4 H F:=q.Qs ag (λxs z=>by cases z);have N2:Num P w F d S g:=hN.keep (λaJ y=>q _ _ y aI) tu;have az:=q _ _ an av;have m1:S[i]∈S:=List.getElem_mem _;have m2:S[j]∈S:=List.getElem_mem _;have q1:S[i]?=Ga S[i]:=List.getElem?_eq_getElem _;have q2:S[j]?=Ga S[j]:=List.getElem?_eq_getElem _;generalize S[i]=u1 at*;generalize S[j]=u2 at*;subst_vars;obtain⟨b1,w1,aN,aa,rfl,rfl,al,aw⟩:=(t1.Qs tu).inv;obtain⟨b2,w2,aO,ac,rfl,rfl,am,ax⟩:=(t2.Qs tu).inv;and_intros;have l1:=aw.length;have l2:=ax.length;have z1:=ao _ m1;have z2:=ao _ m2;simp only[Th.size]at z1 z2;have y1:=Ze aa;have y2:=Ze ac;exists _,Xb,_,Xb,C,Y,_,_,Xb,Xb,Za.of az,(by rw[DT];exact Qj e1);exists _,Xb,_,Xb,C,Y,_,_,Xb,Xb,Za.of az,(by rw[DT];exact Qj e2);exists _,Xb,b1,_,_,_,Xb,Xb,Q9.of al,Qj (j:=0) rfl,_,Xb,b2,_,_,_,Xb,Xb,Q9.of am,Qj (j:=0) rfl,Xb,_,Xb;rw[Zb];have ak:∀{m h l:Option V}{H3:Hp},Q6 F H3->¬ip g (.mk w1 aa) (.mk w2 ac)->iy λD b aR n aP aQ=>jW (s4 x0 x1 x2 x3 m x5 d x7 e C Gs (Ga (.int (0+(i:Int)))) (Ga (.int (0+(j:Int)))) h l T U=s4 x0 x1 x2 x3 aR x5 d x7 e C Gs (Ga (.int (0+(i:Int)))) n aP aQ T U) (Rf e H H3) (H3 e=Ga (.lst D)) (gV H3 D b) (Good tl S b) (∀p∈L,p∈b) (∀(k j:Nat)u v,k<i->j<k->S[k]?=Ga u->S[j]?=Ga v->ip g u v->(u,v)∈b) (∀(o:Nat)u v,o<j+1->S[i]?=Ga u->S[o]?=Ga v->ip g u v->(u,v)∈b) (b.length<=3000+i*3000+(j+1)):=λ{m h l H3}sm no=>by
    refine{Z,ae,_,_,_,_,Xb,q.trans (Rf.of sm),sm _ _ x,I.Qs (Q4.of sm),O,Q,R,λo u v y B X c=>?_,by lia};by_cases z:o=j
    .subst z;rw[q1]at B;rw[q2]at X;cases B;cases X;exact absurd c no
    .exact g6 o u v (by lia) B X c
   refine Uu (λc=>?_) (λc=>?_)
   .have c:w1=w2:=by simpa using c
    subst c;exists _,Xb,_,_,Xb,.inr {_,Q9.of al,Xb},_,Xb,_,_,Xb,.inr {_,Q9.of am,Xb},Xb,_,Xb;rw[Ux];refine Uu (λc2=>?_) (λc2=>?_)
    .refine{_,Xb,_,Xb,b1,_,Xb,Q9.of al,Wc _ _,λr hr=>?_};rw[gX];have s3:=Qf hr (.tup aN);refine{r,Xb,{_,Q9.of Qb},λp G=>?_};refine uI (K:=K) Qb (aw.same s3) (cl _ _ m1) (N2.same s3) G (by lia) λH4 aM aC=>?_;have ah:Q6 F H4:=s3.trans aM;refine{_,Xb,_,Xb,_,Xb,b2,_,Xb,Q9.of (ah _ _ am),Wc _ _,λr2 aG=>?_};rw[gX];have s5:=Qf aG (.tup aO);refine{r2,Xb,{_,Q9.of Qb},λp2 aF=>?_};refine uI (K:=K) Qb (ax.same (ah.trans s5)) (cl _ _ m2) (N2.same (ah.trans s5)) aF (by lia) λH6 s6 aD=>?_;have aA:Q6 H4 H6:=s5.trans s6;have ai:=ah.trans aA;exists .list ((aa.map g).map De),.list ((ac.map g).map De),.lst (aA _ _ aC) (Vb _),.lst aD (Vb _),by simp only[Td];exact Wr _,by simp only[Td];exact Wr _,?_,_,Xb
     .have:=Js (aa.map g);simp only[T5];lia
     have ev:Tg (.list ((aa.map g).map De)) (.list ((ac.map g).map De))=decide (aa.map g=ac.map g):=by simp only[Tg];exact mh _ _
     rw[ev];refine Uu (λW=>?_) (λW=>?_)
     .have W:=TC W;refine{_,Xb,.inl {Xb,_,Za.of (ai _ _ x)},_,Xb,_,Xb,by show 2<=Gj;decide,λab he=>?_};have s7:=Qf he (.tup [.ref b1,.ref b2]);have aj:=ai.trans s7;have lp:Z.length=ae.length:=Gq I;have ib:i*3000<=3000*3000:=D2 _ (by lia);exists e,Z,.ref ab,Xb,Xb,aj _ _ x,(by rw[GV];lia);have ar:Q4 F (zj (zj H6 ab (.tup [.ref b1,.ref b2])) e (.lst (Z++[.ref ab]))):=(Q4.of aj).trans (Z0 λxs z=>by rw[aj _ _ x]at z;cases z);have aH:ab≠e:=λz=>by rw[z,ai _ _ x]at he;cases he
      refine{Z++[.ref ab],ae++[(.mk w1 aa,.mk w1 ac)],_,_,_,_,Xb,λa aJ h1 J=>by rw[Qg J];exact aj _ _ (q _ _ h1 J),Qb,?_,?_,λp G=>List.mem_append_left _ (Q p G),λk j u v h1 J h3 h4 h5=>List.mem_append_left _ (R k j u v h1 J h3 h4 h5),λo u v y B X c=>?_,by rw[List.length_append,List.length_singleton];lia}
      .refine Yl (I.Qs ar) (.cons {ab,_,_,Xb,by rw[Qg aH];exact Qb,(t1.Qs tu).Qs ar,(t2.Qs tu).Qs ar} .nil)
      .intro p G;rcases List.mem_append.mp G with G|G
       .exact O p G
       .rw[List.mem_singleton]at G;subst G;exact{m1,m2,Af cl hS m1 m2 W}
      .by_cases z:o=j
       .subst z;rw[q1]at B;rw[q2]at X;cases B;cases X;exact List.mem_append_right _ List.mem_cons_self
       .exact List.mem_append_left _ (g6 o u v (by lia) B X c)
     .have W:=of_decide_eq_false (Sr.mpr W);refine ak ai ?_;rintro⟨w',ps,qs,z1,z2,z3⟩;cases z1;cases z2;exact W z3
    .refine ak (λ_ _ y=>y) ?_;rintro⟨w',ps,qs,z1,z2,z3⟩;cases z1;cases z2;have:=congrArg List.length z3;simp at this;simp at c2;lia
   .refine Q5 (ak (λ_ _ y=>y) ?_);have c:¬w1=w2:=by simpa using c
    rintro⟨w',ps,qs,z1,z2,z3⟩;cases z1;cases z2;exact c rfl
  .rintro σ F ⟨Z,ae,m,n,h,l,rfl,q,x,I,O,Q,R,g6,g7⟩;refine{Z,ae,_,_,_,_,_,Xb,q,x,I,O,Q,λk j u v h1 J h3 h4 h5=>?_,by lia};by_cases z:k=i
   .subst z;exact g6 j u v (by lia) h3 h4 h5
   .exact R k j u v (by lia) J h3 h4 h5
 .rintro σ H1 ⟨ap,aq,m,M,n,h,l,rfl,q,x,I,O,Q,R,g6⟩;refine kk _ _ {ap,aq,_,_,_,_,_,_,_,Xb,q,x,I,O,Q,λk j u v h1 J h3 h4=>R k j u v ?_ h1 J h3 h4};have:=(List.getElem?_eq_some_iff.mp J).1;lia
end
section
variable{P:Gg}{w:Gu}{K:Gd}{mg:Tb->Option Value}{base:Heap}{f:Gc}{cdv:Value}{A:TQ}{outer:List Fd}{s:Gk}{Hi:Hp}{E:XK}
theorem Ko{L:Th->Int}{c:List (Th×Th)}(h:∀(k j:Nat)u v,j<k->S[k]?=Ga u->S[j]?=Ga v->ip L u v->(u,v)∈c)(e:∀p∈c,L p.1=L p.2):
  ∀w a b,Th.mk w a∈S->Th.mk w b∈S->a.map L=b.map L->L (.mk w a)=L (.mk w b):=by
 intro w a b i l g;obtain⟨k,f⟩:=List.mem_iff_getElem?.mp i;obtain⟨j,d⟩:=List.mem_iff_getElem?.mp l;rcases L9 j k with z|z|z
 .exact e _ (h k j _ _ z f d ⟨w,a,b,Xb,Xb,g⟩)
 .subst z;rw[f]at d;cases d;rfl
 .exact(e _ (h j k _ _ z d f {w,b,a,Xb,Xb,g.symm})).symm
theorem Bm(aC:gN mg)(hu:(XC P w K mg base f cdv A outer s Hi E).A.units+64<DA):∃t,PS (XC P w K mg base f cdv A outer s Hi E) (cSt 7) t/\∀(j:Tl)(S:List Th)(ab:Th->Int)(d m u:Gc)(pq nv:List V)(O:List (Th×Th))(v:Hp)(Q R T U W:Option V)
  (hN:Num P w v d S ab)(af:v m=Ga (.lst pq))(ap:gV v pq O)(aa:v u=Ga (.lst nv))(am:Zr v nv S)(ai:u≠m)(hG:Good j S O)(hS:gM j S ab)(Z:∀w ps,Th.mk w ps∈S->∀p∈ps,p∈S)(aq:∀t∈S,t.size<=3000)(ah:S.length<=3000)(ao:O.length<=3000)
  (N:∀a e,(Gf,a,e)∈j->a∈S/\e∈S/\(a,e)∈O),
  Tr t
   (λσ H=>H=v/\∃M B D F G I J L,σ=s4 Q R T U M B d W m u Gf D F G I J L)
   (λσ H=>iN λL'=>jK (σ[6]?=Ga (Ga (.ref d))) (∀c b,v c=Ga b->c≠d->c≠m->H c=Ga b) (Num P w H d S L') (Tells j S L')):=by
 have nd:=Jd.nd;subst_vars;obtain⟨t1,aH,aJ⟩:=OV (P:=P) (w:=w) (K:=K) (mg:=mg) (base:=base) (f:=f) (cdv:=cdv) (A:=A) (outer:=outer) (s:=s) (Hi:=Hi) (E:=E) aC hu;obtain⟨t2,aI,aK⟩:=Ha (P:=P) (w:=w) (K:=K) (mg:=mg) (base:=base) (f:=f) (cdv:=cdv) (A:=A) (outer:=outer) (s:=s) (Hi:=Hi) (E:=E) hu;and_intros;exists _,Vd Gy (Yb (pv 10)) (Qc (Qz 10 nd Yf) (Qc aH (Qc aI (Qh (Qz 8 nd (Zu Qe))))));intro j S ab d m u pq nv O v Q R T U W hN af ap aa am ai hG hS Z aq ah ao N;rintro aM σ H ⟨rfl,M,B,D,F,G,I,J,L,rfl⟩ kk;obtain⟨od,ae⟩:=hN.at;have aN:d≠m:=λz=>by rw[z,af]at ae;cases ae
 have au:u≠d:=λz=>by rw[z,ae]at aa;cases aa
 exists λar σ x=>ot λr g o C q M B D F G I J L=>px (σ=s4 Q R T U M B d W o u r D F G I J L) (∀c b,H c=Ga b->c≠d->c≠m->x c=Ga b) (Num P w x d S g) (gM j S g) (x o=Ga (.lst C)) (gV x C q) (Good j S q) (q.length<=3000) (∀c b,H c=Ga b->c≠d->c≠m->c≠o) (∀a e,(Gf,a,e)∈j->(a,e)∈q\/g a=g e) (ar=(if r=Gf then dis S g+1 else 0)) (r=Gs->Rr j S g),
  {_,Gf,ab,m,pq,O,_,_,_,_,_,_,_,_,Xb,λc b i _ _=>i,hN,hS,af,ap,hG,ao,(λ_ _ _ _ h=>h),λa e h=>.inl (N a e h).2.2,Xb,λz=>by cases z}
 rintro ar σ x ⟨r,g,o,C,q,M,B,D,F,G,I,J,L,rfl,kp,ac,ak,g1,g2,g3,g4,g5,g6,rfl,g7⟩;exists _,Xb,r,Xb;cases r with
 |false=>refine Q5 (kk _ _ {g,Xb,kp,ac,g7 Xb,ak})
 |true=>
  refine Yp {λaB X=>∃m',m'<dis S g+1/\ot λr g o C q M B D F G I J L=>px (aB=s4 Q R T U M B d W o u r D F G I J L) (∀c b,H c=Ga b->c≠d->c≠m->X c=Ga b) (Num P w X d S g) (gM j S g) (X o=Ga (.lst C)) (gV X C q) (Good j S q) (q.length<=3000) (∀c b,H c=Ga b->c≠d->c≠m->c≠o) (∀a e,(Gf,a,e)∈j->(a,e)∈q\/g a=g e) (m'=(if r=Gf then dis S g+1 else 0)) (r=Gs->Rr j S g),λaB X h=>h,?_};have av:=kp _ _ aa au ai;have aw:u≠o:=g5 _ _ aa au ai;have aL:Q4 H x:=λc xs i=>kp c _ i (λz=>by rw[z,ae]at i;cases i) (λz=>by rw[z,af]at i;cases i);have ax:=am.Qs aL;have aE:d≠o:=λz=>by obtain⟨b,ho⟩:=ac.at;rw[z,g1]at ho;cases ho
  refine aJ j S g d o u C nv q x Q R T U B W ac g1 g2 av ax aw g3 ak Z aq ah g4 _ _ _ {Xb,_,_,_,_,_,_,_,Xb} ?_;rintro a0 H2 ⟨aG,ay,y4,aO,aP,aQ,aR,aS,aT,rfl,ad,a1,a2,a3,a4,a5⟩;have aA:Q4 x H2:=ad.Qs g1 (λxs z=>by cases z);have N2:Num P w H2 d S g:=ac.keep (λb h=>ad _ _ h aE) aA;have aF:=ad _ _ av aw;refine aK j S g d o u aG nv ay H2 Q R T U W N2 a1 a2 aF (ax.Qs aA) a3 ak ah _ _ _ {Xb,_,_,_,_,_,_,_,_,Xb} ?_;rintro a6 H3 ⟨g',Y,z4,z5,aU,aV,aW,aX,aY,aZ,rfl,aD,N3,az,al,b1,y,b3⟩;refine{Gz _,λp k=>?_};have ag:=Qf k (.lst []);have aj:∀c b,H c=Ga b->c≠d->c≠m->H3 c=Ga b:=λc b i l n=>aD c b (ad c b (kp c b i l n) (g5 c b i l n)) l;have an:∀c b,H c=Ga b->c≠d->c≠m->c≠p:=λc b i l n z=>by rw[<-z,aj c b i l n]at k;cases k
  have told:∀a e,(Gf,a,e)∈j->Y a=Y e:=λa e h=>by
   rcases g6 a e h with z|z
   .exact b1 _ (a4 _ z)
   .exact al a (N a e h).1 e (N a e h).2.1 z
  cases g' with
  |false=>
   have y:=y rfl;have e1:∀p∈ay,g p.1=g p.2:=λp k=>by rw[<-y _ (a3 p k).1,<-y _ (a3 p k).2.1];exact b1 p k
   have cg:=Ko a5 e1;refine{0,by lia,Gs,Y,p,[],[],_,_,_,_,_,_,_,_,Xb,λc b i l n=>ag _ _ (aj c b i l n),N3.same ag,az,Qb,.nil,(λp k=>nomatch k),Gz _,an,λa e h=>.inr (told a e h),Xb,λ_=>{Z,λa e h=>{(N a e h).1,(N a e h).2.1,told a e h},λw ps qs l n i=>?_}};rw[y _ l,y _ n];refine cg w ps qs l n ?_;rw[<-List.map_congr_left λp k=>y p (Z _ _ l p k),<-List.map_congr_left λp k=>y p (Z _ _ n p k)];exact i
  |true=>have:=Hj al (b3 Xb);exact{dis S Y+1,by lia,Gf,Y,p,[],[],_,_,_,_,_,_,_,_,Xb,λc b i l n=>ag _ _ (aj c b i l n),N3.same ag,az,Qb,.nil,(λp k=>nomatch k),Gz _,an,λa e h=>.inr (told a e h),Xb,λz=>by cases z}
end
theorem Jt{T:List Th}(h:Zr H xs (T++[t])):∃a x,xs=a++[x]/\Zr H a T/\Zv H x t:=by
 induction T generalizing xs with
 |nil=>
  cases h with
  |cons b c=>cases c;exact{[],_,Xb,.nil,b}
 |cons y r d=>
  cases h with
  |cons b c=>obtain⟨a,x,e,f,g⟩:=d c;exact{_::a,x,by rw[e];rfl,.cons b f,g}
theorem Yz:∀a b:List Th,Qx (a++b)=Qx a+Qx b
 |[],b=>by simp[Qx]
 |x::a,b=>by simp only[List.cons_append,Qx,Yz a b];lia
theorem Vj:∀(l:List Th)(i:Nat),Qx (l.take i)<=Qx l
 |[],i=>by simp
 |x::l,0=>by simp[Qx]
 |x::l,i+1=>by have:=Vj l i;simp only[List.take_succ_cons,Qx];lia
def Iu(tl:Tl):List Th:=tl.flatMap λp=>[p.2.1,p.2.2]
theorem qy:∀a:Tl,Qx (Iu a)=Qx (a.map (·.2.1))+Qx (a.map (·.2.2))
 |[]=>by simp[Iu,Qx]
 |p::r=>by have:=qy r;unfold Iu at this⊢;simp only[List.flatMap_cons,List.map_cons,List.cons_append,List.nil_append,Qx]at this⊢;lia
theorem oE:t∈Iu tl↔∃p∈tl,t=p.2.1\/t=p.2.2:=by unfold Iu;simp[List.mem_flatMap]
theorem Ju:∀a:List D4,Ts a []=a.isEmpty
 |[]=>by simp[Ts]
 |_::_=>by simp[Ts]
theorem za(b:Bool):(tw b==("same":Tb))=b:=by cases b<;>decide+kernel
theorem wY(a:Tl)(i:Nat)(b:Bool)(u v:Th)(h:a[i]?=Ga (b,u,v)):Rn (a.take (i+1))=Rn (a.take i)++(if b then[(u,v)]else[]):=by unfold Rn;rw[List.take_add_one,h,List.filter_append,List.map_append];cases b<;>rfl
theorem Da(a:Tl):(Rn a).length<=a.length:=by unfold Rn;rw[List.length_map];exact List.length_filter_le _ _
section
variable{P:Gg}{w:Gu}{K:Gd}{mg:Tb->Option Value}{base:Heap}
theorem IR(F:We K "_law_classes" "_law_classes" Vv f fd)(aj:gN mg):Qy P w K mg base Z5 1 f fd ["_law_told","_law_things"] (xN P w):=by
 refine F.ok Jd (λvs C a0 E b=>?_) (λcdv A outer s C vs a0 E hr b=>?_)
 .obtain⟨a,ai,us,ar,k,M,rfl,_⟩:=b;rfl
 obtain⟨a,ai,us,ar,k,M,rfl,ha,ay,hb,a1,aQ,aP,bf,q⟩:=b;have L:=Jd.nd;have hu:=hr.units;obtain⟨t7,a5,a6⟩:=Bm (P:=P) (w:=w) (K:=K) (mg:=mg) (base:=base) (f:=f) (cdv:=cdv) (A:=A) (outer:=outer) (s:=s) (Hi:=C) (E:=E) aj hu;exists _,(Qc (Qz 2 L (Xm Ve rfl aj.list Tt (Qa (pv 1) Qe)))
  (Qc (Z6 Gy rfl (Yg (pv 0)) (Vx rfl (Zn (Zz 3 L) (Zn (Zz 4 L) (Zn (Zz 5 L) Wm))))
  (Qh (Qz 2 L (Zt V0 (pv 2) (Zu (Qa (pv 4) (Qa (pv 5) Qe)))))))
  (Qc (V1 (i:=6) L rfl (DJ Xb) Ii)
  (Qc (Vd Gy (Qn (jq hu) (pv 2) (Zu Qe) (Qr _))
  (Qc (Qz 7 L (jx Gv DB DC jr (pv 2)))
  (Qh (Q8 (Qn (uD hu) (pv 7) (pv 6) rfl)
  (Qc (Rt (Qp Ax rfl aj.len Gx (Qa (pv 6) Qe)) (jJ (pv 6) (pv 7) (jA hu)))
  (Qh (Qz 2 L (Zt V0 (pv 2) (Xm Ve rfl aj.list Tt (Qa (Yc Vy (pv 7) (Yk Qi) Xo) Qe)))))) Qv))))
  (Qc (Ue (i:=8) (own:=["_law_deed"]) (fv:=[]) L rfl rfl rfl (S:=(by eq_refl:Xy (Ql Vv) _)) .nil (Yg (pv 0))
   (λ_ _ _ _ _=>Xc (i:=0) (nd1 _) rfl (T3 Xb) (DJ Xb)) (λ_ _ _ _ _=>Ox (Qn Xn (Qm (r:=iW K) Qo (pv 0) Qi) Zk (Qr _))) (λ_ _ _ _ _=>Yc (r:=yn K) Vy (pv 0) (Yk Qi) Xo))
  (Qc (Qz 9 L (Xm (z0 Xb) rfl aj.list Tt (Qa (pv 6) Qe)))
  (Qc (Qz 10 L Yf)
  (Qc a5
  (Qh (Qt (pv 6)))))))))))
 have aR:us.length=k.length:=Gq ay;have bg:k.length<=3000:=by have:=Ze (k.map (·.2.1));rw[List.length_map]at this;lia
 refine{_,Xb,ai,ar,Xb,.inl (Za.of hb),λg U=>?_};have s1:=Qf U (.lst ar);let a3:Nat->St->Hp->Prop:=λi D H1=>iL λ(g:Gc)(xs:List V)(x3 x4 x5:Option V)=>iZ (D=[Ga (.ref a),Ga (.ref ai),Ga (.ref g),x3,x4,x5,Gh,Gh,Gh,Gh,Gh,Gh,Gh,Gh,Gh,Gh,Gh]) (Q6 C H1) (C g=Gh) (H1 g=Ga (.lst xs)) (Zr H1 xs (M++Iu (k.take i)))
 refine⟨_,Xb,a,Xb,{_,Za.of (s1 _ _ ha)},Y9 (K:=K) (a:=a) (xs:=us) a3
  {g,ar,_,_,_,Xb,s1,U,Qb,by simp[Iu];exact a1.same s1} (by rintro i D H1 _ ⟨_,_,_,_,_,_,Z,_⟩;exact Za.of (Z _ _ ha)) ?_ ?_⟩
 .rintro i x D H1 hi ⟨g,xs,x3,x4,x5,rfl,Z,U,H,I⟩;subst_vars;obtain⟨⟨bb,u1,u2⟩,eu,a',v1,v2,rfl,aw,t1,t2⟩:=Qw ay hi;and_intros;exists a',_,Xb,Q9.of (Z _ _ aw),Xb,_,_,Xb,_,_,Xb,_,_,Xb,Xb;refine{_,Xb,_,Xb,_,Xb,by show 2<=Gj;decide,λc N=>?_};have W:=Qf N (.lst [v1,v2]);have lx:=I.length;have T:=Ze (M++Iu (k.take i));have b2:Qx (M++Iu (k.take i))<=3000:=by have u:=qy (k.take i);have O:=Vj (k.map (·.2.1)) i;have R:=Vj (k.map (·.2.2)) i;rw[List.map_take,List.map_take]at u;rw[Yz];lia
  refine{g,c,xs,[v1,v2],Xb,Xb,W _ _ H,Qb,small (by show xs.length+2<=_;lia),λn Q=>?_};have B:=Qf Q (.lst (xs++[v1,v2]));have m:=(Z.trans W).trans B;exists n,xs++[v1,v2],_,_,_,Xb,m,(Z.trans W).free Q,Qb;have e:M++Iu (k.take (i+1))=(M++Iu (k.take i))++[u1,u2]:=by unfold Iu;rw[List.take_add_one,eu,List.flatMap_append,List.append_assoc];rfl
  rw[e];exact((I.same W).same B).append (.cons (t1.same m) (.cons (t2.same m) .nil))
 rintro D H1 ⟨g,xs,x3,x4,x5,rfl,Z,U,H,I⟩;rw[aR,List.take_length]at I;have aN:∀t∈M++Iu k,t.ok=Gf/\t.depth<=8:=λt h=>by
  rcases List.mem_append.mp h with b|b
  .exact aQ t b
  .obtain⟨p,o,e⟩:=oE.mp b;rcases e with rfl|rfl
   .exact(aP p o).1
   .exact(aP p o).2
 have aT:Qx (M++Iu k)<=3000:=by rw[Yz,qy];lia
 have a7:∀t∈M++Iu k,t∈M++Iu k:=λt b=>b;generalize aO:M++Iu k=T0 at I aN aT a7;intro d hd;have ax:C d=Gh:=Z.free hd;have W:=Qf hd (V5 P w d []);have ac:g≠d:=Qd H hd;exists λaS D G=>iy λ(g:Gc)(xs:List V)(l S:List Th)(v:Th->Int)(x7:Option V)=>qA (D=[Ga (.ref a),Ga (.ref ai),Ga (.ref g),x3,x4,x5,Ga (.ref d),x7,Gh,Gh,Gh,Gh,Gh,Gh,Gh,Gh,Gh]) (Q6 C G) (C g=Gh) (g≠d) (G g=Ga (.lst xs)) (Zr G xs l) (Num P w G d S v) (∀x∈S,∀y∈S,v x=v y->x=y) (∀x∈S,v x<S.length) (∀w j,Th.mk w j∈S->∀p∈j,p∈S\/p∈l) (∀t∈T0,t∈S\/t∈l) (∀t∈l,t.ok=Gf/\t.depth<=8) (aS=Qx l) (S.length+Qx l<=3000) (∀t∈S,t.size<=3000),
  {_,g,xs,T0,[],λ_=>0,_,Xb,Z.trans W,U,ac,W _ _ H,I.same W,{{[],Qb,(λp o=>nomatch o),Xb,(λt h=>nomatch h)},(λt h=>nomatch h)},(λt h=>nomatch h),(λt h=>nomatch h),(λ_ _ h=>nomatch h),λt h=>.inr h,aN,Xb,by simpa using aT,(λt h=>nomatch h)}
 clear H I U ac W;rintro aS D G ⟨g,xs,l,S,v,x7,rfl,aU,U,ac,H,I,aM,az,aq,cl,X,aA,rfl,sz,aB⟩;have lx:=I.length;have lT:=Ze l;refine{_,Xb,Gz _,λz hz=>?_};have s4:=Qf hz (.lst []);have be:g≠z:=Qd H hz;have a2:okL l=Gf:=by rw[V4,List.all_eq_true];exactλt h=>(aA t h).1
 exists .list (Wa l),.list [],.lst (s4 _ _ H) (I.same s4).dts,.lst Qb .nil,by simp only[Td];exact Od l a2,by simp[Td,GO],?_,_,Xb
 .simp only[T5,Tu];lia
 have ev:Tg (.list (Wa l)) (.list [])=l.isEmpty:=by
  simp only[Tg];rw[Ju];cases l with
  |nil=>simp[Wa]
  |cons t r=>simp[Wa]
 rw[ev];rcases List.eq_nil_or_concat l with rfl|⟨Tr,t,eT⟩
 ·
  refine Q5 ?_;have cl:∀w j,Th.mk w j∈S->∀p∈j,p∈S:=λw j b p o=>(cl w j b p o).resolve_right (by simp);have X:∀t∈T0,t∈S:=λt b=>(X t b).resolve_right (by simp);have R:=aU.trans s4;have N3:=aM.same s4;generalize zj G z (.lst [])=H3 at R N3⊢;refine{_,Xb,a,Xb,{_,Za.of (R _ _ ha)},λp o=>?_};have sp:=Qf o (.lst []);have aV:C p=Gh:=R.free o;refine Ip (K:=K) (a:=a) (xs:=us) (small (by lia)) (λi T D u=>(∃x0,D=[x0])/\Q6 H3 u/\gV u T (Rn (k.take i))) {{_,Xb},sp,by simp[Rn];exact .nil} (by rintro i T D u _ ⟨_,m,_⟩;exact Za.of (m _ _ (R _ _ ha))) ?_ ?_
  .rintro i x T D u hi ⟨⟨x0,rfl⟩,m,gp⟩ B;subst_vars;obtain⟨⟨bb,u1,u2⟩,eu,a',v1,v2,rfl,aw,t1,t2⟩:=Qw ay hi;and_intros;have aa:=R.trans m;have a4:=aa _ _ aw;exists _,Xb,a',_,_,_,Xb,Xb,Q9.of a4,Qj (j:=0) rfl,Xb,_,Xb;rw[Zb,za];cases bb with
   |true=>
    refine Yp ?_;refine{_,Xb,_,Xb,a',_,Xb,Q9.of a4,Wc _ _,λr hr=>?_};rw[gX];have N:=Qf hr (.tup [v1,v2]);have av:r≠p:=λz=>by rw[z,B]at hr;cases hr
    have O:Q4 u (zj (zj u r (.tup [v1,v2])) p (.lst (T++[.ref r]))):=(Q4.of N).trans (Z0 λxs e=>by rw[N _ _ B]at e;cases e);exists N _ _ B,{_,Xb},λc Y e=>?_
    .rw[Qg (Qd e o)];exact N _ _ (m _ _ e)
    .rw[wY k i Gf u1 u2 eu];exact Yl (gp.Qs O) (.cons {r,v1,v2,Xb,by rw[Qg av];exact Qb,(t1.same aa).Qs O,(t2.same aa).Qs O} .nil)
   |false=>refine Q5 {B,{_,Xb},m,?_};rw[wY k i Gs u1 u2 eu];simpa using gp
  .rintro T D u ⟨_,m,gp⟩ B;rw[aR,List.take_length]at gp;have N4:=N3.same m;obtain⟨ap,dh,lk,an⟩:=N4.names;refine{_,Xb,d,ap,Xb,dh,λn Q=>?_};have O:=Qf Q (.lst (ap.map λp=>V.ref p.2.1));have N:∀x∈k,x.2.1∈S/\x.2.2∈S:=λx J=>by rw[<-aO]at X;exact{X _ (List.mem_append_right _ (oE.mpr {x,J,.inl Xb})),X _ (List.mem_append_right _ (oE.mpr {x,J,.inr Xb}))}
   refine a6 k S v d p n T _ (Rn k) _ _ _ _ _ _ (N4.same O) (O _ _ B) (gp.Qs (Q4.of O)) Qb (an.same O) (Gn (Qd B Q)) ?_ ?_ cl aB (by lia) (by have:=Da k;lia) ?_ _ _ _ {Xb,_,_,_,_,_,_,_,_,Xb} ?_
   .rintro⟨x,y⟩ ab;have b:=yu.mp ab;exact{(N _ b).1,(N _ b).2,.told b}
   .intro x J y hy e;rw[az x J y hy e];exact .refl _
   .intro x y b;exact{(N _ b).1,(N _ b).2,yu.mpr b}
   .rintro aW H7 ⟨L7,h6,kp,N7,T7⟩;refine{_,h6,q d S L7 H7 (λc Y e=>?_) ax N7 T7 (λt h=>X t (by rw[<-aO];exact List.mem_append_left _ h)) N};exact kp c Y (O _ _ (m _ _ (R _ _ e))) (Qd e ax) (Qd e aV)
 .have eT:l=Tr++[t]:=by simpa using eT
  subst eT;have aZ:(Tr++[t]).isEmpty=Gs:=by cases Tr<;>rfl
  rw[aZ];refine Yp ?_;subst_vars;obtain⟨u,x,rfl,k1,k2⟩:=Jt I;and_intros;have am:Qx (Tr++[t])=Qx Tr+t.size:=by rw[Yz];simp[Qx]
  rw[am]at sz;have bd:=Ig t;obtain⟨ae,ak⟩:=aA t (by simp);exists λaF R=>∃m',m'<Qx (Tr++[t])/\iy λ(g:Gc)(xs:List V)(l S:List Th)(v:Th->Int)(x7:Option V)=>qA (aF=[Ga (.ref a),Ga (.ref ai),Ga (.ref g),x3,x4,x5,Ga (.ref d),x7,Gh,Gh,Gh,Gh,Gh,Gh,Gh,Gh,Gh]) (Q6 C R) (C g=Gh) (g≠d) (R g=Ga (.lst xs)) (Zr R xs l) (Num P w R d S v) (∀x∈S,∀y∈S,v x=v y->x=y) (∀x∈S,v x<S.length) (∀w j,Th.mk w j∈S->∀p∈j,p∈S\/p∈l) (∀t∈T0,t∈S\/t∈l) (∀t∈l,t.ok=Gf/\t.depth<=8) (m'=Qx l) (S.length+Qx l<=3000) (∀t∈S,t.size<=3000),λaF R b=>b;have aY:(u++[x])[(u++[x]).length - 1]?=Ga x:=by simp
  exists _,Xb,.inl {Xb,_,Za.of (s4 _ _ H)},g,_,_,Xb,Xb,s4 _ _ H,aY;rw[List.dropLast_concat];have ad:Rf g G (zj (zj G z (.lst [])) g (.lst u)):=λc Y e b=>by rw[Qg b];exact s4 _ _ e
  have l5:(zj (zj G z (.lst [])) g (.lst u)) g=Ga (.lst u):=Qb;generalize zj (zj G z (.lst [])) g (.lst u)=T at ad l5⊢;have t5:Q4 G T:=ad.Qs H (λxs e=>by cases e);have aE:Q6 C T:=λc Y e=>ad c Y (aU _ _ e) (Qd e U);have N5:Num P w T d S v:=aM.keep (λY b=>ad _ _ b (Gn ac)) t5;have k1:=k1.Qs t5;have k2:=k2.Qs t5;subst_vars;obtain⟨b0,N,O,j,rfl,rfl,aX,aC⟩:=k2.inv;and_intros;refine{_,Xb,_,Xb,N5.Aj ae ak k2 {_,Xb,?_}};have aD:∀t∈Tr,t.ok=Gf/\t.depth<=8:=λt h=>aA t (List.mem_append_left _ h);refine Uu (λc=>?_) (λc=>?_)
  .have c:¬Th.mk N j∈S:=by simpa using c
   obtain⟨ap,dh,lk,_⟩:=N5.names;refine{_,Xb,d,ap,Xb,dh,_,Xb,_,Xb,N5.add (by lia) c ae ak k2 λH6 aG N6=>?_};have b6:Rf d T H6:=aG;obtain⟨o5,aI⟩:=N5.at;have ah:Q4 T H6:=b6.Qs aI (λxs e=>by cases e);have au:Q6 C H6:=λc Y e=>b6 c Y (aE _ _ e) (Qd e ax);have l6:=b6 _ _ l5 ac;have aQ:(Th.mk N j).size=Qx j+1:=by simp only[Th.size]
   have ba:=aC.length;have a9:=Ze j;have bc:=k1.length;have a8:=Ze Tr;refine{_,Xb,_,Xb,_,Xb,b0,_,Xb,Q9.of (ah _ _ aX),Wc _ _,λr aK=>?_};rw[gX];have s7:=Qf aK (.tup O);refine{r,O,Xb,.inr (Q9.of Qb),λl2 aH=>?_};have s8:=Qf aH (.lst O);refine{g,l2,u,O,Xb,Xb,s8 _ _ (s7 _ _ l6),Qb,small (by lia),λn Q=>?_};have s9:=Qf Q (.lst (u++O));have af:=s7.trans s8;have ag:=af.trans s9;obtain⟨o6,aJ⟩:=N6.at;have aL:∀p∈j,p.ok=Gf/\p.depth<=8:=λp o=>by
    have m:okL j=Gf:=by simp only[Th.ok,Tn]at ae;exact ae.2
    rw[V4,List.all_eq_true]at m;have B:=Wd o;simp only[Th.depth]at ak;exact{m p o,by lia}
   exists Qx (Tr++j),?_,n,u++O,Tr++j,S++[Th.mk N j],_,_,Xb,au.trans ag,(au.trans af).free Q,?_,Qb,?_,N6.same ag,?_,?_,?_,?_,?_,Xb,?_
   .rw[am,Yz];lia
   .exactλz=>by rw[z,af _ _ aJ]at Q;cases Q
   .exact((k1.Qs ah).append (aC.Qs ah)).same ag
   .intro x J y hy e;rw[List.mem_append,List.mem_singleton]at J hy;by_cases m:x=Th.mk N j
    .by_cases B:y=Th.mk N j
     .rw[m,B]
     .rw[Gp m,Gi B]at e;have:=aq y (hy.resolve_right B);lia
    .by_cases B:y=Th.mk N j
     .rw[Gi m,Gp B]at e;have:=aq x (J.resolve_right m);lia
     .rw[Gi m,Gi B]at e;exact az x (J.resolve_right m) y (hy.resolve_right B) e
   .intro x J;rw[List.mem_append,List.mem_singleton]at J;rw[List.length_append,List.length_singleton];by_cases m:x=Th.mk N j
    .rw[Gp m];lia
    .rw[Gi m];have:=aq x (J.resolve_right m);lia
   .intro w' ao b p o;rcases List.mem_append.mp b with b|b
    .rcases cl w' ao b p o with z|z
     .exact .inl (List.mem_append_left _ z)
     .rcases List.mem_append.mp z with z|z
      .exact .inr (List.mem_append_left _ z)
      .exact .inl (List.mem_append_right _ z)
    .rw[List.mem_singleton]at b;cases b;exact .inr (List.mem_append_right _ o)
   .intro t h;rcases X t h with z|z
    .exact .inl (List.mem_append_left _ z)
    .rcases List.mem_append.mp z with z|z
     .exact .inr (List.mem_append_left _ z)
     .exact .inl (List.mem_append_right _ z)
   .intro t h;rcases List.mem_append.mp h with z|z
    .exact aD t z
    .exact aL t z
   .rw[Yz,List.length_append,List.length_singleton];lia
   .intro t h;rcases List.mem_append.mp h with z|z
    .exact aB t z
    .rw[List.mem_singleton]at z;rw[z];lia
  .have c:Th.mk N j∈S:=by simpa using c
   refine{Qx Tr,by rw[am];lia,g,u,Tr,S,v,_,Xb,aE,U,ac,l5,k1,N5,az,aq,λw' ao b p o=>?_,λt h=>?_,aD,Xb,by lia,aB}
   .rcases cl w' ao b p o with z|z
    .exact .inl z
    .rcases List.mem_append.mp z with z|z
     .exact .inr z
     .rw[List.mem_singleton]at z;rw[z];exact .inl c
   .rcases X t h with z|z
    .exact .inl z
    .rcases List.mem_append.mp z with z|z
     .exact .inr z
     .rw[List.mem_singleton]at z;rw[z];exact .inl c
end
theorem Hz(i:Int)(a:0<=i)(a:i<26):∃c:Nat,atI (("abcdefghijklmnopqrstuvwxyz":Tb).cps.toList) i=Ga c/\c<0x110000:=by
 have d:(("abcdefghijklmnopqrstuvwxyz":Tb).cps.toList).length=26:=by decide+kernel
 have b:∀c∈(("abcdefghijklmnopqrstuvwxyz":Tb).cps.toList),c<0x110000:=by decide+kernel
 have a:i.toNat<(("abcdefghijklmnopqrstuvwxyz":Tb).cps.toList).length:=by rw[d];lia
 have e:i=((i.toNat:Nat):Int):=by lia
 have q:=Qj (List.getElem?_eq_getElem a);rw[<-e]at q;exact{_,q,b _ (List.getElem_mem a)}
theorem HY{c:Nat}{x:Tb}(b:c<0x110000)(h:TR x=Gf):TR ((⟨#[c]⟩:Tb)++x)=Gf:=by show((#[c]++x.cps).all (·<0x110000))=Gf;have a:x.cps.all (·<0x110000)=Gf:=h;rw[Array.all_append,a];simp[b]
theorem Bz{c:Nat}{x:Tb}:((⟨#[c]⟩:Tb)++x).length=x.length+1:=by show(#[c]++x.cps).size=x.cps.size+1;simp;lia
theorem CQ{l:Int}(b:1<=l)(h:l*2^k<=10^39):k<130:=by
 rcases Tp k 130 with a|a
 .exact a
 .exfalso;have e:(2:Int)^130<=2^k:=by
   have:(2:Nat)^130<=2^k:=Nat.pow_le_pow_right (by decide) a
   exact_mod_cast this
  have d:(2:Int)^k<=l*2^k:=by have c:(0:Int)<=2^k:=M7 (Nv (by decide));have:=ER b c;simpa using this
  have f:(10:Int)^39<2^130:=by decide
  lia
theorem KS{l:Int}(a:1<=l / 26 - 1)(h:l*2^k<=10^39):(l / 26 - 1)*2^(k+1)<=10^39:=by
 have a:(0:Int)<2^k:=Nv (by decide);have e:(l / 26 - 1)*2^(k+1)=((l / 26 - 1)*2)*2^k:=by rw[Int.pow_succ];ac_rfl
 rw[e];have:(l / 26 - 1)*2<=l:=by lia
 have:=ER this (M7 a);lia
section
variable{P:Gg}{w:Gu}{K:Gd}{mg:Tb->Option Value}{base:Heap}
theorem kO:Q3 ["_law_cell","_law_left","_law_word"] ["_law_cell"] (Ql jg):=by eq_refl
theorem CG(F:We K "_law_any_word" "_law_any_word" jg f fd)(G:mg "abs"=Gh):Qy P w K mg base Z5 1 f fd ["_law_cell"] sj:=by
 refine F.ok kO (λI H Q E h=>?_) (λC A i s H I Q E S h=>?_)
 .obtain⟨n,rfl,_⟩:=h;rfl
 obtain⟨n,rfl,q⟩:=h;show∃t,Ia ?my _ t/\_;let N:Xk ?my jg 3:={_,Qh (Qt (pv 2))}
 let M:Xk ?my jg 2:=⟨_,Qc (Vd Gy (Qn jU (pv 1) Qi (Qr _))
   (Qc (V1 (i:=2) kO.nd rfl (T3 Xb) (Zt HW (Qm PZ Zk (Zt Va (pv 1) Qi)) (pv 2)))
   (Qh (V1 (i:=1) kO.nd rfl (T3 Xb) (Zt jz (Zt W9 (pv 1) Qi) Qi))))) N.2⟩
 let J:Xk ?my jg 1:={_,Qc (V1 (i:=2) kO.nd rfl (T3 Xb) Zk) M.2}
 exists _,Qc (V1 (i:=1) kO.nd rfl (T3 Xb) (Zt Va (Qp AD rfl G Nb (Qa (pv 0) Qe)) (Zt uU Qi Qi))) J.2;exists _,Xb,n,Xb,_,_,Xb,Xb,{by decide,by decide,by decide},_,_,Xb,Xb,(by show(0:Int)<10^DO 39;decide);have y:0<=(if n<0 then -n else n) % (10:Int)^(DO 39):=TW _ (by decide);have B:(if n<0 then -n else n) % (10:Int)^(DO 39)<10^39:=TJ _ (by decide);exists λm v e=>jV λ(l:Int)(x:Tb)=>hB (v=[Ga (.int n),Ga (.int l),Ga (.str x)]) (e=H) (-1<=l) (m=(l+1).toNat) (TR x=Gf) (1<=l->l*2^x.length<=10^39) (0<=l->x.length<=131) (x.length<=132),
  {_,(if n<0 then -n else n) % (10:Int)^(DO 39),"",Xb,Xb,Int.le_trans (by decide) y,Xb,by decide+kernel,λ_=>?_,λ_=>by decide+kernel,by decide+kernel}
 .have:(("":Tb).length)=0:=by decide+kernel
  rw[this];generalize (if n<0 then -n else n) % (10:Int)^(DO 39)=L at B⊢;ext
 rintro m v e ⟨l,x,rfl,rfl,O,rfl,p,r,u,R⟩;exists _,Xb,_,_,Xb,Xb,_,Xb;refine Uu (λc=>?_) (λc=>?_)
 .have k:0<=l:=TC c;exists λd j=>iN λb=>jK (d=[Ga (.int n),Ga (.int (l / 26 - 1)),Ga (.str b)]) (j=e) (TR b=Gf) (b.length=x.length+1),?_
  .rintro d j ⟨b,rfl,rfl,g,a⟩;exists _,?_,l / 26 - 1,b,Xb,Xb,by ext,Xb,g,λz=>?_,λz=>?_
   .ext
   .rw[a];exact KS z (r (by ext))
   .rw[a];have:=CQ (k:=x.length) (l:=l) (by ext) (r (by ext));ext
   .rw[a];have:=u k;ext
  .obtain⟨o,g,a⟩:=Hz (l % 26) (TW _ (by decide)) (TJ _ (by decide));exists _,Xb,_,_,Xb,Xb,(by show(0:Int)<26;decide),_,_,o,Xb,Xb,by decide+kernel,g,_,Xb,_,_,Xb,Xb,?_
   .have D:((⟨#[o]⟩:Tb).length)=1:=rfl;have:=u k;rw[GV,D];ext
   .exists _,Xb,_,_,Xb,Xb,{by decide,by decide},_,_,Xb,Xb;exact{_,Xb,Xb,HY a p,Bz}
 .exact{_,Xb,q x (by unfold Ro;rw[p,Gw (by ext)];rfl)}
end
def TT(b:Bool):String:=if b then"list"else"tuple"
theorem J0{a:List V}(b:H p=Gh)(h:Zr H a ps):Zv (zj H p (.tup (.str w::a))) (.ref p) (.mk w ps):=.mk Qb (h.same (Qf b _))
structure jE(t u:Th)(r:Th):Prop where
 ok:t.ok=Gf->u.ok=Gf->r.ok=Gf
 dep:r.depth<=max t.depth u.depth+1
 siz:r.size<=t.size+u.size+2
 sh:t.short=Gf->u.short=Gf->r.short=Gf
 pts:∀p∈r.parts,p=t\/p=u\/p=.mk "tab" []
theorem va(hw:Ro w=Gf):jE t u (.mk w [t]):={λa _=>by simp[Th.ok,okL,Ro.str hw,a],by simp only[Th.depth,Wz];lia,by simp only[Th.size,Qx];lia,λa _=>by simp[Th.short,jI,Ro.len hw,a],λp b=>by simp only[Th.parts,List.mem_cons,List.not_mem_nil,Sg]at b;exact .inl b}
theorem nY(hw:Ro w=Gf):jE t u (.mk w [t,u]):={λa b=>by simp[Th.ok,okL,Ro.str hw,a,b],by simp only[Th.depth,Wz];lia,by simp only[Th.size,Qx];lia,λa b=>by simp[Th.short,jI,Ro.len hw,a,b],λp c=>by simp only[Th.parts,List.mem_cons,List.not_mem_nil,Sg]at c;exact c.elim .inl (λh=>.inr (.inl h))}
theorem HD(hw:Ro w=Gf)(d:Ro "tab"=Gf):jE t u (.mk w [t,u,.mk "tab" []]):={λa b=>by simp[Th.ok,okL,Ro.str hw,Ro.str d,a,b],by have:=oO t;simp only[Th.depth,Wz];lia,by simp only[Th.size,Qx];lia,λa b=>by simp[Th.short,jI,Ro.len hw,Ro.len d,a,b],λp c=>by simp only[Th.parts,List.mem_cons,List.not_mem_nil,Sg]at c;exact c}
theorem vD(hw:Ro w=Gf):jE t u (.mk w []):={λa b=>by simp[Th.ok,okL,Ro.str hw],by simp only[Th.depth,Wz];ext,by simp only[Th.size,Qx];ext,λa b=>by simp[Th.short,jI,Ro.len hw],λp c=>by simp[Th.parts]at c}
inductive m9(H:Hp)(l:Gc)(t u:Th):Prop
 |mk (vs:List V) (h0:H l=Ga (.lst vs)) (h1:vs.length=4) (h2:∀v∈vs,∃r,Zv H v r/\jE t u r):m9 H l t u
theorem tY{r:Th}(D:Drawn ts m)(c:ts[a]?=Ga t)(d:ts[b]?=Ga u)(e:b<5)(R:jE t u r):Drawn (ts++[r]) (m+1):=by
 have q:a<ts.length:=(List.getElem?_eq_some_iff.mp c).1;have v:b<ts.length:=(List.getElem?_eq_some_iff.mp d).1;have o:=D.len;have cases:∀(j:Nat)s,(ts++[r])[j]?=Ga s->ts[j]?=Ga s\/(j=ts.length/\s=r):=λj s e=>by
  rcases Tp j ts.length with h|h
  .left;rw[List.getElem?_append_left h]at e;exact e
  .right;rw[List.getElem?_append_right h]at e;have f:j - ts.length=0:=by have:=(List.getElem?_eq_some_iff.mp e).1;simp at this;lia
   rw[f]at e;simp at e;exact{by lia,e.symm}
 have k:=D.dep a t c;have l:=D.dep b u d;have n:=R.dep;have w:=D.any a t c;have x:=D.tri b u d (by lia);have y:=R.siz;refine⟨by rw[List.length_append,List.length_singleton];lia,λs g=>?_,λj s e=>?_,λj s e f=>?_,λj s e f=>?_,λj s e f=>?_,λj s e=>?_,λs g=>by
   rcases List.mem_append.mp g with h|h
   .exact D.sh s h
   .rw[List.mem_singleton]at h;subst h;exact R.sh (D.sh t (List.mem_of_getElem? c)) (D.sh u (List.mem_of_getElem? d)),by rw[List.getElem?_append_left (by lia)];exact D.tab,λs g p i=>?_⟩
 .rcases List.mem_append.mp g with h|h
  .exact D.ok s h
  .rw[List.mem_singleton]at h;subst h;exact R.ok (D.ok t (List.mem_of_getElem? c)) (D.ok u (List.mem_of_getElem? d))
 .rcases cases j s e with h|⟨rfl,rfl⟩
  .exact D.dep j s h
  .lia
 .rcases cases j s e with h|⟨rfl,rfl⟩
  .exact D.one j s h f
  .lia
 .rcases cases j s e with h|⟨rfl,rfl⟩
  .exact D.two j s h f
  .have:=D.one a t c (by lia);have:=D.one b u d (by lia);lia
 .rcases cases j s e with h|⟨rfl,rfl⟩
  .exact D.tri j s h f
  .have:=D.two a t c (by lia);have:=D.two b u d (by lia);lia
 .rcases cases j s e with h|⟨rfl,rfl⟩
  .exact D.any j s h
  .lia
 .rcases List.mem_append.mp g with h|h
  .exact List.mem_append_left _ (D.cl s h p i)
  .rw[List.mem_singleton]at h;subst h;refine List.mem_append_left _ ?_;rcases R.pts p i with h|h|h
   .rw[h];exact List.mem_of_getElem? c
   .rw[h];exact List.mem_of_getElem? d
   .rw[h];exact List.mem_of_getElem? D.tab
theorem Jv(a:List α)(i:Int)(b:0<=i)(b:i<a.length):∃v,atI a i=Ga v/\a[i.toNat]?=Ga v:=by
 have b:i.toNat<a.length:=by lia
 have e:i=((i.toNat:Nat):Int):=by lia
 have q:=Qj (List.getElem?_eq_getElem b);rw[<-e]at q;exact{_,q,List.getElem?_eq_getElem b}
section
variable{P:Gg}{w:Gu}{K:Gd}{mg:Tb->Option Value}{base:Heap}
theorem yw:Q3 ["_law_cells","_law_things","_law_cell","_law_rest","_law_one","_law_other","_law_made","_law_word","_law_three"] ["_law_cells"] (Ql kQ):=by eq_refl
theorem Aw{l:Gc}{gd:Tq}(F:We K "_law_drawn_things" "_law_drawn_things" kQ f fd)(ad:gN mg)(aA:Qy P w K mg base Z5 1 l gd ["_law_cell"] sj)(kG:KI K l)(bG:zk K gd ["_law_cell"] [])(mG:MG mg "_law_any_word" l):
  Qy P w K mg base Z5 2 f fd ["_law_cells"] (vg K):=by
 refine F.ok yw (λh H g e ae=>?_) (λv k C s H h g e hr ae=>?_)
 .obtain⟨a,ns,rfl,_⟩:=ae;rfl
 obtain⟨a,ns,rfl,hS,aO,q⟩:=ae;have m:=yw.nd;show∃t,Ia ?my _ t/\_;let w3:Xk ?my kQ 2:={_,Qh (Qt (pv 1))}
 let w2:Xk ?my kQ 1:=⟨_,Qc (Z6 Gy rfl (Yg (pv 0)) (Zz 2 m)
   (Qc (Qz 3 m (Zt W9 (pv 2) Qi))
   (Qc (Qz 4 m (Qm Zc (pv 1) (Zt Va (pv 3) (Qp Zs rfl ad.len Gx (Qa (pv 1) Qe)))))
   (Qc (Qz 5 m (Qm Zc (pv 1) (Zt Va (Zt W9 (pv 3) Qi) (Qp (zF Xb) rfl ad.min Nc (Qa Qi (Qa (Qp Zs rfl ad.len Gx (Qa (pv 1) Qe)) Qe))))))
   (Qc (Qz 6 m (Zu (Qa (Zg (Qa Zk (Qa (pv 4) Qe))) (Qa (Zg (Qa Zk (Qa (pv 4) (Qa (pv 5) Qe)))) (Qa (Zg (Qa Zk (Qa (pv 4) (Qa (pv 5) Qe)))) (Qa (Zg (Qa Zk Qe)) Qe))))))
   (Qc (Q8 (Qn Xn (Zt Va (pv 2) Qi) Qi (Qr _))
    (Qc (Qz 7 m (Qm Zc (Zu (Qa (Zl aA hr rfl mG kG bG .nil Q7 (Qa (Zt W9 (pv 2) Qi) Qe)) (Qa Zk Qe))) (Zt Va (Zt W9 (pv 2) Qi) Qi)))
    (Qc (Qz 8 m (Zg (Qa (pv 7) (Qa (pv 4) (Qa (pv 5) (Qa (Zg (Qa Zk Qe)) Qe))))))
    (Qh (Qz 6 m (Zu (Qa (Zg (Qa (pv 7) (Qa (pv 4) Qe))) (Qa (Zg (Qa (pv 7) (Qa (pv 4) (Qa (pv 5) Qe)))) (Qa (pv 8) (Qa (Zg (Qa (pv 7) Qe)) Qe)))))))))
    Qv)
   (Qh (Zj (X0 Gv GQ GX Zy (pv 1) (Qa (Qm Zc (pv 6) (Zt Va (pv 2) Qi)) Qe)))))))))) w3.2⟩
 exists _,Qc (Qz 1 m (Zu (Qa (Zg (Qa Zk Qe)) (Qa (Zg (Qa Zk Qe)) (Qa (Zg (Qa Zk Qe)) Qe))))) w2.2;have aL:Ro ("sab":Tb)=Gf:=by decide+kernel
 have az:Ro ("tab":Tb)=Gf:=by decide+kernel
 have aN:Ro ("sob":Tb)=Gf:=by decide+kernel
 have aM:Ro ("sat":Tb)=Gf:=by decide+kernel
 have ak:Ro ("fig":Tb)=Gf:=by decide+kernel
 have aC:Ro ("fog":Tb)=Gf:=by decide+kernel
 have aI:Ro ("hog":Tb)=Gf:=by decide+kernel
 refine{by show 1<=Gj;decide,λp1 h1=>{by show 1<=Gj;decide,λp2 h2=>{by show 1<=Gj;decide,λp3 h3=>{by show 3<=Gj;decide,λp hp=>?_}}}};have s1:=Qf h1 (.tup [.str "sab"]);have s2:=Qf h2 (.tup [.str "tab"]);have Y:=Qf h3 (.tup [.str "sob"]);have s4:=Qf hp (.lst [.ref p1,.ref p2,.ref p3]);have ag:H p=Gh:=((s1.trans s2).trans Y).free hp;have i1:Zv _ (.ref p1) (.mk "sab" []):=(J0 (w:="sab") h1 .nil).same ((s2.trans Y).trans s4);have i2:Zv _ (.ref p2) (.mk "tab" []):=(J0 (w:="tab") h2 .nil).same (Y.trans s4);have i3:Zv _ (.ref p3) (.mk "sob" []):=(J0 (w:="sob") h3 .nil).same s4;let aK:Nat->St->Hp->Prop:=λi ac n=>nE λ(b:List V)(A:List Th)(x2 x3 x4 x5 x6 x7 x8:Option V)=>iZ (ac=[Ga (.ref a),Ga (.ref p),x2,x3,x4,x5,x6,x7,x8]) (Q6 H n) (n p=Ga (.lst b)) (Zr n b A) (Drawn A i)
 refine⟨_,Xb,a,Xb,{_,(((s1.trans s2).trans Y).trans s4).seq hS},Y9 (K:=K) (a:=a) (xs:=ns.map V.int) aK
  {_,_,_,_,_,_,_,_,_,Xb,((s1.trans s2).trans Y).trans s4,Qb,.cons i1 (.cons i2 (.cons i3 .nil)),?_} (by rintro i ac n _ ⟨_,_,_,_,_,_,_,_,_,_,l,_⟩;exact l.seq hS) ?_ ?_⟩
 .refine{Xb,λt e=>?_,λj t d=>?_,λj t d _=>?_,λj t d _=>?_,λj t d _=>?_,λj t d=>?_,λt e=>by simp at e;rcases e with rfl|rfl|rfl<;>decide+kernel,rfl,λt e p hp=>?_}
  .simp at e;rcases e with rfl|rfl|rfl
   .simp[Th.ok,okL,Ro.str aL]
   .simp[Th.ok,okL,Ro.str az]
   .simp[Th.ok,okL,Ro.str aN]
  rotate_right
  .simp at e;rcases e with rfl|rfl|rfl<;>simp[Th.parts]at hp
  all_goals
   have O:=List.mem_of_getElem? d;simp at O;rcases O with rfl|rfl|rfl<;>simp[Th.depth,Wz,Th.size,Qx]
 .rintro i y ac n E ⟨b,A,x2,x3,x4,x5,x6,x7,x8,rfl,l,r,u,B⟩;obtain⟨c,rfl⟩:∃z,y=V.int z:=by
   rw[List.getElem?_map]at E;cases d:ns[i]? with
   |none=>rw[d]at E;cases E
   |some z=>rw[d]at E;exact{z,(Ti E).symm}
  have aF:i<(ns.map V.int).length:=(List.getElem?_eq_some_iff.mp E).1;rw[List.length_map]at aF;have lu:=u.length;have ld:=B.len;have hL:(b.length:Int)=3+i:=by ext
  exists _,Xb,_,_,Xb,Xb,{by decide,by decide};obtain⟨g,a1,b1⟩:=Jv b (c / 4 % (b.length:Int)) (TW _ (by ext)) (TJ _ (by ext));exists _,Xb,_,Xb,_,Xb,p,b,Xb,.inl (Za.of r),_,_,Xb,Xb,(by show(0:Int)<b.length;ext),p,b,_,g,Xb,Xb,Za.of r,a1;have G:(if(b.length:Int)<5 then(b.length:Int)else 5)<=b.length/\0<(if(b.length:Int)<5 then(b.length:Int)else 5)/\(if(b.length:Int)<5 then(b.length:Int)else 5)<=5:=by split<;>ext
  obtain⟨k,a2,b2⟩:=Jv b (c / 4 / 5 % (if(b.length:Int)<5 then(b.length:Int)else 5)) (TW _ (by ext)) (Int.lt_of_lt_of_le (TJ _ G.2.1) G.1);have ay:(c / 4 / 5 % (if(b.length:Int)<5 then(b.length:Int)else 5)).toNat<5:=by have h1:=TJ (c / 4 / 5) G.2.1;have h2:=TW (c / 4 / 5) (Int.ne_of_gt G.2.1);have h3:=G.2.2;ext
  exists _,Xb,_,Xb,_,_,Xb,Xb,{by decide,by decide},_,Xb,p,b,Xb,.inl (Za.of r),5,_,Xb,_,_,Xb,Xb,G.2.1,p,b,_,k,Xb,Xb,Za.of r,a2;subst_vars;obtain⟨t1,c1,I⟩:=u.get b1;obtain⟨t2,c2,k2⟩:=u.get b2;and_intros;refine{_,Xb,by show 2<=Gj;decide,λq1 am=>{_,Xb,_,Xb,by show 3<=Gj;decide,λq2 an=>{_,Xb,_,Xb,by show 3<=Gj;decide,λq3 ao=>{by show 1<=Gj;decide,λq4 ap=>{by show 4<=Gj;decide,λai hl=>?_}}}}};have C:=Qf am (.tup [.str "fig",g]);have L:=Qf an (.tup [.str "fog",g,k]);have e3:=Qf ao (.tup [.str "fig",g,k]);have M:=Qf ap (.tup [.str "sat"]);have D:=Qf hl (.lst [.ref q1,.ref q2,.ref q3,.ref q4]);have aa:=(((C.trans L).trans e3).trans M).trans D;have m1:=(J0 (w:="fig") am (.one I)).same (((L.trans e3).trans M).trans D);have m2:=(J0 (w:="fog") an (.cons (I.same C) (.one (k2.same C)))).same ((e3.trans M).trans D);have m3:=(J0 (w:="fig") ao (.cons (I.same (C.trans L)) (.one (k2.same (C.trans L))))).same (M.trans D);have m4:=(J0 (w:="sat") ap .nil).same D;generalize al:zj (zj (zj (zj (zj n q1 (.tup [.str "fig",g])) q2 (.tup [.str "fog",g,k])) q3 (.tup [.str "fig",g,k])) q4 (.tup [.str "sat"])) ai (.lst [.ref q1,.ref q2,.ref q3,.ref q4])=Z at*;have aD:m9 Z ai t1 t2:=by
   refine{_,by rw[<-al];exact Qb,Xb,λh Q=>?_};simp at Q;rcases Q with rfl|rfl|rfl|rfl
   .exact{_,m1,va ak}
   .exact{_,m2,nY aC}
   .exact{_,m3,nY ak}
   .exact{_,m4,vD aM}
  clear m1 m2 m3 m4 al C L e3 M D;exists _,Xb,_,_,Xb,Xb,(by show(0:Int)<9;decide),Xb,_,Xb;refine Uu (λ_=>?_) (λ_=>?_)
  .refine{_,Xb,_,_,Xb,Xb,{by decide,by decide},_,Xb,λx hx=>{by show 2<=Gj;decide,λl2 aG=>?_}};have d1:=Qf aG (.lst [.str x,.str "hog"]);obtain⟨wv,a3,b3⟩:=Jv [V.str x,V.str "hog"] (c / 36 % 2) (TW _ (by decide)) (TJ _ (by decide));have aJ:∃e,wv=.str e/\Ro e=Gf:=by
    have O:=List.mem_of_getElem? b3;simp at O;rcases O with rfl|rfl
    .exact{_,Xb,hx}
    .exact{_,Xb,aI}
   obtain⟨e,rfl,ab⟩:=aJ;exists _,Xb,_,_,Xb,Xb,{by decide,by decide},_,_,Xb,Xb,(by show(0:Int)<2;decide),l2,_,_,_,Xb,Xb,Za.of Qb,a3;refine{_,Xb,_,Xb,_,Xb,by show 1<=Gj;decide,λW aw=>{by show 4<=Gj;decide,λX ax=>?_}};have d2:=Qf aw (.tup [.str "tab"]);have d3:=Qf ax (.tup [.str e,g,k,.ref W]);refine{_,Xb,_,Xb,by show 2<=Gj;decide,λS aq=>{_,Xb,_,Xb,_,Xb,by show 3<=Gj;decide,λT ar=>{_,Xb,_,Xb,by show 1<=Gj;decide,λU au=>{by show 4<=Gj;decide,λl3 aH=>?_}}}};have d4:=Qf aq (.tup [.str e,g]);have d5:=Qf ar (.tup [.str e,g,k]);have d6:=Qf au (.tup [.str e]);have J:=Qf aH (.lst [.ref S,.ref T,.ref X,.ref U]);have aP:=d1;have z2:=aa.trans d1;have z3:=z2.trans d2;have z4:=z3.trans d3;have z5:=z4.trans d4;have z6:=z5.trans d5;have tb:=(J0 (w:="tab") aw .nil);have n1:=(J0 (w:=e) ax (.cons (I.same z3) (.cons (k2.same z3) (.one tb)))).same (((d4.trans d5).trans d6).trans J);have n2:=(J0 (w:=e) aq (.one (I.same z4))).same ((d5.trans d6).trans J);have n3:=(J0 (w:=e) ar (.cons (I.same z5) (.one (k2.same z5)))).same (d6.trans J);have n4:=(J0 (w:=e) au .nil).same J;have zz:=(z6.trans d6).trans J;have up:=@Qb (zj (zj (zj (zj (zj (zj Z l2 (.lst [.str x,.str "hog"])) W (.tup [.str "tab"])) X (.tup [.str e,g,k,.ref W])) S (.tup [.str e,g])) T (.tup [.str e,g,k])) U (.tup [.str e])) l3 (.lst [.ref S,.ref T,.ref X,.ref U]);generalize zj (zj (zj (zj (zj (zj (zj Z l2 (.lst [.str x,.str "hog"])) W (.tup [.str "tab"])) X (.tup [.str e,g,k,.ref W])) S (.tup [.str e,g])) T (.tup [.str e,g,k])) U (.tup [.str e])) l3 (.lst [.ref S,.ref T,.ref X,.ref U])=H4 at*;have aE:m9 H4 l3 t1 t2:=by
    refine{_,up,Xb,λh Q=>?_};simp at Q;rcases Q with rfl|rfl|rfl|rfl
    .exact{_,n2,va ab}
    .exact{_,n3,nY ab}
    .exact{_,n1,HD ab az}
    .exact{_,n4,vD ab}
   subst_vars;obtain⟨N,hf,lf,af⟩:=aE;obtain⟨h,av,bv⟩:=Jv N (c % 4) (TW _ (by decide)) (by rw[lf];exact TJ _ (by decide));obtain⟨aj,ah,R⟩:=af h (List.mem_of_getElem? bv);and_intros;have v:=zz _ _ r;exists _,Xb,.inl {Xb,_,Za.of v},_,Xb,_,Xb,_,_,Xb,Xb,(by show(0:Int)<4;decide),l3,N,_,h,Xb,Xb,Za.of hf,av,p,b,h,Xb,Xb,v,(by rw[GV];ext);have tu:=Z0 (H:=H4) (a:=p) (o:=.lst (b++[h])) λxs d=>by rw[v]at d;cases d
   refine{b++[h],A++[aj],_,_,_,_,_,_,_,Xb,λaB o d=>?_,Qb,((u.same zz).append (.one ah)).Qs tu,tY B c1 c2 ay R};rw[Qg (Qd d ag)];exact zz _ _ (l _ _ d)
  .skip
   subst_vars;obtain⟨N,hf,lf,af⟩:=aD;obtain⟨h,av,bv⟩:=Jv N (c % 4) (TW _ (by decide)) (by rw[lf];exact TJ _ (by decide));obtain⟨aj,ah,R⟩:=af h (List.mem_of_getElem? bv);and_intros;have v:=aa _ _ r;exists _,Xb,.inl {Xb,_,Za.of v},_,Xb,_,Xb,_,_,Xb,Xb,(by show(0:Int)<4;decide),ai,N,_,h,Xb,Xb,Za.of hf,av,p,b,h,Xb,Xb,v,(by rw[GV];ext);have tu:=Z0 (H:=Z) (a:=p) (o:=.lst (b++[h])) λxs d=>by rw[v]at d;cases d
   refine{b++[h],A++[aj],_,_,_,_,_,_,_,Xb,λaB o d=>?_,Qb,((u.same aa).append (.one ah)).Qs tu,tY B c1 c2 ay R};rw[Qg (Qd d ag)];exact aa _ _ (l _ _ d)
 .rintro ac n ⟨b,A,x2,x3,x4,x5,x6,x7,x8,rfl,l,r,u,B⟩;rw[List.length_map]at B;exact{_,Xb,q p b A n l ag r u B}
end
theorem Hg(b:Bool):(tw b==("unlike":Tb))= !b:=by cases b<;>decide+kernel
section
variable{P:Gg}{w:Gu}{K:Gd}{mg:Tb->Option Value}{base:Heap}
theorem wB:Q3 ["_law_told","_law_deed","_law_every","_law_leaders","_law_word","_law_one","_law_other"] ["_law_told","_law_deed"] (Ql oK):=by eq_refl
theorem Bp{M:Tq}(F:We K "_law_barred" "_law_barred" oK f fd)
  (GC:Qy P w K mg base Z5 1 fC M ["_law_told","_law_things"] (xN P w))(kC:KI K fC)(bC:zk K M ["_law_told","_law_things"] [])(mC:MG mg "_law_classes" fC):
  Qy P w K mg base Z5 2 f fd ["_law_told","_law_deed"] ur:=by
 refine F.ok wB (λA I k j b=>?_) (λD B N s I A k j R b=>?_)
 .obtain⟨a,c,e,d,v1,v2,h,x,y,rfl,_⟩:=b;rfl
 obtain⟨a,c,e,d,v1,v2,h,x,y,rfl,ha,T,he,E,G,kx,ky,ae,ak,q⟩:=b;have m:=wB.nd;have S:=R.units;exists _,(Qc (Qz 2 m (Zt V0 (pv 0) (Zu (Qa (pv 1) Qe))))
  (Qc (Qz 3 m (Zl GC R rfl mC kC bC .nil Q7 (Qa (pv 2) (Qa (Zu Qe) Qe))))
  (Qc (Z6 Gy rfl (Yg (pv 2)) (Vx rfl (Zn (Zz 4 m) (Zn (Zz 5 m) (Zn (Zz 6 m) Wm))))
  (Qh (Q8 (PW.pt (Ir (Qn Xn (pv 4) Zk (Qr _)) (Jl (Qn Xn (Qm (iq S) (pv 3) (pv 5)) (Qm (iq S) (pv 3) (pv 6)) (Qr _)))))
  (Qh (Qt Yf)) Qv)))
  (Qh (Qt Yf)))))
 have am:e.length=d.length:=Gq T;have al:d.length<=3000:=by have:=Ze (d.map (·.2.1));rw[List.length_map]at this;ext
 refine{_,Xb,_,Xb,by show 1<=Gj;decide,λag hl=>?_};have X:=Qf hl (.lst [.ref c]);refine{a,ag,e,[.ref c],Xb,Xb,X _ _ ha,Qb,small (by show e.length+1<=_;ext),λn hn=>?_};have s4:=Qf hn (.lst (e++[.ref c]));refine{_,Xb,Gz _,λz hz=>?_};have Y:=Qf hz (.lst []);have Z:=(X.trans s4).trans Y;have ad:Qx ([]:List Th)+Qx ((d++[(h,x,y)]).map (·.2.1))+Qx ((d++[(h,x,y)]).map (·.2.2))<=3000:=by rw[List.map_append,List.map_append,Yz,Yz];simp only[List.map_cons,List.map_nil,Qx];ext
 have H:Rl I (e++[.ref c]) (d++[(h,x,y)]):=Yl T (.cons ⟨c,v1,v2,Xb,he,E,G⟩ .nil);have ah:(e++[V.ref c]).length=(d++[(h,x,y)]).length:=Gq H;have Q:=Y _ _ (@Qb _ n (.lst (e++[.ref c])));have ac:∀p∈d++[(h,x,y)],(p.2.1.ok=Gf/\p.2.1.depth<=8)/\p.2.2.ok=Gf/\p.2.2.depth<=8:=by
  intro p j;rcases List.mem_append.mp j with j|j
  .exact ae p j
  .rw[List.mem_singleton]at j;subst j;exact⟨kx,ky⟩
 generalize e++[V.ref c]=aa at*;generalize d++[(h,x,y)]=r at*;refine{n,z,aa,[],r,[],Xb,Q,H.Qs (Q4.of Z),Qb,.nil,(λt j=>nomatch j),ac,ad,λd2 S2 L2 H2 O aj J L _ af=>?_};have o:=Z.trans O;have W:=O _ _ Q;let ai:Nat->St->Hp->Prop:=λi C v=>kP (v=H2) (∃x4 x5 x6,C=[Ga (.ref a),Ga (.ref c),Ga (.ref n),Ga (.ref d2),x4,x5,x6]) (∀u g,(Gs,u,g)∈r.take i->¬Cg r u g)
 refine⟨_,Xb,n,Xb,{_,Za.of W},Y9 (K:=K) (a:=n) (xs:=aa) ai
  {Xb,{_,_,_,Xb},by simp} (by rintro i C v _ ⟨c,_⟩;exact Za.of (by rw[c];exact W)) ?_ ?_⟩
 .rintro i p C v hi ⟨rfl,⟨x4,x5,x6,rfl⟩,l⟩;subst_vars;obtain⟨⟨D,A,B⟩,N,a',w1,w2,rfl,ab,t1,t2⟩:=Qw H hi;obtain⟨c1,_,_,_,rfl,_,_,_⟩:=t1.inv;obtain⟨c2,_,_,_,rfl,_,_,_⟩:=t2.inv;and_intros;have U:=List.mem_of_getElem? N;have j:=af (D,A,B) U;have tk:r.take (i+1)=r.take i++[(D,A,B)]:=by rw[List.take_add_one,N];rfl
  exists a',_,Xb,Q9.of (o _ _ ab),Xb,_,_,Xb,_,_,Xb,_,_,Xb,Xb;exists _,Xb,Xb,_,Xb;rw[Zb,Hg];cases D with
  |true=>
   refine Q5 (Q5 {Xb,{_,_,_,Xb},λu g b=>?_});rw[tk,List.mem_append,List.mem_singleton]at b;rcases b with b|b
   .exact l u g b
   .cases b
  |false=>
   refine Yp ?_;refine{_,Xb,_,Xb,J.get j.1 (t1.same o) {_,Xb,_,Xb,J.get j.2 (t2.same o) {Xb,_,Xb,?_}}};rw[Ux];refine Uu (λk=>?_) (λk=>?_)
   .have k:L2 A=L2 B:=by simpa using k
    exact q Gf _ o {λ_=>{A,B,U,(L.iff j.1 j.2).mp k},λ_=>rfl}
   .refine{Xb,{_,_,_,Xb},λu g b=>?_};rw[tk,List.mem_append,List.mem_singleton]at b;rcases b with b|b
    .exact l u g b
    .cases b;intro z;have:=(L.iff j.1 j.2).mpr z;simp[this]at k
 .rintro C v ⟨rfl,_,l⟩;rw[ah,List.take_length]at l;exact q Gs _ o {λz=>by(cases z),(by rintro⟨u,g,E,G⟩;exact absurd G (l u g E))}
end
section
variable{P:Gg}{w:Gu}{K:Gd}{mg:Tb->Option Value}{base:Heap}
theorem wD:Q3 ["_law_cell","_law_size"] ["_law_cell"] (Ql oe):=by eq_refl
theorem AG(F:We K "_law_any" "_law_any" oe f fd):Qy P w K mg base Z5 1 f fd ["_law_cell"] wt:=by
 refine F.ok wD (λj H Q E h=>?_) (λd A a s H j Q E k h=>?_)
 .obtain⟨n,rfl,_⟩:=h;rfl
 obtain⟨n,rfl,q⟩:=h;have i:=wD.nd;exists _,(Qc (Qz 1 i (Zt Va (Zt W9 (pv 0) Qi) (Zt uU Qi Qi)))
  (Qh (Qt (Zt xt (pv 1) (Qm Zc (Zu (Qa Qi (Qa (Jf Vn Qi) Qe))) (Zt Va (pv 0) Qi))))))
 exists _,Xb,_,_,Xb,Xb,{by decide,by decide},_,_,Xb,Xb,{by decide,by decide,by decide},_,_,Xb,Xb,(by show(0:Int)<10^DO 59;decide);refine{_,Xb,_,Xb,by show 2<=Gj;decide,λl b=>?_};obtain⟨v,e,g⟩:=Jv [V.int 1,V.int (-1)] (n % 2) (TW _ (by decide)) (TJ _ (by decide));have c:=List.mem_of_getElem? g;simp only[List.mem_cons,List.not_mem_nil,Sg]at c;exists _,Xb,_,_,Xb,Xb,(by show(0:Int)<2;decide),l,_,_,v,Xb,Xb,Za.of Qb,e;rcases c with rfl|rfl
 .exact{_,_,Xb,Xb,.inr {by decide,by decide},q _ _ (Qf b _)}
 .exact{_,_,Xb,Xb,.inr {by decide,by decide},q _ _ (Qf b _)}
theorem rX:Q3 ["_law_script","_law_most","_law_bound"] ["_law_script","_law_most","_law_bound"] (Ql pQ):=by eq_refl
theorem IG(F:We K "_law_room" "_law_room" pQ f fd)(B:gN mg):Qy P w K mg base Z5 1 f fd ["_law_script","_law_most","_law_bound"] (sU K):=by
 refine F.ok rX (λj H Q E h=>?_) (λe A d s H j Q E l h=>?_)
 .obtain⟨a,i,m,b,rfl,_⟩:=h;rfl
 obtain⟨a,i,m,b,rfl,g,k,q⟩:=h;have n:=rX.nd;exists _,(Qc (Q8 (Qn jY (Qp Zm rfl B.len Gx (Qa (pv 0) Qe)) Qi (Qr _))
  (Qh (Qt (pv 2))) Qv)
  (Qh (Qt (pv 1))))
 exists _,Xb,_,_,Xb,.inl {_,g,Xb},_,_,Xb,Xb,_,Xb;refine Uu (λc=>?_) (λc=>?_)
 .exfalso;have c:=TC c;rw[List.length_map]at c;lia
 .exact{_,Xb,q}
theorem vr:Q3 ["_law_cells","_law_things","_law_deeds","_law_k","_law_rest","_law_one","_law_other","_law_way","_law_odd"] ["_law_cells","_law_things"] (Ql nk):=by eq_refl
theorem Cm{dA:Tq}(F:We K "_law_drawn_deeds" "_law_drawn_deeds" nk f fd)(S:gN mg)
  (GA:Qy P w K mg base Z5 1 fA dA ["_law_cell"] wt)(kA:KI K fA)(bA:zk K dA ["_law_cell"] [])(mA:MG mg "_law_any" fA):
  Qy P w K mg base Z5 2 f fd ["_law_cells","_law_things"] (yk K):=by
 refine F.ok vr (λn T e b j=>?_) (λr o v s T n e b hr j=>?_)
 .obtain⟨a,y,E,m,J,rfl,_⟩:=j;rfl
 obtain⟨a,y,E,m,J,rfl,X,am,hb,ab,ao,an,q⟩:=j;have u:=vr.nd;have aq:=ab.length;exists _,(Qc (Qz 2 u (Zu Qe))
  (Qc (Z6 Gy rfl (V7 rfl S.range (Qa (Qp Zm rfl S.len Gx (Qa (pv 0) Qe)) Qe)) (Zz 3 u)
  (Qc (Qz 4 u (Zt W9 (Qm Zc (pv 0) (pv 3)) Qi))
  (Qc (Qz 5 u (Qm Zc (pv 1) (Zt Va (Zt R7 (pv 4) (pv 3)) (Qp Zm rfl S.len Gx (Qa (pv 1) Qe)))))
  (Qc (Qz 6 u (Qm Zc (pv 1) (Zt Va (Zt R7 (Zt R7 (Zt W9 (pv 4) Qi) (Zt xt Qi (pv 3))) Qi) (Qp Zm rfl S.len Gx (Qa (pv 1) Qe)))))
  (Qc (Qz 7 u (Zt Va (Qm Zc (pv 0) (pv 3)) Qi))
  (Qh (Q8 (Qn Vg (pv 7) Qi (Qr _))
  (Qh (Zj (X0 Gv GQ GX Zy (pv 2) (Qa (Zg (Qa Zk (Qa (pv 5) (Qa (pv 6) Qe)))) Qe)))) (Qh (Q8 (Qn Vg (pv 7) Qi (Qr _))
  (Qh (Zj (X0 Gv GQ GX Zy (pv 2) (Qa (Zg (Qa Zk (Qa (pv 5) (Qa (pv 6) Qe)))) Qe)))) (Qh (Q8 (Qn Vg (pv 7) Qi (Qr _))
  (Qh (Zj (X0 Gv GQ GX Zy (pv 2) (Qa (Zg (Qa Zk (Qa (pv 5) (Qa (pv 6) Qe)))) Qe)))) (Qc (Qz 8 u (Zl GA hr rfl mA kA bA .nil Q7 (Qa (Qm Zc (pv 0) (pv 3)) Qe)))
  (Qh (Zj (X0 Gv GQ GX Zy (pv 2) (Qa (Zg (Qa Zk (Qa (Qm Zc (Zu (Qa (Zt Va (pv 4) Qi) (Qa Qi (Qa (Jf Vn Qi) (Qa (pv 8) Qe))))) (Zt Va (Zt W9 (pv 4) Qi) Qi)) Qe))) Qe))))))))))))))))
  (Qh (Qt (pv 2)))))
 refine{Gz _,λp hp=>?_};have s1:=Qf hp (.lst []);let al:Nat->St->Hp->Prop:=λi ae k=>og λ(g:List V)(l:List Dd)(L M N O Q R:Option V)=>kJ (ae=[Ga (.ref a),Ga (.ref y),Ga (.ref p),L,M,N,O,Q,R]) (Q6 T k) (k p=Ga (.lst g)) (Rq k g l) (l.length=i) (∀d∈l,d.fits J)
 refine⟨_,Xb,_,_,Xb,.inl {_,s1.seq X,Xb},_,Xb,by lia,by rw[List.length_map];lia,V6 (lo:=0) (n:=(((E.map V.int).length:Int)).toNat) al
  {[],[],_,_,_,_,_,_,Xb,s1,Qb,.nil,Xb,λd D=>nomatch D} ?_ ?_⟩
 .rintro i ae k hi ⟨g,l,L,M,N,O,Q,R,rfl,t,h,W,g3,g4⟩;have hi:i<E.length:=by rw[List.length_map]at hi;lia
  have ap:g.length=l.length:=Gq W;generalize hc:E[i]=c;have ec:atI (E.map V.int) (0+(i:Int))=Ga (.int c):=by rw[DT];refine Qj ?_;rw[List.getElem?_map,List.getElem?_eq_getElem hi,hc];rfl
  have Z:(0:Int)<m.length:=by lia
  subst_vars;obtain⟨n,a1,f1⟩:=Jv m ((c / 10+(0+(i:Int))) % m.length) (TW _ (by lia)) (TJ _ Z);obtain⟨o,a2,f2⟩:=Jv m ((c / 10 / 7+2*(0+(i:Int))+1) % m.length) (TW _ (by lia)) (TJ _ Z);obtain⟨H,e1,i1⟩:=ab.get f1;obtain⟨I,e2,i2⟩:=ab.get f2;and_intros;have A:=List.mem_of_getElem? e1;have B:=List.mem_of_getElem? e2;have Y:=t _ _ hb;exists _,Xb,_,Xb,a,_,_,_,Xb,Xb,t.seq X,ec,_,_,Xb,Xb,{by decide,by decide};exists _,Xb,_,Xb,_,Xb,_,_,Xb,Xb,_,Xb,_,_,Xb,.inl {m,Za.of Y,Xb},_,_,Xb,Xb,Z,y,m,_,n,Xb,Xb,Za.of Y,a1;exists _,Xb,_,Xb,_,_,Xb,Xb,{by decide,by decide},_,Xb,_,_,Xb,Xb,.inl {by decide,by decide},_,_,Xb,Xb,_,_,Xb,Xb,_,Xb,_,_,Xb,.inl {m,Za.of Y,Xb},_,_,Xb,Xb,Z,y,m,_,o,Xb,Xb,Za.of Y,a2;exists _,Xb,_,Xb,a,_,_,_,Xb,Xb,t.seq X,ec,_,_,Xb,Xb,(by show(0:Int)<10;decide);have U:∀{r:Hp}{b:Gc}{v:List V}{d:Dd}{ai:Option V},Q6 k r->r b=Gh->d.fits J->ir (zj (zj r b (.tup v)) p (.lst (g++[.ref b]))) (.ref b) d->
    og λ(ag:List V)(l:List Dd)(L M N O Q R:Option V)=>kJ ([Ga (V.ref a),Ga (.ref y),Ga (.ref p),Ga (.int (0+(i:Int))),Ga (.int (c / 10)),Ga n,Ga o,Ga (.int (c % 10)),ai]=[Ga (.ref a),Ga (.ref y),Ga (.ref p),L,M,N,O,Q,R]) (Q6 T (zj (zj r b (.tup v)) p (.lst (g++[.ref b])))) ((zj (zj r b (.tup v)) p (.lst (g++[.ref b]))) p=Ga (.lst ag)) (Rq (zj (zj r b (.tup v)) p (.lst (g++[.ref b]))) ag l) (l.length=i+1) (∀d∈l,d.fits J):=by
   intro r b v d ai G e hf D;have s4:=Qf e (.tup v);have p4:=s4 _ _ (G _ _ h);have C:Q4 k (zj (zj r b (.tup v)) p (.lst (g++[.ref b]))):=((Q4.of G).trans (Q4.of s4)).trans (Z0 λys z=>by rw[p4]at z;cases z);refine{g++[.ref b],l++[d],_,_,_,_,_,_,Xb,λq ar hq=>?_,Qb,Yl (W.Qs C) (.cons D .nil),by rw[List.length_append,List.length_singleton,g3],λd' aj=>?_}
   .rw[Qg (Qd hq hp)];exact s4 _ _ (G _ _ (t _ _ hq))
   .rcases List.mem_append.mp aj with z|z
    .exact g4 d' z
    .rw[List.mem_singleton]at z;rw[z];exact hf
  have ad:∀{x:Tb}{b:Gc}{d:Dd},k b=Gh->d.fits J->(d=.ask H I/\x="ask"\/∃bb,d=.tell bb H I/\x=tw bb)->ir (zj (zj k b (.tup [.str x,n,o])) p (.lst (g++[.ref b]))) (.ref b) d:=by
   intro x b d e hf D;have s4:=Qf e (.tup [.str x,n,o]);have p4:=s4 _ _ h;have aa:b≠p:=λz=>by rw[z,h]at e;cases e
   have C:Q4 T (zj (zj k b (.tup [.str x,n,o])) p (.lst (g++[.ref b]))):=((Q4.of t).trans (Q4.of s4)).trans (Z0 λys z=>by rw[p4]at z;cases z);have af:(zj (zj k b (.tup [.str x,n,o])) p (.lst (g++[.ref b]))) b=Ga (.tup [.str x,n,o]):=by rw[Qg aa];exact Qb
   rcases D with⟨rfl,rfl⟩|⟨bb,rfl,rfl⟩
   .exact{b,n,o,Xb,af,i1.Qs C,i2.Qs C}
   .exact{b,n,o,Xb,af,i1.Qs C,i2.Qs C}
  exists _,Xb,_,_,Xb,Xb,_,Xb;refine Uu (λc1=>?_) (λc1=>?_)
  .refine{_,Xb,.inl {Xb,_,Za.of h},_,Xb,_,Xb,by show 3<=Gj;decide,λb e=>?_};exists p,g,.ref b,Xb,Xb,Qf e _ _ _ h,(by rw[GV];lia);exact U (d:=.tell Gf H I) (λ_ _ j=>j) e ⟨A,B⟩ (ad e ⟨A,B⟩ (.inr ⟨Gf,Xb,Xb⟩))
  exists _,Xb,_,_,Xb,Xb,_,Xb;refine Uu (λc2=>?_) (λc2=>?_)
  .refine{_,Xb,.inl {Xb,_,Za.of h},_,Xb,_,Xb,by show 3<=Gj;decide,λb e=>?_};exists p,g,.ref b,Xb,Xb,Qf e _ _ _ h,(by rw[GV];lia);exact U (d:=.tell Gs H I) (λ_ _ j=>j) e ⟨A,B⟩ (ad e ⟨A,B⟩ (.inr ⟨Gs,Xb,Xb⟩))
  exists _,Xb,_,_,Xb,Xb,_,Xb;refine Uu (λc3=>?_) (λc3=>?_)
  .refine{_,Xb,.inl {Xb,_,Za.of h},_,Xb,_,Xb,by show 3<=Gj;decide,λb e=>?_};exists p,g,.ref b,Xb,Xb,Qf e _ _ _ h,(by rw[GV];lia);exact U (d:=.ask H I) (λ_ _ j=>j) e ⟨A,B⟩ (ad e ⟨A,B⟩ (.inl ⟨Xb,Xb⟩))
  refine{_,Xb,_,Xb,a,_,_,_,Xb,Xb,t.seq X,ec,_,Xb,λah H2 s2=>?_};refine{_,Xb,.inl {Xb,_,Za.of (s2 _ _ h)},_,Xb,_,_,Xb,Xb,(by show(0:Int)<4;decide),_,Xb,_,Xb,by show 4<=Gj;decide,λak hl=>?_};have G:=Qf hl (.lst [.int (c / 10 % 4),.int 0,.int (-1),.int ah]);obtain⟨v3,a3,f3⟩:=Jv [V.int (c / 10 % 4),.int 0,.int (-1),.int ah] (c / 10 / 4 % 4) (TW _ (by decide)) (TJ _ (by decide));have hv:=List.mem_of_getElem? f3;obtain⟨z,rfl⟩:∃z,v3=V.int z:=by simp only[List.mem_cons,List.not_mem_nil,Sg]at hv;rcases hv with j|j|j|j<;>exact⟨_,j⟩
  refine{_,Xb,_,_,Xb,Xb,{by decide,by decide},_,_,Xb,Xb,(by show(0:Int)<4;decide),ak,_,_,.int z,Xb,Xb,Za.of Qb,a3,by show 2<=Gj;decide,λb e=>?_};have ac:=s2.trans G;have aa:b≠p:=λz=>by rw[z,ac _ _ h]at e;cases e
  exists p,g,.ref b,Xb,Xb,Qf e _ _ _ (ac _ _ h),(by rw[GV];lia);exact U (d:=.back z) ac e T9 {b,Xb,by rw[Qg aa];exact Qb}
 .rintro ae k ⟨g,l,L,M,N,O,Q,R,rfl,t,h,W,g3,g4⟩;refine{_,Xb,q p g l k t hp h W ?_ g4};rw[g3,List.length_map];lia
end
inductive xO(K:Gd)(vs:List V)(H:Hp)(Q:VK):Prop
 |mk (v:V) (t:Value) (b1:Bool) (b2:Bool) (h0:vs=[v]) (h1:gR K H v t) (h2:DI K t (.type "int")=Ga b1) (h3:DI K t (.type "bool")=Ga b2) (h4:Q (.bl (b1&&!b2)) H):xO K vs H Q
def lJ(K:Gd):Sp:=λa H Q _=>xO K a H Q
theorem IC(b:Bool):(tw b==("ask":Tb))=Gs:=by cases b<;>decide+kernel
theorem HL(b:Bool):(tw b==("back":Tb))=Gs:=by cases b<;>decide+kernel
theorem HN:(("ask":Tb)=="ask")=Gf:=by decide+kernel
theorem OR:(("back":Tb)=="ask")=Gs:=by decide+kernel
theorem BL:(("back":Tb)=="back")=Gf:=by decide+kernel
theorem JJ(a:List V)(i:Int)(b:0<=i):Ja a Gh (Ga i)=a.take i.toNat:=by obtain⟨k,rfl⟩:∃k:Nat,i=(k:Int):={i.toNat,by lia};unfold Ja;rw[HT.Ol,HT.Ra];simp
theorem Km(n:Nat)(h:Rl H xs tl):Rl H (xs.take n) (tl.take n):=by
 unfold Rl at h⊢;induction h generalizing n with
 |nil=>cases n<;>exact .nil
 |cons h r a=>
  cases n with
  |zero=>exact .nil
  |succ n=>exact .cons h (a n)
section
variable{P:Gg}{w:Gu}{K:Gd}{mg:Tb->Option Value}{base:Heap}
theorem qV:Q3 ["_law_found"] ["_law_found"] (Ql oJ):=by eq_refl
theorem Pt(F:We K "_law_whole" "_law_whole" oJ f fd)(B:gN mg):Qy P w K mg base Z5 1 f fd ["_law_found"] (lJ K):=by
 refine F.ok qV (λj H Q E h=>?_) (λe A c s H j Q E k h=>?_)
 .obtain⟨v,t,a,b,rfl,_⟩:=h;rfl
 obtain⟨v,t,a,b,rfl,d,g,i,q⟩:=h;have l:=qV.nd;exists _,(Qh (Qt (pV (Qp Y2 rfl B.isinstance Ta (Qa (pv 0) (Qa (Xs (v:=.ty "int") rfl B.int Lb Xb) Qe))) (lW (BO (Qp Y2 rfl B.isinstance Ta (Qa (pv 0) (Qa (Xs (v:=.ty "bool") rfl B.bool M8 Xb) Qe))))))));exists _,Xb,_,_,_,a,Xb,d,g,a,Xb;cases a with
 |false=>exact Q5 q
 |true=>exact Yp {_,Xb,_,_,_,b,Xb,d,i,b,Xb,q}
end
inductive xV(vs:List V)(H:Hp)(Q:VK):Prop
 |mk (v:V) (t:Th) (h0:vs=[v]) (h1:Zv H v t) (h2:t.good) (h3:∀H':Hp,Q6 H H'->Q (.bl Gf) H'):xV vs H Q
def uq:Sp:=λa H Q _=>xV a H Q
theorem KF(h:(Th.mk w ps).good):∀p∈ps,p.good:=λp a=>by obtain⟨c,d,e⟩:=h;simp only[Th.ok,Th.depth,Th.size,Tn]at c d e;have b:=c.2;rw[V4,List.all_eq_true]at b;have:=Wd a;have:=y8 a;exact{b p a,by ext,by ext}
section
variable{P:Gg}{w:Gu}{K:Gd}{mg:Tb->Option Value}{base:Heap}
theorem vd:Q3 ["_law_found","_law_todo","_law_part"] ["_law_found"] (Ql nM):=by eq_refl
theorem Aa(F:We K "_law_is_thing" "_law_is_thing" nM f fd)(j:gN mg):Qy P w K mg base Z5 1 f fd ["_law_found"] uq:=by
 refine F.ok vd (λvs k af ae g=>?_) (λao an ax s k vs af ae hr g=>?_)
 .obtain⟨v,t,rfl,_⟩:=g;rfl
 obtain⟨v,t,rfl,hv,O,q⟩:=g;have J:=vd.nd;have m:=hr.units;exists _,(Qc (Qz 1 J (Zu (Qa (pv 0) Qe)))
  (Qc (Vd Gy (Qn (jq m) (pv 1) (Zu Qe) (Qr _))
  (Qc (Qz 2 J (jx Gv DB DC jr (pv 1)))
  (Qc (Q8 (PW.pt (Y1 (Yn (Yb (Qp Y2 rfl j.isinstance Ta (Qa (pv 2) (Qa (Xs (v:=.ty "tuple") rfl j.tuple TM Xb) Qe))))) (Y1 (Qn Xn (Qp Zm rfl j.len Gx (Qa (pv 2) Qe)) Qi (Qr _)) (Xp (Yn (Yb (Qp Y2 rfl j.isinstance Ta (Qa (Qm Qo (pv 2) Qi) (Qa (Xs (v:=.ty "str") rfl j.str Es Xb) Qe)))))))))
  (Qh (Qt Yf)) Qv)
  (Qh (Qz 1 J (Zt V0 (pv 1) (Xm Ve rfl j.list Tt (Qa (Yc Vy (pv 2) (Yk Qi) Xo) Qe))))))))
  (Qh (Qt Yf))))
 have am:=O.2.2;refine{_,Xb,by show 1<=Gj;decide,λb o=>?_};have L:=Qf o (.lst [v]);exists λU ac d=>hA λ(b:Gc)(i:List V)(a:List Th)(C:Option V)=>hB (ac=[Ga v,Ga (.ref b),C]) (Q6 k d) (k b=Gh) (d b=Ga (.lst i)) (Zr d i a) (∀u∈a,u.good) (U=Qx a) (Qx a<=100),
  {_,b,[v],[t],Gh,Xb,L,o,Qb,.one (hv.same L),λu m=>by rw[List.mem_singleton]at m;subst m;exact O,Xb,by simp[Qx];exact am}
 clear L o;rintro U ac d ⟨b,i,a,C,rfl,sm,o,y,D,H,rfl,sz⟩;have lx:=D.length;have lT:=Ze a;refine{_,Xb,Gz _,λz hz=>?_};have s4:=Qf hz (.lst []);exists .list (Wa a),.list [],.lst (s4 _ _ y) (D.same s4).dts,.lst Qb .nil,by simp only[Td];exact Od a (by rw[V4,List.all_eq_true];exactλu m=>(H u m).1),by simp[Td,GO],?_,_,Xb
 .simp only[T5,Tu];ext
 have ev:Tg (.list (Wa a)) (.list [])=a.isEmpty:=by
  simp only[Tg];rw[Ju];cases a with
  |nil=>simp[Wa]
  |cons t Y=>simp[Wa]
 rw[ev];rcases List.eq_nil_or_concat a with rfl|⟨Tr,u,G⟩
 .exact Q5 (q _ (sm.trans s4))
 .have G:a=Tr++[u]:=by simpa using G
  subst G;have ai:(Tr++[u]).isEmpty=Gs:=by cases Tr<;>rfl
  rw[ai];refine Yp ?_;subst_vars;obtain⟨e,x,rfl,B,I⟩:=Jt D;and_intros;have S:Qx (Tr++[u])=Qx Tr+u.size:=by rw[Yz];simp[Qx]
  rw[S]at sz;have ap:=Ig u;have al:=H u (by simp);exists λad r=>∃W,W<Qx (Tr++[u])/\hA λ(b:Gc)(i:List V)(a:List Th)(C:Option V)=>hB (ad=[Ga v,Ga (.ref b),C]) (Q6 k r) (k b=Gh) (r b=Ga (.lst i)) (Zr r i a) (∀u∈a,u.good) (W=Qx a) (Qx a<=100),λad r g=>g;have ah:(e++[x])[(e++[x]).length - 1]?=Ga x:=by simp
  exists _,Xb,.inl {Xb,_,Za.of (s4 _ _ y)},b,_,_,Xb,Xb,s4 _ _ y,ah;rw[List.dropLast_concat];have E:Rf b d (zj (zj d z (.lst [])) b (.lst e)):=λc X l g=>by rw[Qg g];exact s4 _ _ l
  have T:(zj (zj d z (.lst [])) b (.lst e)) b=Ga (.lst e):=Qb;generalize zj (zj d z (.lst [])) b (.lst e)=M at E T⊢;have t5:Q4 d M:=E.Qs y (λi l=>by cases l);have ab:Q6 k M:=λc X l=>E c X (sm _ _ l) (Qd l o);have B:=B.Qs t5;have I:=I.Qs t5;subst_vars;obtain⟨N,wd,h,p,rfl,rfl,A,R⟩:=I.inv;and_intros;have av:=R.length;have au:=Ze p;have aw:=B.length;have ar:=Ze Tr;have aq:(Th.mk wd p).size=Qx p+1:=by simp only[Th.size]
  refine{_,Xb,_,_,_,Gf,Xb,.tup A,Rw,Gf,Xb,Q5 ?_};exists _,Xb,_,_,Xb,.inr {_,Q9.of A,Xb},Xb,_,Xb;rw[Ux];rw[show((((V.str wd::h).length:Nat):Int)==0)=Gs by simp;ext];refine Q5 ?_;refine{_,Xb,N,_,_,_,Xb,Xb,Q9.of A,Qj (j:=0) rfl,_,_,_,Gf,Xb,.str _,jC,Gf,Xb,Q5 ?_};refine{_,Xb,_,Xb,_,Xb,N,_,Xb,Q9.of A,Wc _ _,λY aj=>?_};rw[gX];have s7:=Qf aj (.tup h);refine{Y,h,Xb,.inr (Q9.of Qb),λl2 ag=>?_};have s8:=Qf ag (.lst h);refine{b,l2,e,h,Xb,Xb,s8 _ _ (s7 _ _ T),Qb,small (by ext),λn Q=>?_};have s9:=Qf Q (.lst (e++h));have Z:=s7.trans s8;have aa:=Z.trans s9;refine{Qx (Tr++p),by rw[S,Yz];ext,n,e++h,Tr++p,_,Xb,ab.trans aa,(ab.trans Z).free Q,Qb,(B.append R).same aa,λu' ak=>?_,Xb,by rw[Yz];ext};rcases List.mem_append.mp ak with z|z
  .exact H u' (List.mem_append_left _ z)
  .exact KF al u' z
end
end K03
namespace Sb
open PySem PySem.Spec PyProof.Rows L2
def rn(w:Tb):Tb:=if w="sab"then"tab"else if w="tab"then"x"else if w="sob"then"sab"else if w="sat"then"sob"else if w="fig"then"fog"else if w="fog"then"hog"else("q":Tb)++w++"q"
def unq(w:Tb):Tb:=⟨w.cps.extract 1 (w.cps.size - 1)⟩
def un(w:Tb):Tb:=if w="tab"then"sab"else if w="x"then"tab"else if w="sab"then"sob"else if w="sob"then"sat"else if w="fog"then"fig"else if w="hog"then"fog"else unq w
end Sb
namespace L2
open PySem PySem.Spec PyProof.Rows
theorem HX(a:List V)(k:Nat)(h:k<a.length):¬(HT.Wq a.length 0 Gh=0/\HT.Wq a.length a.length (Ga (k:Int))=a.length):=by rw[HT.Ra];rintro⟨_,b⟩;ext
theorem HU{c:Type}{a:List c}{v:c}(h:a[a.length - 1]?=Ga v):atI a (-1)=Ga v:=by
 rcases List.eq_nil_or_concat a with rfl|⟨b,u,e⟩
 .simp at h
 .have e:a=b++[u]:=by simpa using e
  subst e;have:u=v:=by simpa using h
  rw[this];exact IK b v
end L2
namespace K03
open PySem L2 Sb
variable{H:Hp}{v1 v2:V}{t:Th}{Q:VK}
def iw:Gc->Prop:=λ_=>False
theorem oD(a:Zv H v1 t)(c:Zv H v2 t)(g:t.good)(q:Q (.bl Gf) H):jD (λb=>b) v1 v2 H Q:=
 {t.toD,t.toD,a.dt,c.dt,Wi t g.1,Wi t g.1,by rw[Xl];have:=g.2.1;ext,by rw[O1,Gw rfl];exact q}
theorem oh(a:Zv H v1 t)(c:Zv H v2 t)(g:t.good)(q:Q (.bl Gs) H):jD (λb=>!b) v1 v2 H Q:=
 {t.toD,t.toD,a.dt,c.dt,Wi t g.1,Wi t g.1,by rw[Xl];have:=g.2.1;ext,by rw[O1,Gw rfl];exact q}
theorem ve(t:Th):Tg t.toD t.toD=Gf:=by rw[O1];exact Gw rfl
theorem rG{c d:Gc}{i j:V}{s:Th}(o:H c=Ga (.tup [v1,v2]))(p:H d=Ga (.tup [i,j]))(k:Zv H v1 s)(l:Zv H v2 t)(m:Zv H i s)(n:Zv H j t)(a:s.good)(f:t.good)(q:Q (.bl Gf) H):jD (λb=>b) (.ref c) (.ref d) H Q:=by
 have g:=Wi s a.1;have h:=Wi t f.1;have r:=Xl s;have u:=Xl t;have:=a.2.1;have:=f.2.1;exists .tuple [s.toD,t.toD],.tuple [s.toD,t.toD],.tup o (.cons k.dt (.cons l.dt .nil)),.tup p (.cons m.dt (.cons n.dt .nil)),by simp[Td,GO,g,h],by simp[Td,GO,g,h],?_
 .simp only[T5,Tu];ext
 .have e:Tg (.tuple [s.toD,t.toD]) (.tuple [s.toD,t.toD])=Gf:=by simp[Tg,Ts,ve]
  rw[e];exact q
theorem IF{c d:Gc}{x:Tb}{j k:V}{s:Th}(g:TR x=Gf)(p:H c=Ga (.tup [.str x,v1,v2]))(r:H d=Ga (.tup [.str x,j,k]))(l:Zv H v1 s)(m:Zv H v2 t)(n:Zv H j s)(o:Zv H k t)(a:s.good)(f:t.good)(q:Q (.bl Gf) H):jD (λb=>b) (.ref c) (.ref d) H Q:=by
 have h:=Wi s a.1;have i:=Wi t f.1;have u:=Xl s;have v:=Xl t;have:=a.2.1;have:=f.2.1;exists .tuple [.str x,s.toD,t.toD],.tuple [.str x,s.toD,t.toD],.tup p (.cons (.str _) (.cons l.dt (.cons m.dt .nil))),.tup r (.cons (.str _) (.cons n.dt (.cons o.dt .nil))),by simp[Td,GO,h,i,g],by simp[Td,GO,h,i,g],?_
 .simp only[T5,Tu];ext
 .have e:Tg (.tuple [.str x,s.toD,t.toD]) (.tuple [.str x,s.toD,t.toD])=Gf:=by simp[Tg,Ts,ve]
  rw[e];exact q
def jZ(H:Hp)(v:V):Option (Th×Th)->Prop
 |none=>v=.non
 |some p=>∃c a b,v=.ref c/\H c=Ga (.tup [a,b])/\Zv H a p.1/\Zv H b p.2/\p.1.good/\p.2.good
theorem jZ.same{H a:Hp}(e:Q6 H a){v:V}:∀{b:Option (Th×Th)},jZ H v b->jZ a v b
 |none,h=>h
 |some _,⟨c,j,k,d,f,g,h,i⟩=>{c,j,k,d,e _ _ f,g.same e,h.same e,i}
structure iE(H:Hp)(L:Gc)(lv:List V)(ls:List Lt):Prop where
 at_:H L=Ga (.lst lv)
 pr:Paired (pU H iw) lv ls
 good:∀l∈ls,l.1.good/\l.2.1.good
 len:ls.length<=900000
theorem iE.same{H a:Hp}(e:Q6 H a){L:Gc}{d:List V}{b:List Lt}(h:iE H L d b):iE a L d b:=
 {e _ _ h.at_,L2.Paired.Z8 h.pr (by rintro _ _ ⟨c,n,o,m,f,g,i,j,k,l⟩;exact{c,n,o,m,f,e _ _ g,i.same e,j.same e,k.kp (λh=>e _ _ h) (λh _=>e _ _ h),l}),h.good,h.len}
inductive yR(vs:List V)(H:Hp)(Q:VK):Prop
 |mk (a:Gc) (L:Gc) (us:List V) (lv:List V) (pq:V) (tl:Tl) (pr:Option (Th×Th)) (ls:List Lt) (k:Nat) (x:Th) (y:Th) (r:Lr) (h0:vs=[.ref a,.ref L,.int (k:Int),pq]) (h1:H a=Ga (.lst us)) (h2:Rl H us tl) (h3:iu tl) (h4:tl.length<=1000) (h5:iE H L lv ls) (h6:jZ H pq pr) (h7:ls[k]?=Ga (x,y,r)) (h8:qO tl pr (ls.take k) x y r) (h9:∀H':Hp,Q6 H H'->Q (.bl Gf) H'):yR vs H Q
def ub:Sp:=λa H Q _=>yR a H Q
theorem ou{b:Type}{l:List b}{k n:Nat}{x:b}(h:(l.take k)[n]?=Ga x):n<k/\l[n]?=Ga x:=by
 have c:=(List.getElem?_eq_some_iff.mp h).1;rw[List.length_take]at c;have a:n<k:=by ext
 rw[List.getElem?_take_of_lt a]at h;exact⟨a,h⟩
theorem sC{c:List Lt}:∀{e:List Nat}{a b:Th},ie c a e b->∀k∈e,∃l,c[k]?=Ga l
 |[],_,_,_,k,d=>nomatch d
 |j::e,a,b,⟨m,r,f,g⟩,k,d=>by
  rcases List.mem_cons.mp d with z|z
  .exact{_,by rw[z];exact f}
  .exact sC g k z
theorem JV{c:List Lt}:∀{d:List Nat}{a b:Th}{i k:Nat},ie c a d b->d[i]?=Ga k->∀t,ie c t (d.drop i) b->∃m r,c[k]?=Ga (t,m,r)/\ie c m (d.drop (i+1)) b:=by intro d a b i k _ g t f;have e:d.drop i=k::d.drop (i+1):=List.drop_eq_getElem?_toList_append.trans (by rw[g];rfl);rw[e]at f;exact f
def rowsOf(b:List V)(a:List Nat):List V:=a.map λk=>b.getD k .non
theorem getD_at{a:List V}{k:Nat}(h:k<a.length):a[k]?=Ga (a.getD k .non):=by rw[List.getD_eq_getElem?_getD,List.getElem?_eq_getElem h];rfl
theorem I3:(("told":Tb)=="told")=Gf:=by decide+kernel
theorem zU:(("asked":Tb)=="told")=Gs:=by decide+kernel
theorem BV:(("asked":Tb)=="asked")=Gf:=by decide+kernel
theorem zX:(("turn":Tb)=="told")=Gs:=by decide+kernel
theorem P4:(("turn":Tb)=="asked")=Gs:=by decide+kernel
theorem JQ:(("turn":Tb)=="turn")=Gf:=by decide+kernel
theorem Hv:(("chain":Tb)=="told")=Gs:=by decide+kernel
theorem Pi:(("chain":Tb)=="asked")=Gs:=by decide+kernel
theorem An:(("chain":Tb)=="turn")=Gs:=by decide+kernel
theorem AZ:(("chain":Tb)=="chain")=Gf:=by decide+kernel
theorem He:(("like":Tb)=="told")=Gs:=by decide+kernel
theorem IL:(("like":Tb)=="asked")=Gs:=by decide+kernel
theorem KJ:(("like":Tb)=="turn")=Gs:=by decide+kernel
theorem Pg:(("like":Tb)=="chain")=Gs:=by decide+kernel
theorem Kg:(("like":Tb)=="like")=Gf:=by decide+kernel
theorem Pb:(["_law_number","_law_lines"]:List Tb).Nodup:=by decide+kernel
section
variable{P:Gg}{w:Gu}{K:Gd}{mg:Tb->Option Value}{base:Heap}
theorem v5:Q3 ["_law_told","_law_lines","_law_k","_law_pair","_law_one","_law_other","_law_reason","_law_number","_law_rows","_law_here","_law_row","_law_j"] ["_law_told","_law_lines","_law_k","_law_pair"] (Ql lL):=by eq_refl
set_option hygiene false
local macro_rules
 |`(tactic|infer_instance)=>`(tactic|(
 exists _,Xb,_,Xb,L,lv,_,_,Xb,Xb,Za.of hL.at_,Qj eu,c,_,Xb,Q9.of hc,Xb,_,_,Xb,_,_,Xb,_,_,Xb,Xb
 exists _,Xb,c',_,_,_,Xb,Xb,Q9.of hc',Qj (j:=0) rfl,Xb,_,Xb
 first|rw[Zb,Hv]|rw[Zb,He]
 refine Q5 ?_
 exists _,Xb,c',_,_,_,Xb,Xb,Q9.of hc',Qj (j:=0) rfl,Xb,_,Xb
 first|rw[Zb,Pi]|rw[Zb,IL]
 refine Q5 ?_
 exists _,Xb,c',_,_,_,Xb,Xb,Q9.of hc',Qj (j:=0) rfl,Xb,_,Xb
 first|rw[Zb,An]|rw[Zb,KJ]
 refine Q5 ?_
 refine{_,Xb,c',_,_,_,Xb,Xb,Q9.of hc',Qj (j:=1) rfl,_,_,_,Gf,Xb,.lst hl,jR,Gf,Xb,Q5 ?_}
 let pP1:Nat->St->Hp->Prop:=λi σ H1=>iN λ(x7:Option V)=>mJ (σ=[Ga (.ref a),Ga (.ref L),Ga (.int (k:Int)),Ga pq,Ga v1,Ga v2,Ga (.ref c'),x7,Gh,Gh,Gh,Gh]) (H1=H)
 refine⟨_,Xb,c',_,_,_,Xb,Xb,Q9.of hc',Qj (j:=1) rfl,l,Xb,{_,Za.of hl},Y9 (K:=K) (a:=l) (xs:=ks.map jv) pP1
  {_,Xb,Xb} (λi σ H1 _⟨_,_,e⟩=>Za.of (by rw[e];exact hl)) ?_ ?_⟩
 .rintro i u σ H1 hi ⟨x7,rfl,rfl⟩
  obtain⟨n,en,rfl⟩:∃n,n∈ks/\jv n=u:=by
   rw[List.getElem?_map]at hi
   cases e:ks[i]? with
   |none=>rw[e]at hi;cases hi
   |some n=>rw[e]at hi;exact{n,List.mem_of_getElem? e,Ti hi}
  obtain⟨ll,el⟩:=lt n en
  have hn:=(ou el).1
  refine{_,Xb,_,_,Gf,Gs,Xb,.int _,jM,jj,Gf,Xb,Q5 ?_}
  exists _,Xb,_,_,Xb,Xb,_,Xb
  rw[Gr (show¬((n:Int)<0) by ext)]
  refine Q5 ?_
  exists _,Xb,_,Xb,_,_,Xb,Xb,_,Xb
  rw[Gr (show¬((n:Int)>=(k:Int)) by ext)]
  exact Q5 {_,Xb,Xb}
 rintro σ H1 ⟨x7,rfl,rfl⟩
 refine{_,Xb,c',_,_,_,Xb,Xb,Q9.of hc',Qj (j:=1) rfl,l,Xb,{_,Za.of hl},λp hp=>?_}
 have sp:=Qf hp (.lst [])
 refine I8 (K:=K) (a:=l) (xs:=ks.map jv) (small (by rw[List.length_map];ext)) (λi ys σ H2=>(∃x0,σ=[x0,Ga (.ref L)])/\ys=rowsOf lv (ks.take i)/\H2=zj H1 p (.lst ys)) {{_,Xb},Xb,Xb} (λi ys σ H2 _⟨_,_,e⟩=>Za.of (by rw[e];exact Qf hp _ _ _ hl)) ?_ ?_
 .rintro i u ys σ H2 hi hyl ⟨⟨x0,rfl⟩,rfl,rfl⟩ hp1
  obtain⟨n,en,rfl⟩:∃n,ks[i]?=Ga n/\jv n=u:=by
   rw[List.getElem?_map]at hi
   cases e:ks[i]? with
   |none=>rw[e]at hi;cases hi
   |some n=>rw[e]at hi;exact{n,Xb,Ti hi}
  obtain⟨ll,el⟩:=lt n (List.mem_of_getElem? en)
  have hn:=(ou el).1
  refine{_,Xb,_,Xb,L,lv,_,_,Xb,Xb,Za.of (Qf hp _ _ _ hL.at_),Qj (getD_at (by ext)),hp1,{_,Xb},?_,by rw[Wu]}
  unfold rowsOf
  rw[List.take_add_one,en,List.map_append]
  rfl
 rintro ys σ H2 hyl ⟨_,rfl,rfl⟩ hp2
 rw[List.length_map,List.take_length]at hp2 hyl⊢
 have s1:=Qf hp (.lst (rowsOf lv ks))
 generalize zj H1 p (.lst (rowsOf lv ks))=H2 at*))
set_option hygiene true
theorem Py{ao fH:Gc}{fd dH:Tq}(F:We K "_law_line_follows" "_law_line_follows" lL ao fd)(A:gN mg)
  (GH:Qy P w K mg base Z5 1 fH dH ["_law_found"] (lJ K))(kH:KI K fH)(bH:zk K dH ["_law_found"] [])(mH:MG mg "_law_whole" fH):
  Qy P w K mg base Z5 2 ao fd ["_law_told","_law_lines","_law_k","_law_pair"] ub:=by
 refine F.ok v5 (λvs H az ay h=>?_) (λaK aJ aR s H vs az ay hr h=>?_)
 .obtain⟨a,L,us,lv,pq,tl,pr,ls,k,x,y,r,rfl,_⟩:=h;rfl
 obtain⟨a,L,us,lv,pq,tl,pr,ls,k,x,y,r,rfl,ha,au,aO,aN,hL,aD,hk,ok,q⟩:=h;have g:=v5.nd;have E:=hr.units;exists _,(Qc (Rt (Qm Zc (pv 1) (pv 2)) (Vx rfl (Zn (Zz 4 g) (Zn (Zz 5 g) (Zn (Zz 6 g) Wm)))))
  (Qc (Q8 (Qn Xn (Qm Qo (pv 6) Qi) Zk (Qr _))
  (Qc (Qz 7 g (Qm Qo (pv 6) Qi))
  (Qc (Q8 (PW.pt (Y1 (Yn (Yb (Zl GH hr rfl mH kH bH .nil Q7 (Qa (pv 7) Qe)))) (Y1 (Qn Vg (pv 7) Qi (Qr _)) (Xp (Qn jU (pv 7) (Qp Zm rfl A.len Gx (Qa (pv 0) Qe)) (Qr _))))))
  (Qh (Qt Yf)) Qv)
  (Qh (Qt (W0 (Uq E) (Qm Zc (pv 0) (pv 7)) (Zg (Qa Zk (Qa (pv 4) (Qa (pv 5) Qe)))) (Qr _)))))) Qv)
  (Qc (Q8 (Qn Xn (Qm Qo (pv 6) Qi) Zk (Qr _))
  (Qh (Qt (W0 (Uq E) (pv 3) (Zg (Qa (pv 4) (Qa (pv 5) Qe))) (Qr _)))) Qv)
  (Qc (Q8 (Qn Xn (Qm Qo (pv 6) Qi) Zk (Qr _))
  (Qc (Qz 7 g (Qm Qo (pv 6) Qi))
  (Qc (Q8 (PW.pt (Y1 (Yn (Yb (Zl GH hr rfl mH kH bH .nil Q7 (Qa (pv 7) Qe)))) (Y1 (Qn Vg (pv 7) Qi (Qr _)) (Xp (Qn jU (pv 7) (pv 2) (Qr _))))))
  (Qh (Qt Yf)) Qv)
  (Qh (Qt (W0 (Uq E) (Yc Vy (Qm Zc (pv 1) (pv 7)) Xo (Yk Qi)) (Zg (Qa (pv 5) (Qa (pv 4) Qe))) (Qr _)))))) Qv)
  (Qc (Q8 (Yn (Yb (Qp Y2 rfl A.isinstance Ta (Qa (Qm Qo (pv 6) Qi) (Qa (Xs (v:=.ty "list") rfl A.list Tt Xb) Qe)))))
  (Qh (Qt Yf)) Qv)
  (Qc (Z6 Gy rfl (Yg (Qm Qo (pv 6) Qi)) (Zz 7 g)
  (Qh (Q8 (PW.pt (Y1 (Yn (Yb (Zl GH hr rfl mH kH bH .nil Q7 (Qa (pv 7) Qe)))) (Y1 (Qn Vg (pv 7) Qi (Qr _)) (Xp (Qn jU (pv 7) (pv 2) (Qr _))))))
  (Qh (Qt Yf)) Qv)))
  (Qc (Ue (i:=8) (own:=["_law_number"]) (fv:=[(1,"_law_lines")]) g rfl rfl rfl (S:=(by eq_refl:Xy (Ql lL) _)) (.cons rfl (T3 Xb) rfl .nil) (Yg (Qm Qo (pv 6) Qi))
   (λ_ _ _ _ _=>Xc (i:=0) Pb rfl (T3 Xb) (DJ Xb)) (λ_ _ _ _ _=>Wb) (λ_ _ _ _ _=>(Qm (r:=yO K) Zc (pv 1) (pv 0))))
  (Qc (Q8 (Qn Xn (Qm Qo (pv 6) Qi) Zk (Qr _))
  (Qc (Qz 9 g (pv 4))
  (Qc (Z6 Gy rfl (Yg (pv 8)) (Zz 10 g)
  (Qc (Q8 (Qn (jq E) (Qm Qo (pv 10) Qi) (pv 9) (Qr _))
  (Qh (Qt Yf)) Qv)
  (Qh (Qz 9 g (Qm Qo (pv 10) Qi)))))
  (Qh (Qt (W0 (Uq E) (pv 9) (pv 5) (Qr _)))))) Qv)
  (Qc (Q8 (PW.pt (Y1 (Qn Uc (Qm Qo (pv 6) Qi) Zk (Qr _)) (Y1 (Qn Uc (Qm Qo (pv 4) Qi) (Qm Qo (pv 5) Qi) (Qr _)) (Xp (Qn Uc (Qp Zm rfl A.len Gx (Qa (pv 4) Qe)) (Qp Zm rfl A.len Gx (Qa (pv 5) Qe)) (Qr _))))))
  (Qh (Qt Yf)) Qv)
  (Qc (Q8 (Qn Uc (Qp Zm rfl A.len Gx (Qa (pv 8) Qe)) (Zt jz (Qp Zm rfl A.len Gx (Qa (pv 4) Qe)) Qi) (Qr _))
  (Qh (Qt Yf)) Qv)
  (Qc (Z6 Gy rfl (V7 rfl A.range (Qa (Qp Zm rfl A.len Gx (Qa (pv 8) Qe)) Qe)) (Zz 11 g)
  (Qh (Q8 (PW.pt (Y1 (Qn (jq E) (Qm Qo (Qm Zc (pv 8) (pv 11)) Qi) (Qm Qo (pv 4) (Zt R7 (pv 11) Qi)) (Qr _)) (Xp (Qn (jq E) (Qm Qo (Qm Zc (pv 8) (pv 11)) Qi) (Qm Qo (pv 5) (Zt R7 (pv 11) Qi)) (Qr _)))))
  (Qh (Qt Yf)) Qv)))
  (Qh (Qt Yf)))))))))))))
 have aP:lv.length=ls.length:=Gq hL.pr;have aQ:us.length=tl.length:=Gq au;have aM:k<ls.length:=(List.getElem?_eq_some_iff.mp hk).1;have l9:=hL.len;subst_vars;obtain⟨u,eu⟩:∃u,lv[k]?=Ga u:={_,List.getElem?_eq_getElem (by ext)};obtain⟨l',R,c,v1,v2,rv,rfl,hc,G,J,hr',_⟩:=Qw hL.pr eu;and_intros;rw[hk]at R;cases R;obtain⟨gx,gy⟩:=hL.good _ (List.mem_of_getElem? hk);have ad:∀{n:Nat}{l:Lt},(ls.take k)[n]?=Ga l->n<k/\∃c v1 v2 rv,lv[n]?=Ga (.ref c)/\H c=Ga (.tup [v1,v2,rv])/\Zv H v1 l.1/\Zv H v2 l.2.1/\l.1.good/\l.2.1.good:=λ{n l}h=>by obtain⟨h1,h2⟩:=ou h;obtain⟨u,eu⟩:∃u,lv[n]?=Ga u:={_,List.getElem?_eq_getElem (by ext)};obtain⟨l',R,c,v1,v2,rv,rfl,hc,G,J,_⟩:=Qw hL.pr eu;rw[h2]at R;cases R;exact{h1,c,v1,v2,rv,eu,hc,G,J,(hL.good _ (List.mem_of_getElem? h2)).1,(hL.good _ (List.mem_of_getElem? h2)).2}
 cases r with
 |told n=>obtain⟨c',rfl,hc'⟩:=hr';have ok:tl[n]?=Ga (Gf,x,y):=ok;have hn:=(List.getElem?_eq_some_iff.mp ok).1;obtain⟨w',ew⟩:∃w',us[n]?=Ga w':={_,List.getElem?_eq_getElem (by ext)};obtain⟨p,ep,d,W,O,rfl,f,B,C⟩:=Qw au ew;rw[ok]at ep;cases ep;exists _,Xb,_,Xb,L,lv,_,_,Xb,Xb,Za.of hL.at_,Qj eu,c,_,Xb,Q9.of hc,Xb,_,_,Xb,_,_,Xb,_,_,Xb,Xb;exists _,Xb,c',_,_,_,Xb,Xb,Q9.of hc',Qj (j:=0) rfl,Xb,_,Xb;rw[Zb,I3];refine Yp ?_;exists _,Xb,c',_,_,_,Xb,Xb,Q9.of hc',Qj (j:=1) rfl;refine{_,Xb,_,_,Gf,Gs,Xb,.int _,jM,jj,Gf,Xb,Q5 ?_};exists _,Xb,_,_,Xb,Xb,_,Xb;rw[Gr (show¬((n:Int)<0) by ext)];refine Q5 ?_;exists _,Xb,_,Xb,_,_,Xb,.inl {_,Za.of ha,Xb},_,_,Xb,Xb,_,Xb;rw[Gr (show¬((n:Int)>=((us.length:Nat):Int)) by ext)];refine Q5 ?_;refine{_,Xb,_,Xb,a,us,_,_,Xb,Xb,Za.of ha,Qj ew,_,Xb,_,Xb,by show 3<=Gj;decide,λc3 hc3=>?_};have s3:=Qf hc3 (.tup [.str "same",v1,v2]);exact IF (B4 Gf) (s3 _ _ f) Qb (B.same s3) (C.same s3) (G.same s3) (J.same s3) gx gy (q _ s3)
 |asked=>obtain⟨c',rfl,hc'⟩:=hr';have ok:pr=Ga (x,y):=ok;subst ok;obtain⟨d,W,O,rfl,f,B,C,_,_⟩:=aD;exists _,Xb,_,Xb,L,lv,_,_,Xb,Xb,Za.of hL.at_,Qj eu,c,_,Xb,Q9.of hc,Xb,_,_,Xb,_,_,Xb,_,_,Xb,Xb;exists _,Xb,c',_,_,_,Xb,Xb,Q9.of hc',Qj (j:=0) rfl,Xb,_,Xb;rw[Zb,zU];refine Q5 ?_;exists _,Xb,c',_,_,_,Xb,Xb,Q9.of hc',Qj (j:=0) rfl,Xb,_,Xb;rw[Zb,BV];refine Yp ?_;refine{_,Xb,_,Xb,_,Xb,by show 2<=Gj;decide,λc3 hc3=>?_};have s3:=Qf hc3 (.tup [v1,v2]);exact rG (s3 _ _ f) Qb (B.same s3) (C.same s3) (G.same s3) (J.same s3) gx gy (q _ s3)
 |turn n=>obtain⟨c',rfl,hc'⟩:=hr';obtain⟨r2,ok⟩:=ok;obtain⟨hn,d,W,O,ax,ed,f,B,C,_,_⟩:=ad ok;exists _,Xb,_,Xb,L,lv,_,_,Xb,Xb,Za.of hL.at_,Qj eu,c,_,Xb,Q9.of hc,Xb,_,_,Xb,_,_,Xb,_,_,Xb,Xb;exists _,Xb,c',_,_,_,Xb,Xb,Q9.of hc',Qj (j:=0) rfl,Xb,_,Xb;rw[Zb,zX];refine Q5 ?_;exists _,Xb,c',_,_,_,Xb,Xb,Q9.of hc',Qj (j:=0) rfl,Xb,_,Xb;rw[Zb,P4];refine Q5 ?_;exists _,Xb,c',_,_,_,Xb,Xb,Q9.of hc',Qj (j:=0) rfl,Xb,_,Xb;rw[Zb,JQ];refine Yp ?_;exists _,Xb,c',_,_,_,Xb,Xb,Q9.of hc',Qj (j:=1) rfl;refine{_,Xb,_,_,Gf,Gs,Xb,.int _,jM,jj,Gf,Xb,Q5 ?_};exists _,Xb,_,_,Xb,Xb,_,Xb;rw[Gr (show¬((n:Int)<0) by ext)];refine Q5 ?_;exists _,Xb,_,Xb,_,_,Xb,Xb,_,Xb;rw[Gr (show¬((n:Int)>=(k:Int)) by ext)];refine Q5 ?_;refine{_,Xb,_,Xb,L,lv,_,_,Xb,Xb,Za.of hL.at_,Qj ed,_,Xb,d,_,Xb,Q9.of f,HX _ 2 (by show 2<3;decide),λc4 aC=>?_};have s4:=Qf aC (.tup [W,O]);refine{_,Xb,_,Xb,by show 2<=Gj;decide,λc3 hc3=>?_};have s3:=Qf hc3 (.tup [v2,v1]);have U:=s4.trans s3;exact rG (s3 _ _ Qb) Qb (B.same U) (C.same U) (J.same U) (G.same U) gy gx (q _ U)
 |chain ks=>
  obtain⟨c',l,rfl,hc',hl,_,aE⟩:=hr';have ok:ie (ls.take k) x ks y:=ok;have lt:∀n∈ks,∃l,(ls.take k)[n]?=Ga l:=sC ok;infer_instance;exists _,Xb,c',_,_,_,Xb,Xb,Q9.of (s1 _ _ hc'),Qj (j:=0) rfl,Xb,_,Xb;rw[Zb,AZ];refine Yp ?_;exists _,Xb;let aH:Nat->St->Hp->Prop:=λi σ H3=>jF λ(hv:V)(t:Th)(af:Option V)=>iZ (σ=[Ga (.ref a),Ga (.ref L),Ga (.int (k:Int)),Ga pq,Ga v1,Ga v2,Ga (.ref c'),x7,Ga (.ref p),Ga hv,af,Gh]) (H3=H2) (Zv H2 hv t) (t.good) (ie (ls.take k) t (ks.drop i) y)
  refine⟨_,Xb,p,Xb,{_,Za.of hp2},Y9 (K:=K) (a:=p) (xs:=rowsOf lv ks) aH
   {v1,x,_,Xb,Xb,G.same s1,gx,by rw[List.drop_zero];exact ok} (by rintro i σ H3 _ ⟨_,_,_,_,e,_⟩;exact Za.of (by rw[e];exact hp2)) ?_ ?_⟩
  .rintro i u σ H3 hi ⟨hv,t,af,rfl,rfl,th,tg,Z⟩;subst_vars;obtain⟨n,en,aB⟩:∃n,ks[i]?=Ga n/\lv.getD n .non=u:=by
    unfold rowsOf at hi;rw[List.getElem?_map]at hi;cases e:ks[i]? with
    |none=>rw[e]at hi;cases hi
    |some n=>rw[e]at hi;exact{n,Xb,Ti hi}
   obtain⟨m,r3,e3,aA⟩:=JV ok en t Z;obtain⟨hn,d,W,O,ax,ed,f,B,C,g3,g4⟩:=ad e3;and_intros;have:u=.ref d:=by rw[<-aB,List.getD_eq_getElem?_getD,ed];rfl
   subst this;refine{_,Xb,d,_,_,_,Xb,Xb,Q9.of (s1 _ _ f),Qj (j:=0) rfl,_,Xb,oh (B.same s1) th tg {_,Xb,Q5 ?_}};exists _,Xb,d,_,_,_,Xb,Xb,Q9.of (s1 _ _ f),Qj (j:=1) rfl;exact{O,m,_,Xb,Xb,C.same s1,g4,aA}
  .rintro σ H3 ⟨hv,t,af,rfl,rfl,th,tg,Z⟩;rw[show(rowsOf lv ks).length=ks.length from List.length_map _,List.drop_length]at Z;have:t=y:=Z;subst this;exact{_,Xb,_,Xb,oD th (J.same s1) tg (q _ s1)}
 |like ks=>
  obtain⟨c',l,rfl,hc',hl,_,aE⟩:=hr';obtain⟨o1,o2,o3,o4⟩:=(show x.word=y.word/\x.parts.length=y.parts.length/\ks.length=x.parts.length/\_ from ok);have lt:∀n∈ks,∃l,(ls.take k)[n]?=Ga l:=λn hn=>by obtain⟨j,S⟩:=List.mem_iff_getElem?.mp hn;have aL:=(List.getElem?_eq_some_iff.mp S).1;obtain⟨r,h⟩:=o4 j n _ _ S (List.getElem?_eq_getElem (by ext)) (List.getElem?_eq_getElem (by ext));exact{_,h}
  infer_instance;exists _,Xb,c',_,_,_,Xb,Xb,Q9.of (s1 _ _ hc'),Qj (j:=0) rfl,Xb,_,Xb;rw[Zb,Pg];refine Q5 ?_;obtain⟨b1,Q,X,ae,rfl,rfl,aa,ap⟩:=(G.same s1).inv;obtain⟨b2,Y,ab,aw,rfl,rfl,ac,aq⟩:=(J.same s1).inv;have o1:Q=Y:=o1;have o2:ae.length=aw.length:=o2;have o3:ks.length=ae.length:=o3;have av:=ap.length;have aG:=aq.length;exists _,Xb,c',_,_,_,Xb,Xb,Q9.of (s1 _ _ hc'),Qj (j:=0) rfl,Xb,_,Xb;rw[Zb,Kg];refine Q5 ?_;exists _,Xb,b1,_,_,_,Xb,Xb,Q9.of aa,Qj (j:=0) rfl,_,Xb,b2,_,_,_,Xb,Xb,Q9.of ac,Qj (j:=0) rfl,Xb,_,Xb;rw[Gw (show V.str Q=V.str Y by rw[o1])];refine Q5 ?_;exists _,Xb,_,_,Xb,.inr {_,Q9.of aa,Xb},_,Xb,_,_,Xb,.inr {_,Q9.of ac,Xb},Xb,_,Xb;rw[Gw (show V.int (((V.str Q::X).length:Nat):Int)=V.int (((V.str Y::ab).length:Nat):Int) by rw[List.length_cons,List.length_cons,av,aG,o2])];refine Q5 ?_;have aF:(rowsOf lv ks).length=ks.length:=List.length_map _;exists _,Xb,_,_,Xb,.inl {_,Za.of hp2,Xb},_,Xb,_,_,Xb,.inr {_,Q9.of aa,Xb},_,_,Xb,Xb,Xb,_,Xb;rw[Gw (show V.int (((rowsOf lv ks).length:Nat):Int)=V.int ((((V.str Q::X).length:Nat):Int) - 1) by rw[List.length_cons,aF,av,o3];congr 1;ext)];refine Q5 ?_;let aI:Nat->St->Hp->Prop:=λj σ H3=>iN λ(ag:Option V)=>mJ (σ=[Ga (.ref a),Ga (.ref L),Ga (.int (k:Int)),Ga pq,Ga (.ref b1),Ga (.ref b2),Ga (.ref c'),x7,Ga (.ref p),Gh,Gh,ag]) (H3=H2)
  refine⟨_,Xb,_,_,Xb,.inl {_,Za.of hp2,Xb},_,Xb,by ext,by ext,V6 (lo:=0) (n:=(((rowsOf lv ks).length:Int)).toNat) aI
   {_,Xb,Xb} ?_ ?_⟩
  .rintro j σ H3 S ⟨ag,rfl,rfl⟩;have S:j<ks.length:=by ext
   have en:ks[j]?=Ga ks[j]:=List.getElem?_eq_getElem S;subst_vars;obtain⟨p1,ah⟩:∃p1,ae[j]?=Ga p1:={_,List.getElem?_eq_getElem (by ext)};obtain⟨p2,ai⟩:∃p2,aw[j]?=Ga p2:={_,List.getElem?_eq_getElem (by ext)};obtain⟨r3,e3⟩:=o4 j _ p1 p2 en ah ai;obtain⟨hn,d,W,O,ax,ed,f,B,C,g3,g4⟩:=ad e3;obtain⟨z1,am⟩:∃z,X[j]?=Ga z:={_,List.getElem?_eq_getElem (by ext)};obtain⟨z2,an⟩:∃z,ab[j]?=Ga z:={_,List.getElem?_eq_getElem (by ext)};obtain⟨y1,aj,i1⟩:=ap.get am;obtain⟨y2,ak,i2⟩:=aq.get an;and_intros;rw[ah]at aj;cases aj;rw[ai]at ak;cases ak;have er:(rowsOf lv ks)[j]?=Ga (.ref d):=by unfold rowsOf;rw[List.getElem?_map,en];show Ga (lv.getD ks[j] .non)=_;rw[List.getD_eq_getElem?_getD,ed];rfl
   have ar:atI (rowsOf lv ks) (0+(j:Int))=Ga (.ref d):=by rw[DT];exact Qj er
   have a1:atI (V.str Q::X) (0+(j:Int)+1)=Ga z1:=by rw[DT];exact Qj (xs:=V.str Q::X) (j:=j+1) (by rw[List.getElem?_cons_succ];exact am)
   have a2:atI (V.str Y::ab) (0+(j:Int)+1)=Ga z2:=by rw[DT];exact Qj (xs:=V.str Y::ab) (j:=j+1) (by rw[List.getElem?_cons_succ];exact an)
   refine{_,Xb,_,Xb,p,_,_,_,Xb,Xb,Za.of hp2,ar,d,_,_,_,Xb,Xb,Q9.of (s1 _ _ f),Qj (j:=0) rfl,_,Xb,_,Xb,_,_,Xb,Xb,b1,_,_,_,Xb,Xb,Q9.of aa,a1,oh (B.same s1) i1 g3 {_,Xb,Q5 ?_}};refine{_,Xb,_,Xb,p,_,_,_,Xb,Xb,Za.of hp2,ar,d,_,_,_,Xb,Xb,Q9.of (s1 _ _ f),Qj (j:=1) rfl,_,Xb,_,Xb,_,_,Xb,Xb,b2,_,_,_,Xb,Xb,Q9.of ac,a2,oh (C.same s1) i2 g4 {_,Xb,Q5 ?_}};exact{_,Xb,Xb}
  .rintro σ H3 ⟨ag,rfl,rfl⟩;exact q _ s1
end
theorem Rj.Bl{H:Hp}{X:Gc->Prop}{v:V}:∀{r:Lr},Rj H X v r->∃e d Xx,v=.ref e/\H e=Ga (.tup (.str d::Xx))/\(((V.str d::Xx).length:Nat):Int)=2 - (if decide (V.str d=V.str "asked")=Gf then 1 else 0)
 |.told n,⟨c,a,b⟩=>{c,_,_,a,b,by rw[Zb,show(("told":Tb)=="asked")=Gs by decide+kernel];rfl}
 |.asked,⟨c,a,b⟩=>{c,_,_,a,b,by rw[Zb,show(("asked":Tb)=="asked")=Gf by decide+kernel];rfl}
 |.turn n,⟨c,a,b⟩=>{c,_,_,a,b,by rw[Zb,show(("turn":Tb)=="asked")=Gs by decide+kernel];rfl}
 |.chain f,⟨c,l,a,b,_⟩=>{c,_,_,a,b,by rw[Zb,show(("chain":Tb)=="asked")=Gs by decide+kernel];rfl}
 |.like f,⟨c,l,a,b,_⟩=>{c,_,_,a,b,by rw[Zb,show(("like":Tb)=="asked")=Gs by decide+kernel];rfl}
def lrD:Lr->D4
 |.told n=>.tuple [.str "told",.int n]
 |.asked=>.tuple [.str "asked"]
 |.turn n=>.tuple [.str "turn",.int n]
 |.chain a=>.tuple [.str "chain",.list ((a.map λn:Nat=>(n:Int)).map De)]
 |.like a=>.tuple [.str "like",.list ((a.map λn:Nat=>(n:Int)).map De)]
theorem tx(a:List Nat):a.map jv=(a.map λn:Nat=>(n:Int)).map V.int:=by rw[List.map_map];rfl
theorem JT{H:Hp}{X:Gc->Prop}{v:V}:∀{r:Lr},Rj H X v r->Dt H v (lrD r)
 |.told n,⟨c,a,b⟩=>by subst a;exact .tup b (.cons (.str _) (.cons (.int _) .nil))
 |.asked,⟨c,a,b⟩=>by subst a;exact .tup b (.cons (.str _) .nil)
 |.turn n,⟨c,a,b⟩=>by subst a;exact .tup b (.cons (.str _) (.cons (.int _) .nil))
 |.chain e,⟨c,l,a,b,d,_⟩=>by subst a;exact .tup b (.cons (.str _) (.cons (.lst d (by rw[tx];exact Vb _)) .nil))
 |.like e,⟨c,l,a,b,d,_⟩=>by subst a;exact .tup b (.cons (.str _) (.cons (.lst d (by rw[tx];exact Vb _)) .nil))
theorem Kc:∀r:Lr,(lrD r).canLay0=Gf
 |.told n=>by simp[lrD,Td,GO];decide+kernel
 |.asked=>by simp[lrD,Td,GO];decide+kernel
 |.turn n=>by simp[lrD,Td,GO];decide+kernel
 |.chain b=>by
  have h:=Wr (b.map λn:Nat=>(n:Int));have a:TR ("chain":Tb)=Gf:=by decide+kernel
  simp only[lrD,Td,GO,h,a,Ey,Ez]
 |.like b=>by
  have h:=Wr (b.map λn:Nat=>(n:Int));have a:TR ("like":Tb)=Gf:=by decide+kernel
  simp only[lrD,Td,GO,h,a,Ey,Ez]
def ltD(l:Lt):D4:=.tuple [l.1.toD,l.2.1.toD,lrD l.2.2]
theorem iE.dts{L:Gc}{d:List V}{b:List Lt}(h:iE H L d b):gz H d (b.map ltD)/\GO (b.map ltD)=Gf:=by
 have o:=h.pr;have a:=h.good;clear h;induction o with
 |nil=>exact{.nil,Xb}
 |@cons v l w b h r n=>obtain⟨k,m⟩:=n λl i=>a l (List.mem_cons_of_mem _ i);obtain⟨c,t,u,s,rfl,g,p,q,j,_⟩:=h;obtain⟨e,f⟩:=a l List.mem_cons_self;exists .cons (.tup g (.cons p.dt (.cons q.dt (.cons (JT j) .nil)))) k;rw[List.map_cons];simp only[GO,ltD,Td,Wi _ e.1,Wi _ f.1,Kc,m,Ey,Ez]
inductive vO(vs:List V)(H:Hp)(Q:VK):Prop
 |mk (a:Gc) (L:Gc) (us:List V) (lv:List V) (o1:V) (o2:V) (pq:V) (tl:Tl) (pr:Option (Th×Th)) (ls:List Lt) (x:Th) (y:Th) (r:Lr) (h0:vs=[.ref a,.ref L,o1,o2,pq]) (h1:H a=Ga (.lst us)) (h2:Rl H us tl) (h3:iu tl) (h4:tl.length<=1000) (h5:iE H L lv ls) (h6:kX tl pr ls) (h7:jZ H pq pr) (h8:Zv H o1 x) (h9:Zv H o2 y) (h10:ls.getLast?=Ga (x,y,r)) (h11:∀H':Hp,Q6 H H'->Q (.bl Gf) H'):vO vs H Q
def v8:Sp:=λa H Q _=>vO a H Q
section
variable{P:Gg}{w:Gu}{K:Gd}{mg:Tb->Option Value}{base:Heap}
theorem sM:Q3 ["_law_told","_law_lines","_law_one","_law_other","_law_pair","_law_k","_law_line"] ["_law_told","_law_lines","_law_one","_law_other","_law_pair"] (Ql p7):=by eq_refl
theorem CU{aa C B:Gc}{fd dT dF:Tq}(F:We K "_law_lines_show" "_law_lines_show" p7 aa fd)(b:gN mg)
  (Y:Qy P w K mg base Z5 1 C dT ["_law_found"] uq)(kT:KI K C)(Z:zk K dT ["_law_found"] [])(mT:MG mg "_law_is_thing" C)
  (GF:Qy P w K mg base Z5 2 B dF ["_law_told","_law_lines","_law_k","_law_pair"] ub)(kF:KI K B)(bF:zk K dF ["_law_told","_law_lines","_law_k","_law_pair"] [])(mF:MG mg "_law_line_follows" B):
  Qy P w K mg base Z5 3 aa fd ["_law_told","_law_lines","_law_one","_law_other","_law_pair"] v8:=by
 refine F.ok sM (λr v p o G=>?_) (λO N S s v r p o I G=>?_)
 .obtain⟨a,j,us,f,o1,o2,L,tl,pr,e,x,y,M,rfl,_⟩:=G;rfl
 obtain⟨a,j,us,f,o1,o2,L,tl,pr,e,x,y,M,rfl,ha,aj,ai,af,d,hg,ag,hx,hy,H,q⟩:=G;have nd:=sM.nd;have J:=I.units;have ac:Yd 1 _:=I.mono (by ext);exists _,(Qc (Q8 (PW.pt (Y1 (Yn (Yb (Qp Y2 rfl b.isinstance Ta (Qa (pv 1) (Qa (Xs (v:=.ty "list") rfl b.list Tt Xb) Qe))))) (Xp (Qn (Uq J) (pv 1) (Zu Qe) (Qr _)))))
  (Qh (Qt Yf)) Qv)
  (Qc (Z6 Gy rfl (V7 rfl b.range (Qa (Qp Zm rfl b.len Gx (Qa (pv 1) Qe)) Qe)) (Zz 5 nd)
  (Qc (Qz 6 nd (Qm Zc (pv 1) (pv 5)))
  (Qc (Q8 (PW.pt (Y1 (Yn (Yb (Qp Y2 rfl b.isinstance Ta (Qa (pv 6) (Qa (Xs (v:=.ty "tuple") rfl b.tuple TM Xb) Qe))))) (Y1 (Qn Uc (Qp Zm rfl b.len Gx (Qa (pv 6) Qe)) Qi (Qr _)) (Xp (Yn (Yb (Qp Y2 rfl b.isinstance Ta (Qa (Qm Qo (pv 6) Qi) (Qa (Xs (v:=.ty "tuple") rfl b.tuple TM Xb) Qe)))))))))
  (Qh (Qt Yf)) Qv)
  (Qc (Q8 (PW.pt (Y1 (Yn (Yb (Zl Y ac rfl mT kT Z .nil Q7 (Qa (Qm Qo (pv 6) Qi) Qe)))) (Y1 (Yn (Yb (Zl Y ac rfl mT kT Z .nil Q7 (Qa (Qm Qo (pv 6) Qi) Qe)))) (Xp (Qn Xn (Qp Zm rfl b.len Gx (Qa (Qm Qo (pv 6) Qi) Qe)) Qi (Qr _))))))
  (Qh (Qt Yf)) Qv)
  (Qc (Q8 (Yn (Yb (Qp Y2 rfl b.isinstance Ta (Qa (Qm Qo (Qm Qo (pv 6) Qi) Qi) (Qa (Xs (v:=.ty "str") rfl b.str Es Xb) Qe)))))
  (Qh (Qt Yf)) Qv)
  (Qc (Q8 (Qn Uc (Qp Zm rfl b.len Gx (Qa (Qm Qo (pv 6) Qi) Qe)) (Zt jz Qi (Xm Ad rfl b.int Lb (Qa (W0 Xn (Qm Qo (Qm Qo (pv 6) Qi) Qi) Zk (Qr _)) Qe))) (Qr _))
  (Qh (Qt Yf)) Qv)
  (Qh (Q8 (Yn (Yb (Zl GF I rfl mF kF bF .nil Q7 (Qa (pv 0) (Qa (pv 1) (Qa (pv 5) (Qa (pv 4) Qe)))))))
  (Qh (Qt Yf)) Qv))))))))
  (Qh (Qt (pV (W0 (Uq J) (Qm Qo (Qm Zc (pv 1) (Jf Vn Qi)) Qi) (pv 2) (Qr _)) (lW (W0 (Uq J) (Qm Qo (Qm Zc (pv 1) (Jf Vn Qi)) Qi) (pv 3) (Qr _))))))))
 have am:f.length=e.length:=Gq d.pr;have l9:=d.len;have ab:e≠[]:=λz=>by rw[z]at H;cases H
 have ao:0<e.length:=List.length_pos_iff.mpr ab;obtain⟨an,ak⟩:=d.dts;refine{_,Xb,_,_,_,Gf,Xb,.lst d.at_,jR,Gf,Xb,Q5 ?_};refine{_,Xb,Gz _,λz hz=>?_};have n:=Qf hz (.lst []);exists .list (e.map ltD),.list [],.lst (n _ _ d.at_) (d.same n).dts.1,.lst Qb .nil,by simp only[Td];exact ak,by simp[Td,GO],?_,_,Xb
 .simp only[T5,Tu];ext
 have ev:Tg (.list (e.map ltD)) (.list [])=Gs:=by
  simp only[Tg];rw[Ju];cases e with
  |nil=>exact absurd rfl ab
  |cons t M=>simp
 rw[ev];refine Q5 ?_;generalize zj v z (.lst [])=H1 at n;refine⟨_,Xb,_,_,Xb,.inl {_,Za.of (n _ _ d.at_),Xb},_,Xb,by ext,by ext,V6 (lo:=0) (n:=((f.length:Int)).toNat) (λi X A=>∃T U:Option V,X=[Ga (.ref a),Ga (.ref j),Ga o1,Ga o2,Ga L,T,U]/\Q6 v A)
  {_,_,Xb,n} ?_ ?_⟩
 .rintro i X A hi ⟨T,U,rfl,h⟩;have hi:i<e.length:=by ext
  have l:=d.same h;subst_vars;obtain⟨u,m⟩:∃u,f[i]?=Ga u:={_,List.getElem?_eq_getElem (by ext)};obtain⟨⟨S,W,r'⟩,k,c,v1,v2,rv,rfl,g,Q,R,ae,_⟩:=Qw l.pr m;obtain⟨D,E⟩:=d.good _ (List.mem_of_getElem? k);obtain⟨rc,wd,Xx,rfl,ad,ah⟩:=ae.Bl;and_intros;exists _,Xb,_,Xb,j,f,_,_,Xb,Xb,Za.of l.at_,(by rw[DT];exact Qj m);refine{_,Xb,_,_,_,Gf,Xb,.tup g,Rw,Gf,Xb,Q5 ?_};exists _,Xb,_,_,Xb,.inr {_,Q9.of g,Xb},Xb,_,Xb;rw[Gw (by rfl)];refine Q5 ?_;refine{_,Xb,c,_,_,_,Xb,Xb,Q9.of g,Qj (j:=2) rfl,_,_,_,Gf,Xb,.tup ad,Rw,Gf,Xb,Q5 ?_};refine{_,Xb,c,_,_,_,Xb,Xb,Q9.of g,Qj (j:=0) rfl,v1,S,Xb,Q,D,λH3 N=>{Gf,Xb,Q5 ?_}};refine{_,Xb,c,_,_,_,Xb,Xb,Q9.of (N _ _ g),Qj (j:=1) rfl,v2,W,Xb,R.same N,E,λH4 s4=>{Gf,Xb,Q5 ?_}};have O:=N.trans s4;have p:=O _ _ g;have r:=O _ _ ad;exists _,Xb,c,_,_,_,Xb,Xb,Q9.of p,Qj (j:=2) rfl,_,_,Xb,.inr {_,Q9.of r,Xb},Xb,_,Xb;rw[Gr (show¬V.int (((V.str wd::Xx).length:Nat):Int)=V.int 0 by rw[List.length_cons];intro z;injection z with z;ext)];refine Q5 ?_;refine{_,Xb,c,_,_,_,Xb,Xb,Q9.of p,Qj (j:=2) rfl,rc,_,_,_,Xb,Xb,Q9.of r,Qj (j:=0) rfl,_,_,_,Gf,Xb,.str _,jC,Gf,Xb,Q5 ?_};refine{_,Xb,c,_,_,_,Xb,Xb,Q9.of p,Qj (j:=2) rfl,_,_,Xb,.inr {_,Q9.of r,Xb},_,Xb,c,_,_,_,Xb,Xb,Q9.of p,Qj (j:=2) rfl,rc,_,_,_,Xb,Xb,Q9.of r,Qj (j:=0) rfl,Xb,.inr {_,Xb,_,_,Xb,Xb,Xb,_,Xb,?_}};rw[Gw (by rw[ah])];refine Q5 ?_;have o:=h.trans O;refine{_,Xb,_,Xb,_,Xb,_,Xb,a,j,us,f,L,tl,pr,e,i,S,W,r',(by rw[DT];rfl),o _ _ ha,aj.Qs (Q4.of o),ai,af,d.same o,ag.same o,k,hg i S W r' k,λH5 s5=>{Gf,Xb,Q5 ?_}};exact{_,_,Xb,o.trans s5}
 .rintro X A ⟨T,U,rfl,h⟩;have l:=d.same h;have k:e[e.length - 1]?=Ga (x,y,M):=by rw[<-List.getLast?_eq_getElem?];exact H
  subst_vars;obtain⟨u,m⟩:∃u,f[e.length - 1]?=Ga u:={_,List.getElem?_eq_getElem (by ext)};obtain⟨r,p,c,v1,v2,rv,rfl,g,Q,R,ae,_⟩:=Qw l.pr m;and_intros;rw[k]at p;cases p;obtain⟨D,E⟩:=d.good _ (List.mem_of_getElem? k);have o:atI f (-1)=Ga (.ref c):=HU (by rw[am];exact m);refine{_,Xb,_,Xb,j,f,_,_,Xb,Xb,Za.of l.at_,o,c,_,_,_,Xb,Xb,Q9.of g,Qj (j:=0) rfl,_,Xb,oD Q (hx.same h) D {Gf,Xb,Yp ?_}};exact{_,Xb,_,Xb,j,f,_,_,Xb,Xb,Za.of l.at_,o,c,_,_,_,Xb,Xb,Q9.of g,Qj (j:=1) rfl,_,Xb,oD R (hy.same h) E (q _ h)}
end
end K03
namespace L2
open PySem PySem.Spec PyProof.Rows
inductive uB(P:Gg)(w:Gu)(x:V)(vs:List V)(H:Hp)(Q:VK):Prop
 |mk (d:_) (b:_) (dv:_) (zw:_) (k:_) (h0:x=.ref d) (h1:vs=[.ref b,dv]) (h2:DH P w H d zw) (h3:Og H b k) (h4:Q ((Yh zw k).getD dv) H):uB P w x vs H Q
def vt(P:Gg)(w:Gu):V->List V->Hp->VK->Prop:=λx a H Q=>uB P w x a H Q
theorem y6{X:Cx}(a:X.A.units+64<DA):hH X "dict.get" (vt X.prog X.w):=by
 intro i s C H x B v A Q I t r h;obtain⟨d,b,j,c,k,rfl,rfl,D,m,q⟩:=h;cases(show v=Value.ref d from t);obtain⟨u,w,rfl,n,o⟩:=vals2 r;cases(show u=Value.ref b from n);obtain⟨z,l,f,e,g⟩:=jy I D.at_ D.keys;refine SU F.slot_dict_get g.typeIs F.entry_dict_get (F.args_dict_get_3 _ _ _) (meetsH_dict_get_default (Vp X.prog X.w) d b l w) {by first|(show X.A.units+1+10<DA;ext)|(show X.A.units+1+1+10<DA;ext),k,f,m.is I,g,?_};have a:=e.val k;cases q1:Yh c k with
 |some y=>
  rw[q1]at a q;cases q2:atKey f k with
  |none=>rw[q2]at a;exact(show False from a).elim
  |some p=>rw[q2]at a;exact{y,H,I.tok _,a,q}
 |none=>
  rw[q1]at a q;cases q2:atKey f k with
  |some p=>rw[q2]at a;exact(show False from a).elim
  |none=>exact{j,H,I.tok _,o,q}
end L2
namespace K03
open PySem L2 Sb
variable{H:Hp}{rs:List Row}{n:Nat}{f:Gc}{fd:Tq}{v:V}{r:Row}
structure iS(H:Hp)(R:Gc)(es:List V)(rs:List Row):Prop where
 at_:H R=Ga (.lst es)
 pr:Paired (Uh H iw) es rs
 len:rs.length<=100000
 ok:∀r∈rs,TR r.1=Gf
 few:∀r∈rs,r.2.1.length<=1000
 nd:(rs.map λr=>(r.1,r.2.1)).Nodup
theorem iS.same{a:Hp}(e:Q6 H a){R:Gc}{b:List V}(h:iS H R b rs):iS a R b rs:=
 {e _ _ h.at_,L2.Paired.Z8 h.pr λ_ _ h=>h.kp (λh=>e _ _ h) (λh _=>e _ _ h),h.len,h.ok,h.few,h.nd}
structure qw(S:List Th)(L:Th->Nat)(rs:List Row):Prop where
 cl:∀t∈S,∀p∈t.parts,p∈S
 good:∀t∈S,t.good
 mem:∀t∈S,(t.word,t.parts.map L,L t)∈rs
inductive vU(vs:List V)(H:Hp)(Q:VK):Prop
 |mk (R:Gc) (v:V) (es:List V) (rs:List Row) (S:List Th) (L:Th->Nat) (t:Th) (h0:vs=[.ref R,v]) (h1:iS H R es rs) (h2:qw S L rs) (h3:t∈S) (h4:Zv H v t) (h5:∀H':Hp,Q6 H H'->Q (jv (L t)) H'):vU vs H Q
def vo:Sp:=λa H Q _=>vU a H Q
inductive iC(P:Gg)(w:Gu)(H:Hp)(d:Gc)(n:Nat)(S:Th->Prop)(L:Th->Nat):Prop
 |mk (zw:List KE) (h0:zw.length<=n) (h1:H d=Ga (V5 P w d zw)) (h2:V9 H zw) (h3:∀t,S t->Yh zw (kd t)=Ga (jv (L t))):iC P w H d n S L
theorem iC.same{P:Gg}{w:Gu}{b:Hp}(e:Q6 H b){d:Gc}{S:Th->Prop}{L:Th->Nat}(h:iC P w H d n S L):iC P w b d n S L:=by obtain⟨a,c,f,g,i⟩:=h;exact{a,c,e _ _ f,Zi (Q4.of e) g,i}
theorem iC.set{P:Gg}{w:Gu}{d b:Gc}{S:Th->Prop}{L:Th->Nat}{t:Th}{Q:Hp->Prop}(N:iC P w H d n S L)(c:n<=1000000)(ok:t.ok=Gf)(j:t.depth<=8)(h:Zv H (.ref b) t)
  (q:∀c,(∀e o,H e=Ga o->e≠d->c e=Ga o)->iC P w c d (n+1) (λu=>S u\/u=t) L->Q c):lC P w (.ref d) (.ref b) (jv (L t)) H Q:=by
 obtain⟨a,c,f,g,k⟩:=N;have i:=R8 h ok j;refine{d,b,kd t,a,Xb,Xb,⟨f,g⟩,i,by rw[GV];ext,q _ (λe o h c=>by rw[Qg c];exact h) ?_};have m:Q4 H (zj H d (V5 P w d (Ww a (kd t) b (jv (L t))))):=Z0 λp e=>by rw[f]at e;cases e
 refine{_,Tw (O7 _ _ _ _) (by ext),Qb,Zi m (g.put i),λu l=>?_};rw[U3];by_cases e:u=t
 .subst e;exact Gp rfl
 .rw[Gi (λz=>e (Oh z))];exact k u (l.resolve_right e)
theorem JK{w:Tb}{ns:List Nat}(nd:(rs.map λr=>(r.1,r.2.1)).Nodup)(h:(w,ns,n)∈rs):(rs.filter λr=>decide (r.1=w)).filter (λr=>decide (r.2.1=ns))=[(w,ns,n)]:=by
 induction rs with
 |nil=>cases h
 |cons r rs a=>
  rw[List.map_cons,List.nodup_cons]at nd;obtain⟨c,d⟩:=nd;rcases List.mem_cons.mp h with z|z
  .subst z;have Gh:(rs.filter λr=>decide (r.1=w)).filter (λr=>decide (r.2.1=ns))=[]:=by rw[List.filter_filter,List.filter_eq_nil_iff];intro r b e;simp only[Tn,decide_eq_true_eq]at e;exact c (List.mem_map.mpr {r,b,by rw[<-e.1,<-e.2]})
   rw[List.filter_cons_of_pos (by simp),List.filter_cons_of_pos (by simp),Gh]
  .have a:=a d z;by_cases e:r.1=w
   .rw[List.filter_cons_of_pos (by simp[e])];rw[List.filter_cons_of_neg,a];intro b;have b:r.2.1=ns:=TC b;exact c (List.mem_map.mpr {(w,ns,n),z,by rw[<-e,<-b]})
   .rw[List.filter_cons_of_neg (by simp[e])];exact a
theorem IA:(["_law_inner","_law_values"]:List Tb).Nodup:=by decide+kernel
theorem zM:(["_law_row","_law_part"]:List Tb).Nodup:=by decide+kernel
theorem Kh:(["_law_row","_law_numbers"]:List Tb).Nodup:=by decide+kernel
theorem Rb(a:List Nat):a.map jv=(a.map λn:Nat=>(n:Int)).map V.int:=by rw[List.map_map];rfl
theorem qX{a b:List Nat}:(a.map λn:Nat=>(n:Int))=(b.map λn:Nat=>(n:Int))↔a=b:=by
 constructor
 .intro h;have back:∀l:List Nat,(l.map λn:Nat=>(n:Int)).map DO=l:=λl=>by rw[List.map_map];exact(List.map_congr_left (λn _=>Dk n)).trans (List.map_id l)
  rw[<-back a,h,back b]
 .rintro rfl;rfl
section
variable{P:Gg}{w:Gu}{K:Gd}{mg:Tb->Option Value}{base:Heap}
theorem rP:Q3 ["_law_rows","_law_thing","_law_order","_law_todo","_law_part","_law_values","_law_numbers","_law_near","_law_found"] ["_law_rows","_law_thing"] (Ql jm):=by eq_refl
theorem By(F:We K "_law_number_in" "_law_number_in" jm f fd)(aD:gN mg):Qy P w K mg base Z5 1 f fd ["_law_rows","_law_thing"] vo:=by
 refine F.ok rP (λvs Q bd bc v=>?_) (λbq bp bs s Q vs bd bc hr v=>?_)
 .obtain⟨R,aj,es,I,S,A,t,rfl,_⟩:=v;rfl
 obtain⟨R,aj,es,I,S,A,t,rfl,hR,W,tS,hv,q⟩:=v;have X:=rP.nd;have H:=hr.units;have gt:=W.good t tS;have bu:=gt.2.2;have be:es.length=I.length:=Gq hR.pr;have br:=hR.len;exists _,(Qc (Qz 2 X (Zu Qe))
  (Qc (Qz 3 X (Zu (Qa (pv 1) Qe)))
  (Qc (Vd Gy (Qn (jq H) (pv 3) (Zu Qe) (Qr _))
  (Qc (V1 (i:=4) X rfl (DJ Xb) (jx Gv DB DC jr (pv 3)))
  (Qc (Zj (X0 Gv GQ GX Zy (pv 2) (Qa (pv 4) Qe)))
  (Qh (Qz 3 X (Zt V0 (pv 3) (Xm Ve rfl aD.list Tt (Qa (Yc Vy (pv 4) (Yk Qi) Xo) Qe))))))))
  (Qc (V1 (i:=5) X rfl (DJ Xb) Ii)
  (Qc (Z6 Gy rfl (tD rfl aD.reversed (Qa (pv 2) Qe)) (Xc (i:=4) X rfl (DJ Xb))
  (Qc (V1 (i:=6) X rfl (DJ Xb) (Vs (te:=sR P w (vt P w) (Vz 1) (iH (Vz 0) (iH (tUn (rU λi=>.int (-i)) (tC (.int 1))) i8))) (own:=["_law_inner"]) (fv:=[(5,"_law_values")]) rfl (S:=(by eq_refl:Xy (Ql jm) _)) (.cons rfl (T3 Xb) rfl .nil) (Uj (Yc Vy (pv 4) (Yk Qi) Xo))
   (λ_ _ _ _ _=>Xc (i:=0) IA rfl (T3 Xb) (DJ Xb)) (λ_ _ _ _ _=>Wb) (λ_ _ _ _ _=>(n8 Lc Le (y6 H) (pv 1) (Qa (pv 0) (Qa (Jf Vn Qi) Qe))))))
  (Qc (Ue (i:=7) (own:=["_law_row"]) (fv:=[(4,"_law_part")]) X rfl rfl rfl (S:=(by eq_refl:Xy (Ql jm) _)) (.cons rfl (T3 Xb) rfl .nil) (Yg (pv 0))
   (λ_ _ _ _ _=>Xc (i:=0) zM rfl (T3 Xb) (DJ Xb)) (λ_ _ _ _ _=>Ox (Qn Xn (Qm (r:=iW K) Qo (pv 0) Qi) (Qm (r:=iW K) Qo (pv 1) Qi) (Qr _))) (λ_ _ _ _ _=>(pv 0)))
  (Qc (Ue (i:=8) (own:=["_law_row"]) (fv:=[(6,"_law_numbers")]) X rfl rfl rfl (S:=(by eq_refl:Xy (Ql jm) _)) (.cons rfl (T3 Xb) rfl .nil) (Yg (pv 7))
   (λ_ _ _ _ _=>Xc (i:=0) Kh rfl (T3 Xb) (DJ Xb)) (λ_ _ _ _ _=>Ox (Qn (Uq H) (Qm (r:=iW K) Qo (pv 0) Qi) (pv 1) (Qr _))) (λ_ _ _ _ _=>(Qm (r:=iW K) Qo (pv 0) Qi)))
  (Qh (Q8 (PW.pt (Ir (Qn Xn (Qp Zm rfl aD.len Gx (Qa (pv 8) Qe)) Qi (Qr _)) (Jl (Qn (JS H) (Jf Vn Qi) (pv 6) rfl))))
  (Qh (Rt (Qm Zc (pv 8) Qi) (jJ (pv 5) (pv 4) (jA H)))) Qv))))))
  (Qh (Qt (n8 Lc Le (y6 H) (pv 5) (Qa (pv 1) (Qa (Jf Vn Qi) Qe))))))))))
 refine{Gz _,λB ho=>?_};have s2:=Qf ho (.lst []);refine{_,Xb,by show 1<=Gj;decide,λm hl=>?_};have s3:=Qf hl (.lst [aj]);have aC:=s2.trans s3;have am:B≠m:=Qd Qb hl;have aN:Q m=Gh:=s2.free hl;exists λaP o J=>iy λ(m:Gc)(ov xs:List V)(e l:List Th)(x4:Option V)=>kL (o=[Ga (.ref R),Ga aj,Ga (.ref B),Ga (.ref m),x4,Gh,Gh,Gh,Gh]) (Q6 Q J) (Q m=Gh) (B≠m) (J B=Ga (.lst ov)) (J m=Ga (.lst xs)) (Zr J ov e) (Zr J xs l) (∀u∈e,u∈S) (∀u∈l,u∈S) (t∈e\/t∈l) (∀(i:Nat)w a,e[i]?=Ga (Th.mk w a)->∀p∈a,(∃j:Nat,i<j/\e[j]?=Ga p)\/p∈l) (aP=Qx l) (e.length+Qx l<=1000),
  {_,m,[],[aj],[],[t],Gh,Xb,aC,aN,am,s3 _ _ Qb,Qb,.nil,.one (hv.same aC),(λu H=>nomatch H),λu H=>by rw[List.mem_singleton]at H;subst H;exact tS,.inr List.mem_cons_self,λi w a b=>by simp at b,Xb,by simp[Qx];ext}
 clear s3 aC am aN hl;rintro aP o J ⟨m,ov,xs,e,l,x4,rfl,sm,hl,am,go,gl,aO,aT,fO,fT,aQ,Xj,rfl,sz⟩;have lx:=aT.length;have lo:=aO.length;have lT:=Ze l;refine{_,Xb,Gz _,λz hz=>?_};have s4:=Qf hz (.lst []);exists .list (Wa l),.list [],.lst (s4 _ _ gl) (aT.same s4).dts,.lst Qb .nil,by simp only[Td];exact Od l (by rw[V4,List.all_eq_true];exactλu H=>(W.good u (fT u H)).1),by simp[Td,GO],?_,_,Xb
 .simp only[T5,Tu];ext
 have ev:Tg (.list (Wa l)) (.list [])=l.isEmpty:=by
  simp only[Tg];rw[Ju];cases l with
  |nil=>simp[Wa]
  |cons t r=>simp[Wa]
 rw[ev];rcases List.eq_nil_or_concat l with rfl|⟨Tr,u,eT⟩
 .refine Q5 ?_;have tO:t∈e:=aQ.resolve_right (by simp);have Xj:∀(i:Nat)w a,e[i]?=Ga (Th.mk w a)->∀p∈a,∃j:Nat,i<j/\e[j]?=Ga p:=λi w a b p L=>(Xj i w a b p L).resolve_right (by simp);have ah:=sm.trans s4;have ay:=s4 _ _ go;have aK:=aO.same s4;generalize zj J z (.lst [])=H3 at ah ay aK⊢;intro d hd;have s5:=Qf hd (V5 P w d []);have aM:Q d=Gh:=ah.free hd;have aL:=s5 _ _ ay;have a9:=aK.same s5;have ba:B≠d:=Qd ay hd;have bo:e.length<=1000:=by ext
  let bb:Nat->St->Hp->Prop:=λk o C=>hA λ(x4 x6 x7 x8:Option V)=>kP (o=[Ga (.ref R),Ga aj,Ga (.ref B),Ga (.ref m),x4,Ga (.ref d),x6,x7,x8]) (Rf d (zj H3 d (V5 P w d [])) C) (iC P w C d k (λu=>u∈e.reverse.take k) A)
  refine⟨_,Xb,B,ov,Xb,Za.of aL,zt (K:=K) (a:=B) (xs:=ov) bb
   {_,_,_,_,Xb,Rf.refl,[],Gm _,Qb,(λp L=>nomatch L),by simp} (by rintro k o C _ ⟨_,_,_,_,_,T,_⟩;exact Za.of (T _ _ aL ba)) ?_ ?_⟩
  .rintro k x o C hk ⟨x4,x6,x7,x8,rfl,T,N5⟩;have a1:k<ov.length:=by have:=(List.getElem?_eq_some_iff.mp hk).1;simpa using this
   have hx:∃u,e.reverse[k]?=Ga u/\Zv (zj H3 d (V5 P w d [])) x u:=by rw[List.getElem?_reverse a1]at hk;obtain⟨u,e1,e2⟩:=a9.get hk;refine{u,?_,e2};rw[List.getElem?_reverse (by ext),<-lo];exact e1
   subst_vars;obtain⟨u,eu,hx⟩:=hx;have tu:Q4 (zj H3 d (V5 P w d [])) C:=T.Qs Qb (λxs z=>by cases z);have aH:=hx.Qs tu;have fu:=fO u (List.mem_reverse.mp (List.mem_of_getElem? eu));obtain⟨ag,h,us,a,rfl,rfl,hb,an⟩:=aH.inv;and_intros;have aZ:∀p∈a,p∈S:=W.cl _ fu;have gu:=W.good _ fu;have a7:∀p∈a,p∈e.reverse.take k:=λp L=>by
    have e1:e[e.length - 1 - k]?=Ga (Th.mk h a):=by rw[List.getElem?_reverse (by ext)]at eu;exact eu
    obtain⟨j,hj,ej⟩:=Xj _ _ _ e1 p L;have aY:j<e.length:=(List.getElem?_eq_some_iff.mp ej).1;have e2:e.reverse[e.length - 1 - j]?=Ga p:=by rw[List.getElem?_reverse (by ext)];rw[show e.length - 1 - (e.length - 1 - j)=j by ext];exact ej
    have E:(e.reverse.take k)[e.length - 1 - j]?=Ga p:=by rw[List.getElem?_take_of_lt (by ext)];exact e2
    exact List.mem_of_getElem? E
   have bf:a.length<=3000:=by have M:=Ze a;have N:=gu.2.2;simp only[Th.size]at N;ext
   have a4:=an.length;refine{_,Xb,_,Xb,ag,_,Xb,Q9.of hb,Wc _ _,λr hr=>?_};rw[gX];have s6:=Qf hr (.tup us);refine{r,Xb,{_,Q9.of Qb},λp L=>?_};refine U7 (K:=K) (a:=r) (xs:=us) (small (by ext)) (λi g o G=>(∃O,o=[O,Ga (.ref d)])/\g=((a.take i).map A).map jv/\G=zj (zj C r (.tup us)) p (.lst g)) {{_,Xb},by simp,Xb} (by rintro i g o G _ ⟨_,_,b⟩;exact Q9.of (by rw[b];exact Qf L _ _ _ Qb)) ?_ ?_
   .rintro i y g o G U a3 ⟨⟨O,rfl⟩,rfl,rfl⟩ aw;subst_vars;obtain⟨E,aa,hy⟩:=an.get U;obtain⟨b',_,_,_,rfl,_,_,_⟩:=hy.inv;have s7:=s6.trans (Qf L (.lst (((a.take i).map A).map jv)));obtain⟨ab,h0,M,N,h3⟩:=N5.same s7;and_intros;have af:=W.good E (aZ E (List.mem_of_getElem? aa));exists _,Xb,⟨d,ab,Xb,M⟩,_,Xb,_,Xb,d,b',_,ab,kd E,Xb,Xb,⟨M,N⟩,R8 (hy.same s7) af.1 af.2.1;rw[h3 E (a7 E (List.mem_of_getElem? aa))];refine{aw,{_,Xb},?_,by rw[Wu]};rw[List.take_add_one,aa];simp
   rintro g o G a3 ⟨_,rfl,rfl⟩ aF;rw[a4,List.take_length]at aF⊢;have ak:=s6.trans (Qf L (.lst ((a.map A).map jv)));generalize zj (zj C r (.tup us)) p (.lst ((a.map A).map jv))=G at*;have a8:Q6 Q G:=λc o' v=>ak _ _ (T _ _ ((ah.trans s5) _ _ v) (Qd v aM));have aq:=hR.same a8;have aE:=ak _ _ hb;have N6:=N5.same ak;have bm:(es.length<=100000):=by ext
   refine{_,Xb,R,Xb,{_,Za.of aq.at_},λp2 au=>?_};refine Ip (K:=K) (a:=R) (xs:=es) (small (by ext)) (λi g o Y=>(∃O,o=[O,Ga (.ref ag)])/\Paired (Uh G iw) g ((I.take i).filter λr=>decide (r.1=h))/\Y=zj G p2 (.lst g)) {{_,Xb},by simp;exact .nil,Xb} (by rintro i g o Y _ ⟨_,_,b⟩;exact Za.of (by rw[b];exact Qf au _ _ _ aq.at_)) ?_ ?_
   .rintro i y g o Y U ⟨⟨O,rfl⟩,py,rfl⟩ ae;subst_vars;obtain⟨D,er,c,l',rfl,hc,ar,_⟩:=Qw aq.pr U;and_intros;have Z:=Qf au (.lst g);exists _,Xb,c,_,_,_,Xb,Xb,Q9.of (Z _ _ hc),Qj (j:=0) rfl,_,Xb,ag,_,_,_,Xb,Xb,Q9.of (Z _ _ aE),Qj (j:=0) rfl,Xb,_,Xb;have et:I.take (i+1)=I.take i++[D]:=by rw[List.take_add_one,er];rfl
    by_cases b:D.1=h
    .rw[Gw (show V.str D.1=V.str h by rw[b])];refine Yp {_,Xb,ae,{_,Xb},?_,by rw[Wu]};rw[et,List.filter_append,List.filter_cons_of_pos (by simp[b])];exact Yl py (.cons ⟨c,l',Xb,hc,ar,id⟩ .nil)
    .rw[Gr (show¬V.str D.1=V.str h fromλz=>b (by injection z))];refine Q5 {ae,{_,Xb},?_,Xb};rw[et,List.filter_append,List.filter_cons_of_neg (by simp[b])];simpa using py
   rintro g o Y ⟨_,py,rfl⟩ ae;rw[be,List.take_length]at py;have ad:=Qf au (.lst g);have aI:Paired (Uh (zj G p2 (.lst g)) iw) g (I.filter λr=>decide (r.1=h)):=L2.Paired.Z8 py λ_ _ v=>v.kp (λv=>ad _ _ v) (λv _=>ad _ _ v);have aG:=ad _ _ aF;have a0:=ad _ _ aE;have N7:=N6.same ad;generalize zj G p2 (.lst g)=Y at*;have a5:g.length=(I.filter λr=>decide (r.1=h)).length:=Gq aI;have bn:=List.length_filter_le (λr:Row=>decide (r.1=h)) I;refine{_,Xb,p2,Xb,{_,Za.of ae},λp3 av=>?_};refine Ip (K:=K) (a:=p2) (xs:=g) (small (by ext)) (λi zs o H8=>(∃O,o=[O,Ga (.ref p)])/\zs=((((I.filter λr=>decide (r.1=h)).take i).filter λr=>decide (r.2.1=a.map A)).map λr=>jv r.2.2)/\H8=zj Y p3 (.lst zs)) {{_,Xb},by simp,Xb} (by rintro i zs o H8 _ ⟨_,_,b⟩;exact Za.of (by rw[b];exact Qf av _ _ _ ae)) ?_ ?_
   .rintro i y zs o H8 U ⟨⟨O,rfl⟩,rfl,rfl⟩ ac;subst_vars;obtain⟨D,er,c,l',rfl,hc,ar,_⟩:=Qw aI U;and_intros;generalize E:((((I.filter λr=>decide (r.1=h)).take i).filter λr=>decide (r.2.1=a.map A)).map λr=>jv r.2.2)=zs at*;have Z:=Qf av (.lst zs);exists _,Xb,c,_,_,_,Xb,Xb,Q9.of (Z _ _ hc),Qj (j:=1) rfl,_,Xb,.list ((D.2.1.map λn:Nat=>(n:Int)).map De),.list (((a.map A).map λn:Nat=>(n:Int)).map De),.lst (Z _ _ ar) (by rw[Rb];exact Vb _),.lst (Z _ _ aG) (by rw[Rb];exact Vb _),by simp only[Td];exact Wr _,by simp only[Td];exact Wr _,?_,_,Xb
    .have:=Js (D.2.1.map λn:Nat=>(n:Int));simp only[T5];ext
    have ee:Tg (.list ((D.2.1.map λn:Nat=>(n:Int)).map De)) (.list (((a.map A).map λn:Nat=>(n:Int)).map De))=decide (D.2.1=a.map A):=by simp only[Tg];rw[mh];exact decide_eq_decide.mpr qX
    rw[ee];have et:(I.filter λr=>decide (r.1=h)).take (i+1)=(I.filter λr=>decide (r.1=h)).take i++[D]:=by rw[List.take_add_one,er];rfl
    by_cases b:D.2.1=a.map A
    .rw[Gw b];refine Yp {_,Xb,c,_,_,_,Xb,Xb,Q9.of (Z _ _ hc),Qj (j:=2) rfl,ac,{_,Xb},?_,by rw[Wu]};rw[et,List.filter_append,List.filter_cons_of_pos (by simp[b]),List.map_append,E];rfl
    .rw[Gr b];refine Q5 {ac,{_,Xb},?_,Xb};rw[et,List.filter_append,List.filter_cons_of_neg (by simp[b])];simpa using E.symm
   rintro zs o H8 ⟨_,rfl,rfl⟩ ac;have a6:(((((I.filter λr=>decide (r.1=h)).take g.length).filter λr=>decide (r.2.1=a.map A)).map λr=>jv r.2.2))=[jv (A (.mk h a))]:=by rw[a5,List.take_length,JK (w:=h) (ns:=a.map A) (n:=A (.mk h a)) hR.nd (W.mem _ fu)];rfl
   rw[a6]at ac⊢;have al:=Qf av (.lst [jv (A (.mk h a))]);have a2:=al _ _ aG;have bl:=al _ _ a0;have N8:=N7.same al;have aJ:=(ak.trans ad).trans al;generalize zj Y p3 (.lst [jv (A (.mk h a))])=H8 at*;exists _,Xb,_,_,Xb,.inl {_,Za.of ac,Xb},Xb,_,Xb;rw[Gw (by rfl)];refine Yp ?_;exists _,Xb,_,Xb,.int (-1),((a.map A).map λn:Nat=>(n:Int)).map De,.int _,.lst a2 (by rw[Rb];exact Vb _),by simp[Td],Wr _,?_,_,Xb
   .simp only[T5];ext
   have ni:((((a.map A).map λn:Nat=>(n:Int)).map De).any λd=>Tg d (.int (-1)))=Gs:=by rw[List.any_eq_false];intro d hd;obtain⟨n,hn,rfl⟩:=List.mem_map.mp hd;obtain⟨E,_,rfl⟩:=List.mem_map.mp hn;simp[Tg]
   rw[ni];refine Yp ?_;refine{_,Xb,p3,_,_,_,Xb,Xb,Za.of ac,Qj (j:=0) rfl,_,Xb,_,Xb,N8.set (by ext) gu.1 gu.2.1 (aH.same aJ) λH9 b9 N9=>?_};exists _,_,_,_,Xb,λc o' M N=>b9 _ _ (aJ _ _ (T _ _ M N)) N;subst_vars;obtain⟨ab,h0,M,N,h3⟩:=N9;and_intros;refine{ab,h0,M,N,λu' ai=>h3 u' ?_};rw[List.take_add_one,eu]at ai;rcases List.mem_append.mp ai with z|z
   .exact .inl z
   .exact .inr (by simpa using z)
  .rintro o C ⟨x4,x6,x7,x8,rfl,T,N5⟩;have tu:Q4 (zj H3 d (V5 P w d [])) C:=T.Qs Qb (λxs z=>by cases z);subst_vars;obtain⟨ag,_,_,_,rfl,_,_,_⟩:=hv.inv;have g:t∈e.reverse.take ov.length:=by rw[lo,<-List.length_reverse,List.take_length];exact List.mem_reverse.mpr tO
   obtain⟨ab,h0,M,N,h3⟩:=N5;and_intros;exists _,Xb,⟨d,ab,Xb,M⟩,_,Xb,_,Xb,d,ag,_,ab,kd t,Xb,Xb,⟨M,N⟩,R8 ((hv.same (ah.trans s5)).Qs tu) gt.1 gt.2.1;rw[h3 t g];exact q C λb o' v=>T _ _ (s5 _ _ (ah _ _ v)) (Qd v aM)
 .have eT:l=Tr++[u]:=by simpa using eT
  subst eT;have aV:(Tr++[u]).isEmpty=Gs:=by cases Tr<;>rfl
  rw[aV];refine Yp ?_;subst_vars;obtain⟨g,x,rfl,O,T⟩:=Jt aT;and_intros;have az:Qx (Tr++[u])=Qx Tr+u.size:=by rw[Yz];simp[Qx]
  rw[az]at sz;have bg:=Ig u;have uS:=fT u (by simp);exists λaB D=>∃m',m'<Qx (Tr++[u])/\iy λ(m:Gc)(ov xs:List V)(e l:List Th)(x4:Option V)=>kL (aB=[Ga (.ref R),Ga aj,Ga (.ref B),Ga (.ref m),x4,Gh,Gh,Gh,Gh]) (Q6 Q D) (Q m=Gh) (B≠m) (D B=Ga (.lst ov)) (D m=Ga (.lst xs)) (Zr D ov e) (Zr D xs l) (∀u∈e,u∈S) (∀u∈l,u∈S) (t∈e\/t∈l) (∀(i:Nat)w a,e[i]?=Ga (Th.mk w a)->∀p∈a,(∃j:Nat,i<j/\e[j]?=Ga p)\/p∈l) (m'=Qx l) (e.length+Qx l<=1000),λaB D v=>v;have aU:(g++[x])[(g++[x]).length - 1]?=Ga x:=by simp
  exists _,Xb,.inl {Xb,_,Za.of (s4 _ _ gl)},m,_,_,Xb,Xb,s4 _ _ gl,aU;rw[List.dropLast_concat];have M:Rf m J (zj (zj J z (.lst [])) m (.lst g)):=λc B b v=>by rw[Qg v];exact s4 _ _ b
  have l5:(zj (zj J z (.lst [])) m (.lst g)) m=Ga (.lst g):=Qb;generalize zj (zj J z (.lst [])) m (.lst g)=C at M l5⊢;have t5:Q4 J C:=M.Qs gl (λxs b=>by cases b);have aX:Q6 Q C:=λc B b=>M c B (sm _ _ b) (Qd b hl);have o5:=M _ _ go am;exists _,Xb,.inl {Xb,_,Za.of o5},_,Xb,B,ov,_,Xb,Xb,o5,(by rw[GV];ext);have N:Rf B C (zj C B (.lst (ov++[x]))):=λc o' b v=>by rw[Qg v];exact b
  have o6:(zj C B (.lst (ov++[x]))) B=Ga (.lst (ov++[x])):=Qb;generalize zj C B (.lst (ov++[x]))=G at N o6⊢;have t6:Q4 C G:=N.Qs o5 (λxs b=>by cases b);have aA:Q6 Q G:=λc o' b=>N c o' (aX _ _ b) (Qd b ho);have l6:=N _ _ l5 (Gn am);have ap:=t5.trans t6;have O:=O.Qs ap;have T:=T.Qs ap;subst_vars;obtain⟨b0,h,E,a,rfl,rfl,aR,an⟩:=T.inv;and_intros;have bj:=an.length;have bf:=Ze a;have bk:=O.length;have bi:=Ze Tr;have bh:(Th.mk h a).size=Qx a+1:=by simp only[Th.size]
  refine{_,Xb,_,Xb,_,Xb,b0,_,Xb,Q9.of aR,Wc _ _,λr aW=>?_};rw[gX];have s7:=Qf aW (.tup E);refine{r,E,Xb,.inr (Q9.of Qb),λl2 aS=>?_};have s8:=Qf aS (.lst E);refine{m,l2,g,E,Xb,Xb,s8 _ _ (s7 _ _ l6),Qb,small (by ext),λn hn=>?_};have s9:=Qf hn (.lst (g++E));have ao:=s7.trans s8;have Y:=ao.trans s9;exists Qx (Tr++a),by rw[az,Yz];ext,n,ov++[.ref b0],g++E,e++[Th.mk h a],Tr++a,_,Xb,aA.trans Y,(aA.trans ao).free hn,?_,Y _ _ o6,Qb,((aO.Qs ap).append (.one T)).same Y,(O.append an).same Y,?_,?_,?_,?_,Xb
  .exact Qd (ao _ _ o6) hn
  .intro u' ai;rcases List.mem_append.mp ai with z|z
   .exact fO u' z
   .rw[List.mem_singleton]at z;rw[z];exact uS
  .intro u' ai;rcases List.mem_append.mp ai with z|z
   .exact fT u' (List.mem_append_left _ z)
   .exact W.cl _ uS u' z
  .rcases aQ with z|z
   .exact .inl (List.mem_append_left _ z)
   .rcases List.mem_append.mp z with z|z
    .exact .inr (List.mem_append_left _ z)
    .rw[List.mem_singleton]at z;rw[z];exact .inl (List.mem_append_right _ List.mem_cons_self)
  .intro i w' ax b p L;have Z:(e++[Th.mk h a])[e.length]?=Ga (Th.mk h a):=by simp
   rcases Tp i e.length with U|U
   .rw[List.getElem?_append_left U]at b;rcases Xj i w' ax b p L with⟨j,hj,ej⟩|z
    .exact .inl {j,hj,by rw[List.getElem?_append_left (List.getElem?_eq_some_iff.mp ej).1];exact ej}
    .rcases List.mem_append.mp z with z|z
     .exact .inr (List.mem_append_left _ z)
     .rw[List.mem_singleton]at z;exact .inl {e.length,U,by rw[z];exact Z}
   .have:i=e.length:=by have:=(List.getElem?_eq_some_iff.mp b).1;rw[List.length_append,List.length_singleton]at this;ext
    subst this;rw[Z]at b;cases b;exact .inr (List.mem_append_right _ L)
  .rw[List.length_append,List.length_singleton,Yz];ext
end
inductive uH(vs:List V)(H:Hp)(Q:VK):Prop
 |mk (R:Gc) (es:List V) (rs:List Row) (h0:vs=[.ref R]) (h1:iS H R es rs) (h2:∀H':Hp,Q6 H H'->Q (.bl Gf) H'):uH vs H Q
def um:Sp:=λa H Q _=>uH a H Q
inductive ku(H:Hp)(l:Gc)(v:V)(r:Row):Prop
 |mk (c:_) (l':_) (h0:v=.ref c) (h1:H c=Ga (.tup [.str r.1,.ref l'])) (h2:H l'=Ga (.lst (r.2.1.map jv))) (h3:l'≠l):ku H l v r
def sgD(r:Row):D4:=.tuple [.str r.1,.list ((r.2.1.map λn:Nat=>(n:Int)).map De)]
theorem wC{l:Gc}(h:ku H l v r):Dt H v (sgD r):=by obtain⟨c,d,rfl,a,b,_⟩:=h;exact .tup a (.cons (.str _) (.cons (.lst b (by rw[Rb];exact Vb _)) .nil))
theorem yy(h:TR r.1=Gf):(sgD r).canLay0=Gf:=by have a:=Wr (r.2.1.map λn:Nat=>(n:Int));simp only[sgD,Td,GO,h,a,Ey,Ez]
theorem Cp(r:Row):(sgD r).depth<=4:=by have:=Js (r.2.1.map λn:Nat=>(n:Int));simp only[sgD,T5,Tu];ext
theorem BZ{l:Gc}{a:List V}(h:Paired (ku H l) a rs):gz H a (rs.map sgD):=by
 induction h with
 |nil=>exact .nil
 |cons h r b=>exact .cons (wC h) b
theorem AB(h:∀r∈rs,TR r.1=Gf):GO (rs.map sgD)=Gf:=by
 induction rs with
 |nil=>rfl
 |cons r rs b=>rw[List.map_cons];simp only[GO,yy (h r List.mem_cons_self),b λr a=>h r (List.mem_cons_of_mem _ a),Ez]
theorem Pn{b:Row}(h:Tg (sgD r) (sgD b)=Gf):(r.1,r.2.1)=(b.1,b.2.1):=by
 simp only[sgD,Tg,Ts,Ey,Tn]at h;obtain⟨c,a⟩:=h;rw[mh]at a;have a:=qX.mp (TC a);have c:r.1=b.1:=by simpa using c
 rw[c,a]
section
variable{P:Gg}{w:Gu}{K:Gd}{mg:Tb->Option Value}{base:Heap}
theorem yq:Q3 ["_law_rows","_law_signs","_law_row","_law_number"] ["_law_rows"] (Ql pL):=by eq_refl
theorem Kw{Q:Gc}{dH:Tq}(F:We K "_law_is_world" "_law_is_world" pL f fd)(o:gN mg)
  (GH:Qy P w K mg base Z5 1 Q dH ["_law_found"] (lJ K))(kH:KI K Q)(bH:zk K dH ["_law_found"] [])(mH:MG mg "_law_whole" Q):
  Qy P w K mg base Z5 2 f fd ["_law_rows"] um:=by
 refine F.ok yq (λe aa b a g=>?_) (λt h B s aa e b a E g=>?_)
 .obtain⟨R,O,k,rfl,_⟩:=g;rfl
 obtain⟨R,O,k,rfl,m,q⟩:=g;have X:=yq.nd;have hu:=E.units;have ak:O.length=k.length:=Gq m.pr;have al:=m.len;exists _,(Qc (Q8 (Yn (Yb (Qp Y2 rfl o.isinstance Ta (Qa (pv 0) (Qa (Xs (v:=.ty "list") rfl o.list Tt Xb) Qe)))))
  (Qh (Qt Yf)) Qv)
  (Qc (Qz 1 X (Zu Qe))
  (Qc (Z6 Gy rfl (Yg (pv 0)) (Zz 2 X)
  (Qc (Q8 (PW.pt (Y1 (Yn (Yb (Qp Y2 rfl o.isinstance Ta (Qa (pv 2) (Qa (Xs (v:=.ty "tuple") rfl o.tuple TM Xb) Qe))))) (Y1 (Qn Uc (Qp Zm rfl o.len Gx (Qa (pv 2) Qe)) Qi (Qr _)) (Xp (Yn (Yb (Qp Y2 rfl o.isinstance Ta (Qa (Qm Qo (pv 2) Qi) (Qa (Xs (v:=.ty "str") rfl o.str Es Xb) Qe)))))))))
  (Qh (Qt Yf)) Qv)
  (Qc (Q8 (PW.pt (Y1 (Yn (Yb (Qp Y2 rfl o.isinstance Ta (Qa (Qm Qo (pv 2) Qi) (Qa (Xs (v:=.ty "list") rfl o.list Tt Xb) Qe))))) (Y1 (Yn (Yb (Zl GH E rfl mH kH bH .nil Q7 (Qa (Qm Qo (pv 2) Qi) Qe)))) (Xp (Qn Vg (Qm Qo (pv 2) Qi) Qi (Qr _))))))
  (Qh (Qt Yf)) Qv)
  (Qc (Z6 Gy rfl (Yg (Qm Qo (pv 2) Qi)) (Zz 3 X)
  (Qh (Q8 (PW.pt (Y1 (Yn (Yb (Zl GH E rfl mH kH bH .nil Q7 (Qa (pv 3) Qe)))) (Xp (Qn Vg (pv 3) Qi (Qr _)))))
  (Qh (Qt Yf)) Qv)))
  (Qc (Q8 (Qn (HM hu) (Zg (Qa (Qm Qo (pv 2) Qi) (Qa (Qm Qo (pv 2) Qi) Qe))) (pv 1) rfl)
  (Qh (Qt Yf)) Qv)
  (Qh (Zj (X0 Gv GQ GX Zy (pv 1) (Qa (Zg (Qa (Qm Qo (pv 2) Qi) (Qa (Qm Qo (pv 2) Qi) Qe))) Qe)))))))))
  (Qh (Qt Yf)))))
 refine{_,Xb,_,_,_,Gf,Xb,.lst m.at_,jR,Gf,Xb,Q5 ?_};refine{Gz _,λl M=>?_};have s1:=Qf M (.lst []);let ah:Nat->St->Hp->Prop:=λi r v=>jF λ(p:List V)(x2 A:Option V)=>jK (r=[Ga (.ref R),Ga (.ref l),x2,A]) (Q6 aa v) (v l=Ga (.lst p)) (Paired (ku v l) p (k.take i))
 refine⟨_,Xb,R,Xb,{_,Za.of (s1 _ _ m.at_)},Y9 (K:=K) (a:=R) (xs:=O) ah
  {[],_,_,Xb,s1,Qb,by simp;exact .nil} (by rintro i r v _ ⟨_,_,_,_,y,_⟩;exact Za.of (y _ _ m.at_)) ?_ ?_⟩
 .rintro i x r v hi ⟨p,x2,A,rfl,y,S,N⟩;subst_vars;obtain⟨a,I,c,b,rfl,hc,ab,_⟩:=Qw m.pr hi;and_intros;have h:=y _ _ hc;have D:=y _ _ ab;have Y:b≠l:=Qd ab M;have nc:c≠l:=Qd hc M;have af:p.length=(k.take i).length:=Gq N;rw[List.length_take]at af;have aj:=m.few a (List.mem_of_getElem? I);refine{_,Xb,_,_,_,Gf,Xb,.tup h,Rw,Gf,Xb,Q5 ?_};exists _,Xb,_,_,Xb,.inr {_,Q9.of h,Xb},Xb,_,Xb;rw[Gw (by rfl)];refine Q5 ?_;refine{_,Xb,c,_,_,_,Xb,Xb,Q9.of h,Qj (j:=0) rfl,_,_,_,Gf,Xb,.str _,jC,Gf,Xb,Q5 ?_};refine{_,Xb,c,_,_,_,Xb,Xb,Q9.of h,Qj (j:=1) rfl,_,_,_,Gf,Xb,.lst D,jR,Gf,Xb,Q5 ?_};refine{_,Xb,c,_,_,_,Xb,Xb,Q9.of h,Qj (j:=2) rfl,_,_,Gf,Gs,Xb,.int _,jM,jj,Gf,Xb,Q5 ?_};exists _,Xb,c,_,_,_,Xb,Xb,Q9.of h,Qj (j:=2) rfl,_,_,Xb,Xb,_,Xb;rw[Gr (show¬((a.2.2:Int)<0) by ext)];refine Q5 ?_;refine⟨_,Xb,c,_,_,_,Xb,Xb,Q9.of h,Qj (j:=1) rfl,b,Xb,{_,Za.of D},Y9 (K:=K) (a:=b) (xs:=a.2.1.map jv) (λj r t=>∃A:Option V,r=[Ga (.ref R),Ga (.ref l),Ga (.ref c),A]/\t=v)
   {_,Xb,Xb} (by rintro j r t _ ⟨_,_,e⟩;exact Za.of (by rw[e];exact D)) ?_ ?_⟩
  .rintro j u r t B ⟨A,rfl,rfl⟩;obtain⟨n,rfl⟩:∃n,jv n=u:=by
    rw[List.getElem?_map]at B;cases e:a.2.1[j]? with
    |none=>rw[e]at B;cases B
    |some n=>rw[e]at B;exact{n,Ti B}
   refine{_,Xb,_,_,Gf,Gs,Xb,.int _,jM,jj,Gf,Xb,Q5 ?_};exists _,Xb,_,_,Xb,Xb,_,Xb;rw[Gr (show¬((n:Int)<0) by ext)];exact Q5 {_,Xb,Xb}
  .rintro r t ⟨A,rfl,rfl⟩;refine{_,Xb,c,_,_,_,Xb,Xb,Q9.of h,Qj (j:=0) rfl,_,Xb,c,_,_,_,Xb,Xb,Q9.of h,Qj (j:=1) rfl,by show 2<=Gj;decide,λC ac=>?_};have s4:=Qf ac (.tup [.str a.1,.ref b]);have ai:Paired (ku (zj t C (.tup [.str a.1,.ref b])) l) p (k.take i):=L2.Paired.Z8 N (by rintro _ _ ⟨c,b,U,J,W,L⟩;exact{c,b,U,s4 _ _ J,s4 _ _ W,L});have ag:=m.ok a (List.mem_of_getElem? I);exists _,Xb,sgD a,(k.take i).map sgD,wC (l:=l) {C,b,Xb,Qb,s4 _ _ D,Y},.lst (s4 _ _ S) (BZ ai),yy ag,AB λa E=>m.ok a (List.mem_of_mem_take E),?_,_,Xb
   .have:=Cp a;ext
   have ni:(((k.take i).map sgD).any λd=>Tg d (sgD a))=Gs:=by
    rw[List.any_eq_false];intro d hd z;obtain⟨r',ae,rfl⟩:=List.mem_map.mp hd;have e:=Pn z;have n1:=m.nd;have e1:k=k.take i++a::k.drop (i+1):=by
     conv=>lhs;rw[<-List.take_append_drop i k]
     congr 1;exact List.drop_eq_getElem?_toList_append.trans (by rw[I];rfl)
    rw[e1,List.map_append,List.map_cons,List.nodup_append]at n1;exact n1.2.2 _ (List.mem_map.mpr ⟨r',ae,Xb⟩) _ List.mem_cons_self e
   rw[ni];refine Q5 ?_;have T:=s4 _ _ S;refine{_,Xb,.inl {Xb,_,Za.of T},_,Xb,c,_,_,_,Xb,Xb,Q9.of (s4 _ _ h),Qj (j:=0) rfl,_,Xb,c,_,_,_,Xb,Xb,Q9.of (s4 _ _ h),Qj (j:=1) rfl,by show 2<=Gj;decide,λB ad=>?_};have s5:=Qf ad (.tup [.str a.1,.ref b]);exists l,p,_,Xb,Xb,s5 _ _ T,(by rw[GV];ext);have G:=s4.trans s5;have H:∀{e:Gc}{Z:HO},(zj (zj t C (.tup [.str a.1,.ref b])) B (.tup [.str a.1,.ref b])) e=Ga Z->e≠l->(zj (zj (zj t C (.tup [.str a.1,.ref b])) B (.tup [.str a.1,.ref b])) l (.lst (p++[.ref B]))) e=Ga Z:=λg n=>by rw[Qg n];exact g
   have tt:∀{e:Gc}{ys:List V},(zj (zj t C (.tup [.str a.1,.ref b])) B (.tup [.str a.1,.ref b])) e=Ga (.tup ys)->e≠l:=λg z=>by rw[z,s5 _ _ T]at g;cases g
   exists p++[.ref B],_,_,Xb,λe Z g=>H (G _ _ (y _ _ g)) (Qd g M),Qb;rw[List.take_add_one,I];refine Yl (L2.Paired.Z8 N (by rintro _ _ ⟨c,b,U,J,W,L⟩;exact{c,b,U,H (G _ _ J) (tt (G _ _ J)),H (G _ _ W) L,L})) (.cons {B,b,Xb,H Qb (tt Qb),H (G _ _ D) Y,Y} .nil)
 .rintro r v ⟨p,x2,A,rfl,y,S,N⟩;exact q _ y
inductive wm(vs:List V)(H:Hp)(Q:VK):Prop
 |mk (R:Gc) (a:Gc) (es:List V) (us:List V) (rs:List Row) (S:List Th) (L:Th->Nat) (tl:Tl) (h0:vs=[.ref R,.ref a]) (h1:iS H R es rs) (h2:qw S L rs) (h3:H a=Ga (.lst us)) (h4:Rl H us tl) (h5:(∀p∈tl,p.2.1∈S/\p.2.2∈S/\(L p.2.1=L p.2.2↔p.1=Gf))) (h6:∀H':Hp,Q6 H H'->Q (.bl Gf) H'):wm vs H Q
def rH:Sp:=λa H Q _=>wm a H Q
theorem uy:Q3 ["_law_rows","_law_told","_law_word","_law_one","_law_other","_law_here","_law_there"] ["_law_rows","_law_told"] (Ql qh):=by eq_refl
theorem Cz{r p:Gc}{D C:Tq}(F:We K "_law_world_fits" "_law_world_fits" qh f fd)
  (GW:Qy P w K mg base Z5 2 r D ["_law_rows"] um)(kW:KI K r)(bW:zk K D ["_law_rows"] [])(mW:MG mg "_law_is_world" r)
  (z:Qy P w K mg base Z5 1 p C ["_law_rows","_law_thing"] vo)(J:KI K p)(B:zk K C ["_law_rows","_law_thing"] [])(M:MG mg "_law_number_in" p):
  Qy P w K mg base Z5 3 f fd ["_law_rows","_law_told"] rH:=by
 refine F.ok uy (λvs H Q E h=>?_) (λaa A e s H vs Q E I h=>?_)
 .obtain⟨R,a,m,O,n,S,L,tl,rfl,_⟩:=h;rfl
 obtain⟨R,a,m,O,n,S,L,tl,rfl,u,W,G,v,t,q⟩:=h;have k:=uy.nd;have j:Yd 1 _:=I.mono (by ext);exists _,(Qc (Q8 (Yn (Yb (Zl GW I rfl mW kW bW .nil Q7 (Qa (pv 0) Qe))))
  (Qh (Qt Yf)) Qv)
  (Qc (Z6 Gy rfl (Yg (pv 1)) (Vx rfl (Zn (Zz 2 k) (Zn (Zz 3 k) (Zn (Zz 4 k) Wm))))
  (Qc (Qz 5 k (Zl z j rfl M J B .nil Q7 (Qa (pv 0) (Qa (pv 3) Qe))))
  (Qc (Qz 6 k (Zl z j rfl M J B .nil Q7 (Qa (pv 0) (Qa (pv 4) Qe))))
  (Qh (Q8 (PW.pt (Y1 (Qn Vg (pv 5) Qi (Qr _)) (Y1 (Qn Vg (pv 6) Qi (Qr _)) (Xp (Qn Uc (W0 Xn (pv 5) (pv 6) (Qr _)) (W0 Xn (pv 2) Zk (Qr _)) (Qr _))))))
  (Qh (Qt Yf)) Qv)))))
  (Qh (Qt Yf))))
 refine{_,Xb,R,m,n,Xb,u,λH1 N=>{Gf,Xb,Q5 ?_}};refine⟨_,Xb,a,Xb,{_,Za.of (N _ _ G)},Y9 (K:=K) (a:=a) (xs:=O) (λi o l=>∃T U X Y Z:Option V,o=[Ga (.ref R),Ga (.ref a),T,U,X,Y,Z]/\Q6 H l)
  {_,_,_,_,_,Xb,N} (by rintro i o l _ ⟨_,_,_,_,_,_,d⟩;exact Za.of (d _ _ G)) ?_ (by rintro o l ⟨_,_,_,_,_,h,d⟩;subst h;exact q _ d)⟩
 rintro i x o l hi ⟨T,U,X,Y,Z,rfl,d⟩;subst_vars;obtain⟨⟨b,x,y⟩,ep,c,v1,v2,rfl,hc,t1,t2⟩:=Qw v hi;obtain⟨xS,yS,iff⟩:=t _ (List.mem_of_getElem? ep);and_intros;exists c,_,Xb,Q9.of (d _ _ hc),Xb,_,_,Xb,_,_,Xb,_,_,Xb,Xb;refine{_,Xb,_,Xb,R,v1,m,n,S,L,x,Xb,u.same d,W,xS,t1.same d,λH3 s3=>?_};have g:=d.trans s3;refine{_,Xb,_,Xb,R,v2,m,n,S,L,y,Xb,u.same g,W,yS,t2.same g,λH4 s4=>?_};exists _,Xb,_,_,Xb,Xb,_,Xb;rw[Gr (show¬((L x:Int)<0) by ext)];refine Q5 ?_;exists _,Xb,_,_,Xb,Xb,_,Xb;rw[Gr (show¬((L y:Int)<0) by ext)];refine Q5 ?_;exists _,Xb,_,Xb,Xb,_,Xb,Xb,Xb,_,Xb;have eq:decide (V.bl (decide (jv (L x)=jv (L y)))=V.bl (decide (V.str (tw b)=V.str "same")))=Gf:=by
  have A:decide (V.str (tw b)=V.str "same")=b:=by rw[Zb,za]
  have E:decide (jv (L x)=jv (L y))=b:=by
   unfold jv;rw[Ux];by_cases e:L x=L y
   .have Q:b=Gf:=iff.mp e;rw[e,Q];simp
   .have:b=Gs:=by
     cases b
     .rfl
     .exact absurd (iff.mpr Xb) e
    rw[this];simp;ext
  rw[A,E];exact Gw rfl
 rw[eq];exact Q5 {_,_,_,_,_,Xb,g.trans s4}
end
theorem tz{d:List Lt}(h:Wf H iw v d):∃L a,v=.ref L/\iE H L a d:=by obtain⟨L,a,k,m,_,b,n⟩:=h;refine{L,a,k,m,b,λl p=>?_,n};obtain⟨j,f⟩:=List.mem_iff_getElem?.mp p;have q:a.length=d.length:=Gq b;have o:=(List.getElem?_eq_some_iff.mp f).1;obtain⟨r,e,c,t,u,s,_,_,_,_,_,g,i⟩:=Qw b (List.getElem?_eq_getElem (show j<a.length by ext));rw[f]at e;cases e;exact⟨g,i⟩
theorem zd{g:Tl}{S:List Th}(h:Ub H iw v rs)(W:lE g S rs):∃(R:Gc)(a:List V)(L:Th->Nat),v=.ref R/\iS H R a rs/\qw S L rs/\∀s∈S,∀t∈S,L s=L t↔Cg g s t:=by
 obtain⟨R,a,b,f,_,j⟩:=h;obtain⟨L,k,l,i⟩:=W.ex;refine{R,a,L,b,{f,j,by have:=W.len;ext,λr c=>?_,λr c=>?_,W.nd},{W.cl,W.good,l},k}
 .obtain⟨⟨m,e⟩,d,rfl⟩:=i r c;have:=(W.good _ d).1;simp only[Th.ok,Tn]at this;exact this.1
 .obtain⟨⟨m,e⟩,d,rfl⟩:=i r c;have b:=(W.good _ d).2.2;have f:=Ze e;simp only[Th.size]at b;show(e.map L).length<=1000;rw[List.length_map];ext
inductive r9(vs:List V)(H:Hp)(Q:VK):Prop
 |mk (a:Gc) (us:List V) (v1:V) (v2:V) (f:V) (tl:Tl) (s:Th) (t:Th) (h0:vs=[.ref a,v1,v2,f]) (h1:H a=Ga (.lst us)) (h2:Rl H us tl) (h3:iu tl) (h4:tl.length<=900) (h5:¬Wh tl) (h6:Zv H v1 s) (h7:Zv H v2 t) (h8:s.good) (h9:t.good) (h10:Jy H iw tl (.ask s t) f) (h11:∀H':Hp,Q6 H H'->Q (.bl Gf) H'):r9 vs H Q
def sI:Sp:=λa H Q _=>r9 a H Q
theorem CO:(("equal":Tb)=="equal")=Gf:=by decide+kernel
theorem HF:(("unlike":Tb)=="equal")=Gs:=by decide+kernel
theorem Kk:(("unlike":Tb)=="unlike")=Gf:=by decide+kernel
theorem ON:(("open":Tb)=="equal")=Gs:=by decide+kernel
theorem K8:(("open":Tb)=="unlike")=Gs:=by decide+kernel
theorem HE:(("open":Tb)=="open")=Gf:=by decide+kernel
section
variable{P:Gg}{w:Gu}{K:Gd}{mg:Tb->Option Value}{base:Heap}
theorem wF:Q3 ["_law_told","_law_one","_law_other","_law_found","_law_pair","_law_more"] ["_law_told","_law_one","_law_other","_law_found"] (Ql oY):=by eq_refl
theorem zG{f0 W V U:Gc}{dS dH dF:Tq}(F:We K "_law_is_right" "_law_is_right" oY f0 fd)(h:gN mg)
  (GS:Qy P w K mg base Z5 3 W dS ["_law_told","_law_lines","_law_one","_law_other","_law_pair"] v8)(kS:KI K W)(bS:zk K dS ["_law_told","_law_lines","_law_one","_law_other","_law_pair"] [])(mS:MG mg "_law_lines_show" W)
  (GH:Qy P w K mg base Z5 1 V dH ["_law_found"] (lJ K))(kH:KI K V)(bH:zk K dH ["_law_found"] [])(mH:MG mg "_law_whole" V)
  (GF:Qy P w K mg base Z5 3 U dF ["_law_rows","_law_told"] rH)(kF:KI K U)(bF:zk K dF ["_law_rows","_law_told"] [])(mF:MG mg "_law_world_fits" U):
  Qy P w K mg base Z5 4 f0 fd ["_law_told","_law_one","_law_other","_law_found"] sI:=by
 refine F.ok wF (λv r u o X=>?_) (λB A D I r v u o H X=>?_)
 .obtain⟨a,f,i,j,ay,m,s,t,rfl,_⟩:=X;rfl
 obtain⟨a,f,i,j,ay,m,s,t,rfl,l,C,tg,aG,nb,M,N,gs,gt,ok,q⟩:=X;have nd:=wF.nd;have aB:Yd 1 _:=H.mono (by ext);exists _,(Qc (Q8 (PW.pt (Y1 (Yn (Yb (Qp Y2 rfl h.isinstance Ta (Qa (pv 3) (Qa (Xs (v:=.ty "tuple") rfl h.tuple TM Xb) Qe))))) (Y1 (Qn Vg (Qp Zm rfl h.len Gx (Qa (pv 3) Qe)) Qi (Qr _)) (Xp (Yn (Yb (Qp Y2 rfl h.isinstance Ta (Qa (Qm Qo (pv 3) Qi) (Qa (Xs (v:=.ty "str") rfl h.str Es Xb) Qe)))))))))
  (Qh (Qt Yf)) Qv)
  (Qc (Q8 (Qn Xn (Qm Qo (pv 3) Qi) Zk (Qr _))
  (Qh (Qt (pV (W0 Xn (Qp Zm rfl h.len Gx (Qa (pv 3) Qe)) Qi (Qr _)) (lW (Zl GS H rfl mS kS bS .nil Q7 (Qa (pv 0) (Qa (Qm Qo (pv 3) Qi) (Qa (pv 1) (Qa (pv 2) (Qa Uo Qe)))))))))) Qv)
  (Qc (Q8 (Qn Xn (Qm Qo (pv 3) Qi) Zk (Qr _))
  (Qc (Q8 (PW.pt (Y1 (Qn Uc (Qp Zm rfl h.len Gx (Qa (pv 3) Qe)) Qi (Qr _)) (Xp (Yn (Yb (Zl GH aB rfl mH kH bH .nil Q7 (Qa (Qm Qo (pv 3) Qi) Qe)))))))
  (Qh (Qt Yf)) Qv)
  (Qc (Q8 (PW.pt (Y1 (Qn Vg (Qm Qo (pv 3) Qi) Qi (Qr _)) (Y1 (Qn jU (Qm Qo (pv 3) Qi) (Qp Zm rfl h.len Gx (Qa (pv 0) Qe)) (Qr _)) (Xp (Qn Uc (Qm Qo (Qm Zc (pv 0) (Qm Qo (pv 3) Qi)) Qi) Zk (Qr _))))))
  (Qh (Qt Yf)) Qv)
  (Qc (Qz 4 nd (Yc Vy (Qm Zc (pv 0) (Qm Qo (pv 3) Qi)) (Yk Qi) Xo))
  (Qh (Qt (Zl GS H rfl mS kS bS .nil Q7 (Qa (pv 0) (Qa (Qm Qo (pv 3) Qi) (Qa (Qm Qo (pv 4) Qi) (Qa (Qm Qo (pv 4) Qi) (Qa (Zg (Qa (pv 1) (Qa (pv 2) Qe))) Qe))))))))))) Qv)
  (Qc (Q8 (PW.pt (Y1 (Qn Uc (Qm Qo (pv 3) Qi) Zk (Qr _)) (Xp (Qn Uc (Qp Zm rfl h.len Gx (Qa (pv 3) Qe)) Qi (Qr _)))))
  (Qh (Qt Yf)) Qv)
  (Qc (Qz 5 nd (Zu (Qa (Zg (Qa Zk (Qa (pv 1) (Qa (pv 2) Qe)))) Qe)))
  (Qc (Q8 (Yn (Yb (Zl GF H rfl mF kF bF .nil Q7 (Qa (Qm Qo (pv 3) Qi) (Qa (Zt V0 (pv 0) (pv 5)) Qe)))))
  (Qh (Qt Yf)) Qv)
  (Qh (Qt (Zl GF H rfl mF kF bF .nil Q7 (Qa (Qm Qo (pv 3) Qi) (Qa (Zt V0 (pv 0) (Zu (Qa (Zg (Qa Zk (Qa (pv 1) (Qa (pv 2) Qe)))) Qe))) Qe)))))))))))
 have aH:f.length=m.length:=Gq C;rcases ok with⟨cg,e,lv,ls,rfl,b,hl,hg,ad,ab⟩|⟨aj,e,n,x,y,lv,ls,rfl,b,az,hl,hg,ad,ab⟩|⟨aj,aA,e,r1,r2,aE,aF,S,rfl,b,aC,aD,W1,W2,Q,R,hS⟩
 .obtain⟨T,ac,rfl,Y⟩:=tz hl;refine{_,Xb,_,_,_,Gf,Xb,.tup b,Rw,Gf,Xb,Q5 ?_};exists _,Xb,_,_,Xb,.inr {_,Q9.of b,Xb},_,_,Xb,Xb,_,Xb;rw[Gr (by show¬((2:Int)<2);decide)];refine Q5 ?_;refine{_,Xb,e,_,_,_,Xb,Xb,Q9.of b,Qj (j:=0) rfl,_,_,_,Gf,Xb,.str _,jC,Gf,Xb,Q5 ?_};exists _,Xb,e,_,_,_,Xb,Xb,Q9.of b,Qj (j:=0) rfl,Xb,_,Xb;rw[Zb,CO];refine Yp ?_;exists _,Xb,_,_,Xb,.inr {_,Q9.of b,Xb},Xb,_,Xb;rw[Gw (by rfl)];refine Yp ?_;exact{_,Xb,_,Xb,e,_,_,_,Xb,Xb,Q9.of b,Qj (j:=1) rfl,_,Xb,_,Xb,a,T,f,ac,i,j,.non,m,Gh,ls,s,t,ad,Xb,l,C,tg,by ext,Y,hg,Xb,M,N,ab,λE G=>q E G}
 .subst_vars;obtain⟨T,ac,rfl,Y⟩:=tz hl;obtain⟨r,_,_⟩:=az;have hn:=(List.getElem?_eq_some_iff.mp r).1;obtain⟨D,o⟩:∃D,f[n]?=Ga D:={_,List.getElem?_eq_getElem (by ext)};obtain⟨p,u,d,A,B,rfl,v,I,J⟩:=Qw C o;and_intros;rw[r]at u;cases u;refine{_,Xb,_,_,_,Gf,Xb,.tup b,Rw,Gf,Xb,Q5 ?_};exists _,Xb,_,_,Xb,.inr {_,Q9.of b,Xb},_,_,Xb,Xb,_,Xb;rw[Gr (by show¬((3:Int)<2);decide)];refine Q5 ?_;refine{_,Xb,e,_,_,_,Xb,Xb,Q9.of b,Qj (j:=0) rfl,_,_,_,Gf,Xb,.str _,jC,Gf,Xb,Q5 ?_};exists _,Xb,e,_,_,_,Xb,Xb,Q9.of b,Qj (j:=0) rfl,Xb,_,Xb;rw[Zb,HF];refine Q5 ?_;exists _,Xb,e,_,_,_,Xb,Xb,Q9.of b,Qj (j:=0) rfl,Xb,_,Xb;rw[Zb,Kk];refine Yp ?_;exists _,Xb,_,_,Xb,.inr {_,Q9.of b,Xb},Xb,_,Xb;rw[Gw (by rfl)];refine Q5 ?_;refine{_,Xb,e,_,_,_,Xb,Xb,Q9.of b,Qj (j:=1) rfl,_,_,Gf,Gs,Xb,.int _,jM,jj,Gf,Xb,Q5 ?_};exists _,Xb,e,_,_,_,Xb,Xb,Q9.of b,Qj (j:=1) rfl,_,_,Xb,Xb,_,Xb;rw[Gr (show¬((n:Int)<0) by ext)];refine Q5 ?_;exists _,Xb,e,_,_,_,Xb,Xb,Q9.of b,Qj (j:=1) rfl,_,Xb,_,_,Xb,.inl {_,Za.of l,Xb},_,_,Xb,Xb,_,Xb;rw[Gr (show¬((n:Int)>=((f.length:Nat):Int)) by ext)];refine Q5 ?_;exists _,Xb,_,Xb,e,_,_,_,Xb,Xb,Q9.of b,Qj (j:=1) rfl,a,f,_,_,Xb,Xb,Za.of l,Qj o,d,_,_,_,Xb,Xb,Q9.of v,Qj (j:=0) rfl,Xb,_,Xb;rw[Gw (by rfl)];refine Q5 ?_;refine{_,Xb,_,Xb,e,_,_,_,Xb,Xb,Q9.of b,Qj (j:=1) rfl,a,f,_,_,Xb,Xb,Za.of l,Qj o,_,Xb,d,_,Xb,Q9.of v,Wc _ _,λk Z=>?_};rw[gX];have s4:=Qf Z (.tup [A,B]);refine{_,Xb,_,Xb,e,_,_,_,Xb,Xb,Q9.of (s4 _ _ b),Qj (j:=2) rfl,_,Xb,k,_,_,_,Xb,Xb,Q9.of Qb,Qj (j:=0) rfl,_,Xb,k,_,_,_,Xb,Xb,Q9.of Qb,Qj (j:=1) rfl,_,Xb,_,Xb,by show 2<=Gj;decide,λL aa=>?_};have O:=Qf aa (.tup [i,j]);have g:=s4.trans O;exact{a,T,f,ac,A,B,.ref L,m,Ga (s,t),ls,x,y,ad,Xb,g _ _ l,C.Qs (Q4.of g),tg,by ext,Y.same g,hg,{L,i,j,Xb,Qb,M.same g,N.same g,gs,gt},I.same g,J.same g,ab,λE G=>q E (g.trans G)}
 .subst_vars;obtain⟨R1,am,L1,rfl,ao,aw,af⟩:=zd aC W1;obtain⟨R2,an,ak,rfl,ap,ax,ag⟩:=zd aD W2;and_intros;refine{_,Xb,_,_,_,Gf,Xb,.tup b,Rw,Gf,Xb,Q5 ?_};exists _,Xb,_,_,Xb,.inr {_,Q9.of b,Xb},_,_,Xb,Xb,_,Xb;rw[Gr (by show¬((3:Int)<2);decide)];refine Q5 ?_;refine{_,Xb,e,_,_,_,Xb,Xb,Q9.of b,Qj (j:=0) rfl,_,_,_,Gf,Xb,.str _,jC,Gf,Xb,Q5 ?_};exists _,Xb,e,_,_,_,Xb,Xb,Q9.of b,Qj (j:=0) rfl,Xb,_,Xb;rw[Zb,ON];refine Q5 ?_;exists _,Xb,e,_,_,_,Xb,Xb,Q9.of b,Qj (j:=0) rfl,Xb,_,Xb;rw[Zb,K8];refine Q5 ?_;exists _,Xb,e,_,_,_,Xb,Xb,Q9.of b,Qj (j:=0) rfl,Xb,_,Xb;rw[Zb,HE];refine Q5 ?_;exists _,Xb,_,_,Xb,.inr {_,Q9.of b,Xb},Xb,_,Xb;rw[Gw (by rfl)];refine Q5 ?_;refine{_,Xb,_,Xb,by show 3<=Gj;decide,λk Z=>?_};have s4:=Qf Z (.tup [.str "unlike",i,j]);refine{by show 1<=Gj;decide,λL aa=>?_};have O:=Qf aa (.lst [.ref k]);have g:=s4.trans O;refine{_,Xb,e,_,_,_,Xb,Xb,Q9.of (g _ _ b),Qj (j:=1) rfl,_,Xb,_,Xb,a,L,f,_,Xb,Xb,g _ _ l,Qb,small (by show _+1<=_;ext),λc6 ar=>?_};have s6:=Qf ar (.lst (f++[.ref k]));have u:=g.trans s6;have ae:∀p∈m,p.2.1∈S/\p.2.2∈S:=λp r=>hS p.1 p.2.1 p.2.2 r;refine{R1,c6,am,f++[.ref k],aE,S,L1,m++[(Gs,s,t)],Xb,ao.same u,aw,Qb,Yl (C.Qs (Q4.of u)) (.cons {k,i,j,Xb,(O.trans s6) _ _ Qb,M.same u,N.same u} .nil),?_,λH2 g2=>{Gf,Xb,Q5 ?_}}
  .intro p r;rcases List.mem_append.mp r with z|z
   .obtain⟨A,B⟩:=ae p z;exists A,B;rw[af _ A _ B];obtain⟨I,x,y⟩:=p;cases I with
    |true=>exact{λ_=>rfl,λ_=>.told z}
    |false=>exact{λc=>absurd ⟨x,y,z,c⟩ nb,λo=>by cases o}
   .rw[List.mem_singleton]at z;subst z;exists Q,R;rw[af _ Q _ R];exact{λc=>absurd c aj,λo=>by cases o}
  have J:=u.trans g2;refine{_,Xb,e,_,_,_,Xb,Xb,Q9.of (J _ _ b),Qj (j:=2) rfl,_,Xb,_,Xb,_,Xb,by show 3<=Gj;decide,λD au=>?_};have s8:=Qf au (.tup [.str "same",i,j]);refine{by show 1<=Gj;decide,λc9 av=>?_};have s9:=Qf av (.lst [.ref D]);have ai:=s8.trans s9;refine{a,c9,f,_,Xb,Xb,(J.trans ai) _ _ l,Qb,small (by show _+1<=_;ext),λal aq=>?_};have ah:=Qf aq (.lst (f++[.ref D]));have v:=(J.trans ai).trans ah;refine{R2,al,an,f++[.ref D],aF,S,ak,m++[(Gf,s,t)],Xb,ap.same v,ax,Qb,Yl (C.Qs (Q4.of v)) (.cons {D,i,j,Xb,(s9.trans ah) _ _ Qb,M.same v,N.same v} .nil),?_,λE G=>q E (v.trans G)};intro p r;rcases List.mem_append.mp r with z|z
  .obtain⟨A,B⟩:=ae p z;exists A,B;rw[ag _ A _ B];obtain⟨I,x,y⟩:=p;cases I with
   |true=>exact{λ_=>rfl,λ_=>.told (List.mem_append_left _ z)}
   |false=>exact{λc=>absurd c (aA x y z),λo=>by cases o}
  .rw[List.mem_singleton]at z;subst z;exists Q,R;rw[ag _ Q _ R];exact{λ_=>rfl,λ_=>.told (List.mem_append_right _ List.mem_cons_self)}
end
abbrev lN:List Tb:=["_law_script","_law_things","_law_deeds","_law_found","_law_told","_law_k","_law_deed"]
theorem xp:Q3 lN ["_law_script"] (Ql iU):=by eq_refl
theorem oI(a:List Int)(j k:Nat):∃b:List Int,Ja (a.map V.int) (Ga (j:Int)) (Ga (k:Int))=b.map V.int/\b.length<=k - j/\(a.length<=j->b=[]):=by
 refine{(a.drop (min j a.length)).take (min k a.length - min j a.length),?_,?_,λh=>?_}
 .unfold Ja;rw[HT.Ra,HT.Ra,List.length_map,List.map_take,List.map_drop]
 .rw[List.length_take];ext
 .rw[Nat.min_eq_right h,Nat.sub_eq_zero_of_le (Fh _ _)];simp
theorem IU{b:List Th}{m:Nat}(D:Drawn b m)(a:m<=4):∀t∈b,t.good:=λt c=>by obtain⟨j,a⟩:=List.mem_iff_getElem?.mp c;have g:j<b.length:=(List.getElem?_eq_some_iff.mp a).1;have d:=D.any j t a;have e:=D.dep j t a;have f:=D.len;exact{D.ok t c,by lia,by lia}
section
variable{P:Gg}{w:Gu}{K:Gd}{mg:Tb->Option Value}{base:Heap}
theorem P5{M nW:Nat}{f0 fD fE fR fW fI fZ:Gc}{dD dE dR dW dI dZ:Tq}{pW:Tb}(F:We K "law" "law" iU f0 fd)(v:gN mg)(hM:4<=M)(hW:nW<=M)
  (GD:Qy P w K mg base Z5 2 fD dD ["_law_cells"] (vg K))(kD:KI K fD)(bD:zk K dD ["_law_cells"] [])(mD:MG mg "_law_drawn_things" fD)
  (GE:Qy P w K mg base Z5 2 fE dE ["_law_cells","_law_things"] (yk K))(kE:KI K fE)(bE:zk K dE ["_law_cells","_law_things"] [])(mE:MG mg "_law_drawn_deeds" fE)
  (GR:Qy P w K mg base Z5 1 fR dR ["_law_script","_law_most","_law_bound"] (sU K))(kR:KI K fR)(bR:zk K dR ["_law_script","_law_most","_law_bound"] [])(mR:MG mg "_law_room" fR)
  (GW:Qy P w K mg base Z5 nW fW dW [pW] vX)(kW:KI K fW)(bW:zk K dW [pW] [])(mW:MG mg "answers" fW)
  (GI:Qy P w K mg base Z5 4 fI dI ["_law_told","_law_one","_law_other","_law_found"] sI)(kI:KI K fI)(bI:zk K dI ["_law_told","_law_one","_law_other","_law_found"] [])(mI:MG mg "_law_is_right" fI)
  (GZ:Qy P w K mg base Z5 2 fZ dZ ["_law_told","_law_deed"] ur)(kZ:KI K fZ)(bZ:zk K dZ ["_law_told","_law_deed"] [])(mZ:MG mg "_law_barred" fZ):
  Qy P w K mg base Z5 (M+1) f0 fd ["_law_script"] (lr K):=by
 refine F.ok xp (λN j L h C=>?_) (λZ Y al s j N L h R C=>?_)
 .obtain⟨a,D,rfl,_⟩:=C;rfl
 obtain⟨a,D,rfl,Q,az,q⟩:=C;have G:=xp.nd;have aF:Yd 4 _:=R.mono hM;have ag:Yd 2 _:=R.mono (by lia);have aE:Yd 1 _:=R.mono (by lia);have aG:Yd nW _:=R.mono hW;exists _,(Qc (Qz 1 G (Zl GD ag rfl mD kD bD .nil Q7 (Qa (Zt V0 (Yc U1 (pv 0) (Yk Qi) (Yk Qi)) (Yc U1 (pv 0) (Yk Qi) (Yk Qi))) Qe)))
  (Qc (Qz 2 G (Zl GE ag rfl mE kE bE .nil Q7 (Qa (Yc U1 (pv 0) (Yk Qi) (Yk (Zt R7 Qi (Zl GR aE rfl mR kR bR .nil Q7 (Qa (pv 0) (Qa Qi (Qa Qi Qe))))))) (Qa (pv 1) Qe))))
  (Qc (Qz 3 G (Zl GW aG rfl mW kW bW .nil Q7 (Qa (Xm Ve rfl v.list Tt (Qa (pv 2) Qe)) Qe)))
  (Qc (Q8 (PW.pt (Y1 (Yn (Yb (Qp Y2 rfl v.isinstance Ta (Qa (pv 3) (Qa (Xs (v:=.ty "list") rfl v.list Tt Xb) Qe))))) (Xp (Qn Uc (Qp Zm rfl v.len Gx (Qa (pv 3) Qe)) (Qp Zm rfl v.len Gx (Qa (pv 2) Qe)) (Qr _)))))
  (Qh (Qt Yf)) Qv)
  (Qc (Qz 4 G (Zu Qe))
  (Qc (Z6 Gy rfl (V7 rfl v.range (Qa (Qp Zm rfl v.len Gx (Qa (pv 2) Qe)) Qe)) (Zz 5 G)
  (Qc (Qz 6 G (Qm Zc (pv 2) (pv 5)))
  (Qh (Q8 (Qn Xn (Qm Qo (pv 6) Qi) Zk (Qr _))
  (Qh (Q8 (Yn (Yb (Zl GI aF rfl mI kI bI .nil Q7 (Qa (pv 4) (Qa (Qm Qo (pv 6) Qi) (Qa (Qm Qo (pv 6) Qi) (Qa (Qm Zc (pv 3) (pv 5)) Qe)))))))
  (Qh (Qt Yf)) Qv)) (Qh (Q8 (Qn Xn (Qm Qo (pv 6) Qi) Zk (Qr _))
  (Qh (Q8 (Bw lK lK Qi (Qm Qo (pv 6) Qi) (Qp Zm rfl v.len Gx (Qa (pv 4) Qe)))
  (Qh (Qz 4 G (Yc U1 (pv 4) Xo (Yk (Qm Qo (pv 6) Qi))))) Qv)) (Qh (Q8 (Yn (Yb (Zl GZ ag rfl mZ kZ bZ .nil Q7 (Qa (pv 4) (Qa (pv 6) Qe)))))
  (Qh (Zj (X0 Gv GQ GX Zy (pv 4) (Qa (pv 6) Qe)))) Qv))))))))
  (Qh (Qt Yf))))))))
 subst_vars;obtain⟨S,ab,aM,_⟩:=oI D 1 5;obtain⟨aQ,ac,_,ai⟩:=oI D 64 70;obtain⟨ah,ad,aN,_⟩:=oI D 5 12;and_intros;have ai:=ai (by lia);subst ai;have ab:Ja (D.map V.int) (Ga 1) (Ga 5)=S.map V.int:=ab;have ac:Ja (D.map V.int) (Ga 64) (Ga 70)=[]:=ac;have ad:Ja (D.map V.int) (Ga 5) (Ga (5+7))=ah.map V.int:=ad;refine{_,Xb,_,Xb,_,Xb,a,_,Xb,Q,λp1 aA=>?_};rw[ab];have s1:=Qf aA (.lst (S.map V.int));refine{_,Xb,_,Xb,_,Xb,a,_,Xb,s1.seq Q,λp2 aB=>?_};rw[ac];have s2:=Qf aB (.lst []);refine{p1,p2,_,_,Xb,Xb,s2 _ _ Qb,Qb,small (by rw[List.length_map];show _+0<=_;lia),λp3 aC=>?_};rw[List.append_nil];have s3:=Qf aC (.lst (S.map V.int));refine{p3,S,Xb,Za.of Qb,by lia,λau us ts H1 g1 _ gl ga aa=>?_};have sA:=((s1.trans s2).trans s3).trans g1;have aP:=aa.len;have gd:=IU aa (by lia);refine{_,Xb,_,Xb,_,Xb,a,D,_,_,Xb,sA.seq Q,az,_,_,Xb,Xb,_,Xb,a,_,Xb,sA.seq Q,λp4 aD=>?_};rw[ad];have s4:=Qf aD (.lst (ah.map V.int));refine{_,Xb,p4,au,ah,us,ts,Xb,Za.of Qb,by lia,s4 _ _ gl,ga.same s4,by lia,by lia,λq0 A r H2 g2 _ gq B ld an=>?_};have hU:ke ts:={A9 aa.cl,gd,by lia};have ap:∀d∈r,d.good:=λd hd=>hU.CI (an d hd);have aH:A.length=r.length:=Gq B;refine{_,Xb,q0,A,Xb,.inl (Za.of gq),λhh ay=>?_};have s5:=Qf ay (.lst A);refine{hh,A,r,ts,Xb,Qb,B.same s5,hU,an,by lia,λao rs H4 g4 _ gf aI ok=>?_};have av:=s5.trans g4;have ae:=av _ _ gq;have aw:=B.same av;refine{_,Xb,_,_,_,Gf,Xb,.lst gf,jR,Gf,Xb,Q5 ?_};exists _,Xb,_,_,Xb,.inl {_,Za.of gf,Xb},_,Xb,_,_,Xb,.inl {_,Za.of ae,Xb},Xb,_,Xb;rw[Gw (show V.int ((rs.length:Nat):Int)=V.int ((A.length:Nat):Int) by rw[aI,aH])];refine Q5 ?_;refine{Gz _,λl0 aq=>?_};have s7:=Qf aq (.lst []);refine⟨_,Xb,_,_,Xb,.inl {_,Za.of (s7 _ _ ae),Xb},_,Xb,by lia,by lia,V6 (lo:=0) (n:=((A.length:Int)).toNat) (λk aj E=>∃(g:Gc)(e:List V)(x5 x6:Option V),aj=[Ga (.ref a),Ga (.ref au),Ga (.ref q0),Ga (.ref ao),Ga (.ref g),x5,x6]/\Q6 H4 E/\H4 g=Gh/\E g=Ga (.lst e)/\Rl E e (after [] (r.take k)))
  {l0,[],_,_,Xb,s7,aq,Qb,by simp[after];exact .nil} ?_ (λaj E _=>q _)⟩
 rintro k aj E hk ⟨g,e,x5,x6,rfl,m,I,o,u⟩;have hk:k<r.length:=by lia
 subst_vars;obtain⟨x,ex⟩:∃x,A[k]?=Ga x:={_,List.getElem?_eq_getElem (by lia)};obtain⟨O,am⟩:∃O,rs[k]?=Ga O:={_,List.getElem?_eq_getElem (by lia)};obtain⟨d,ed,ax⟩:=Qw aw ex;and_intros;have af:=ax.Qs (Q4.of m);have B:=ap d (List.mem_of_getElem? ed);have H:iu (after [] (r.take k)):=vy (λp J=>nomatch J) λd hd=>ap d (List.mem_of_mem_take hd);have nb:¬Wh (after [] (r.take k)):=O0 IB;have aO:(after [] (r.take k)).length<=10:=by have:=pj (ds:=r.take k) (tl:=[]);rw[List.length_take]at this;simp only[List.length_nil]at this;lia
 have aJ:=ok k d O ed am;rw[vv ed];generalize after [] (r.take k)=tl at*;have ar:e.length=tl.length:=Gq u;have sz:=zR H;have aK:∀p∈tl,(p.2.1.ok=Gf/\p.2.1.depth<=8)/\p.2.2.ok=Gf/\p.2.2.depth<=8:=λp J=>{{(H p J).1.1,(H p J).1.2.1},(H p J).2.1,(H p J).2.2.1};exists _,Xb,_,Xb,q0,A,_,_,Xb,Xb,Za.of (m _ _ ae),(by rw[DT];exact Qj ex);cases d with
 |ask x y=>obtain⟨b,W,X,rfl,l,T,U⟩:=af;exists _,Xb,b,_,_,_,Xb,Xb,Q9.of l,Qj (j:=0) rfl,Xb,_,Xb;rw[Zb,HN];refine Yp ?_;have j:Jy E iw tl (.ask x y) O:=(aJ.ex (Y:=iw) λc h _ _ C=>C).kp (Q4.of m) (λb _=>m _ _ b);refine{_,Xb,_,Xb,b,_,_,_,Xb,Xb,Q9.of l,Qj (j:=1) rfl,_,Xb,b,_,_,_,Xb,Xb,Q9.of l,Qj (j:=2) rfl,_,Xb,_,Xb,ao,rs,_,_,Xb,Xb,Za.of (m _ _ gf),(by rw[DT];exact Qj am),g,e,W,X,O,tl,x,y,Xb,o,u,H,by lia,nb,T,U,B.1,B.2,j,λH8 f=>{Gf,Xb,Q5 ?_}};exact{g,e,_,_,Xb,m.trans f,I,f _ _ o,u.Qs (Q4.of f)}
 |back i=>
  obtain⟨b,rfl,l⟩:=af;exists _,Xb,b,_,_,_,Xb,Xb,Q9.of l,Qj (j:=0) rfl,Xb,_,Xb;rw[Zb,OR];refine Q5 ?_;exists _,Xb,b,_,_,_,Xb,Xb,Q9.of l,Qj (j:=0) rfl,Xb,_,Xb;rw[Zb,BL];refine Yp ?_;exists _,Xb,b,_,_,_,Xb,Xb,Q9.of l,Qj (j:=1) rfl,_,_,Xb,Xb,_,Xb;refine Uu (λj=>?_) (λj=>?_)
  .have j:0<=i:=TC j;exists _,Xb,_,_,Xb,.inl {_,Za.of o,Xb},_,_,Xb,Xb,_,Xb;refine Uu (λh=>?_) (λh=>?_)
   .have h:i<=(e.length:Int):=TC h;have t:J9 tl (.back i)=(tl.take i.toNat,.int ((tl.length:Int) - i)):=by simp only[J9];rw[Gp {j,by rw[<-ar];exact h}]
    rw[t];refine{_,Xb,_,Xb,b,_,_,_,Xb,Xb,Q9.of l,Qj (j:=1) rfl,_,Xb,g,_,Xb,Za.of o,λn L=>?_};rw[JJ e i j];have f:=Qf L (.lst (e.take i.toNat));exact{n,_,_,_,Xb,m.trans f,m.free L,Qb,Km _ (u.Qs (Q4.of f))}
   .have h:¬i<=(e.length:Int):=λz=>h (Gw z);have t:J9 tl (.back i)=(tl,.str "no moment"):=by simp only[J9];rw[Gi (λz=>h (by rw[ar];exact z.2))]
    rw[t];exact{g,e,_,_,Xb,m,I,o,u}
  .have j:¬0<=i:=λz=>j (Gw z);have t:J9 tl (.back i)=(tl,.str "no moment"):=by simp only[J9];rw[Gi (λz=>j z.1)]
   rw[t];refine{Gs,Xb,Q5 ?_};exact{g,e,_,_,Xb,m,I,o,u}
 |tell j x y=>
  obtain⟨b,W,X,rfl,l,T,U⟩:=af;have L:=B.1;have N:=B.2;have zx:=L.2.2;have zy:=N.2.2;exists _,Xb,b,_,_,_,Xb,Xb,Q9.of l,Qj (j:=0) rfl,Xb,_,Xb;rw[Zb,IC];refine Q5 ?_;exists _,Xb,b,_,_,_,Xb,Xb,Q9.of l,Qj (j:=0) rfl,Xb,_,Xb;rw[Zb,HL];refine Q5 ?_;refine{_,Xb,_,Xb,g,b,e,tl,W,X,j,x,y,Xb,o,u,l,T,U,{L.1,L.2.1},{N.1,N.2.1},aK,by lia,λZ H8 f Y=>{Z,Xb,?_}};cases Z with
  |true=>
   refine Q5 ?_;have t:J9 tl (.tell j x y)=(tl,.str "clash"):=by simp only[J9];rw[Gp (Y.mp Xb)]
   rw[t];exact{g,e,_,_,Xb,m.trans f,I,f _ _ o,u.Qs (Q4.of f)}
  |false=>
   refine Yp ?_;have ak:¬Wh (tl++[(j,x,y)]):=λz=>GJ (Y.mpr z);have t:J9 tl (.tell j x y)=(tl++[(j,x,y)],.int ((tl.length:Int)+1)):=by simp only[J9];rw[Gi ak]
   rw[t];exists _,Xb,.inl {Xb,_,Za.of (f _ _ o)},_,Xb,g,e,_,Xb,Xb,f _ _ o,(by rw[GV];lia);have h:Q4 E (zj H8 g (.lst (e++[.ref b]))):=(Q4.of f).trans (Z0 λxs z=>by rw[f _ _ o]at z;cases z);exact{g,e++[.ref b],_,_,Xb,λc aL C=>by rw[Qg (Qd C I)];exact f _ _ (m _ _ C),I,Qb,Yl (u.Qs h) (.cons {b,W,X,Xb,h _ _ l,T.Qs h,U.Qs h} .nil)}
end
end K03
namespace L2
open PySem PySem.Spec PyProof.Rows
variable{p0 p1 p2:Tb}
section
variable{K:Gd}{x qual:Tb}{st:TY}{f:Gc}{fd:Tq}
theorem We.b1(F:We K x qual st f fd)(h:∀(kV k n:Value)(l:Option Gc)(j ct:Value)(i:Value),bindArgs (Dl x qual (Wv st) (X8 st) (Ql st) .none kV k n l j ct) {[i],[]}=pure ([p0].zip [i])):zk K fd [p0] []:=
 F.binds λa b c d e g o m=>by rcases o with _|⟨i,_|_⟩<;>first|exact h a b c d e g i|cases m
theorem We.b2(F:We K x qual st f fd)(h:∀(kV l o:Value)(m:Option Gc)(k ct:Value)(i j:Value),bindArgs (Dl x qual (Wv st) (X8 st) (Ql st) .none kV l o m k ct) {[i,j],[]}=pure ([p0,p1].zip [i,j])):zk K fd [p0,p1] []:=
 F.binds λa b c d e g p n=>by rcases p with _|⟨i,_|⟨j,_|_⟩⟩<;>first|exact h a b c d e g i j|cases n
theorem We.b3(F:We K x qual st f fd)(h:∀(kV m p:Value)(n:Option Gc)(l ct:Value)(i j k:Value),bindArgs (Dl x qual (Wv st) (X8 st) (Ql st) .none kV m p n l ct) {[i,j,k],[]}=pure ([p0,p1,p2].zip [i,j,k])):zk K fd [p0,p1,p2] []:=
 F.binds λa b c d e g q o=>by rcases q with _|⟨i,_|⟨j,_|⟨k,_|_⟩⟩⟩<;>first|exact h a b c d e g i j k|cases o
theorem We.b4{p3:Tb}(F:We K x qual st f fd)(h:∀(kV n q:Value)(o:Option Gc)(m ct:Value)(i j k l:Value),bindArgs (Dl x qual (Wv st) (X8 st) (Ql st) .none kV n q o m ct) {[i,j,k,l],[]}=pure ([p0,p1,p2,p3].zip [i,j,k,l])):zk K fd [p0,p1,p2,p3] []:=
 F.binds λa b c d e g r p=>by rcases r with _|⟨i,_|⟨j,_|⟨k,_|⟨l,_|_⟩⟩⟩⟩<;>first|exact h a b c d e g i j k l|cases p
theorem We.b5{p3 p4:Tb}(F:We K x qual st f fd)(h:∀(kV o r:Value)(p:Option Gc)(n ct:Value)(i j k l m:Value),bindArgs (Dl x qual (Wv st) (X8 st) (Ql st) .none kV o r p n ct) {[i,j,k,l,m],[]}=pure ([p0,p1,p2,p3,p4].zip [i,j,k,l,m])):zk K fd [p0,p1,p2,p3,p4] []:=
 F.binds λa b c d e g s q=>by rcases s with _|⟨i,_|⟨j,_|⟨k,_|⟨l,_|⟨m,_|_⟩⟩⟩⟩⟩<;>first|exact h a b c d e g i j k l m|cases q
end
theorem Zw{K:Gd}{x q:Tb}{a:TY}{f:Gc}(h:Sb.Yw K x q a f):∃b,We K x q a f b/\TU K (.ref f)=Gf:=by obtain⟨_,_,_,_,_,_,_,_,_,l,c,k⟩:=h;exact{_,vm l c k,k}
end L2
namespace K03
open PySem L2 Sb
section
variable{K:Gd}
theorem KB{a:SX}{w:Gu}{aX:Heap}{mg:Tb->Option Value}{fa:Gc}(X:K.In aX)(f:aX.Ns T2 mg)(eo:mg "law"=Ga (.ref fa))(x:Fx K)
  :∃fd:Tq,(∀(s:Gk)(L:Value),LV s fd {[L],[]} [("_law_script",L)])/\∀base:Heap,K.In base->base.Ns T2 mg->Qy a.prog w K mg base Z5 66 fa fd ["_law_script"] (lr K):=by
 obtain@⟨CP,n,d,j,h,f0,f1,f2,f3,f4,f5,f6,f7,f8,f9,dj,dk,dl,dm,dn,dp,dq,dr,ds,dt,fY,fZ,ga,du,dv,dw,dx,gb,dy,dz,dA,dC,dD,dE,gc,gd,ge,gf,gg,gh,gi,gj,gk,gl,gm,gn,go,gp,gq,gr,gs,gw,gv,gy,gx,aP,pP,dP,oP,sP,mP,cP,fI,fG,fH,aW,pW,dW,oW,sW,mW,cW,fN,fO,aN,pN,dN,oN,sN,mN,cN,fz,fA,fD,fF,fE,fC,fB,fy,aS,pS,dS,oS,sS,mS,cS,fM,fK,fJ,fL,aB,pB,dB,oB,sB,mB,cB,fw,fx,fv,df,dh,dg,cG,a0,h0,a1,i1,h1,a2,i2,h2,a3,i3,h3,a4,h4,a5,h5,a6,i6,h6,a7,i7,h7,a8,h8,a9,i9,h9,bQ,ep,dF,bR,eq,dG,bS,er,dH,bT,es,dI,bU,et,dJ,bV,eu,dK,bW,ev,dL,bX,ew,dM,bY,ex,dO,bZ,ey,dQ,ca,dR,cb,dT,aM,dU,ce,ez,dV,cf,eA,dX,cg,eB,dY,ch,eC,dZ,ci,d0,cj,eD,d1,ck,eE,d2,cl,eF,d3,cm,eG,d4,cn,eH,d5,co,eI,d6,aO,d7,cp,d8,cq,d9,cr,ea,cs,eb,cu,ec,cv,ed,cw,ee,z,ef,cx,eg,cy,eh,cz,ei,cA,ej,cC,ek,cD,el,cE,em,cF,en,bd,fU,fP,be,bh,fW,fQ,fS,fT,bf,bg,fR,fX,fV⟩:=x;have k:=eo.symm.trans (Ep X f cF);cases k;have g:=λ{x:Tb}{di:Gc}(k:R6 K x di)=>Ep X f k;have y:=λ{x:Tb}(k:gO K x)=>NS X f k;have TP:hJ K mg CP:={⟨pP,dP,oP,sP⟩,fI,fG,fH,g aP};have v:kM K mg n:={⟨pW,dW,oW,sW⟩,fN,fO,g aW,{_,Ep X f df,{_,Xb}},{_,Ep X f dh,{_,Xb}},{_,Ep X f dg,{_,Xb}}};have b:Ut K mg d:={⟨pN,dN,oN,sN⟩,fz,fA,fD,fF,fE,fC,fB,fy,g aN};have TS:jh K j:={⟨pS,dS,oS,sS⟩,fM,fK,fJ,fL};have i:iD K mg h:={⟨pB,dB,oB,sB⟩,fw,fx,fv,g aB,{_,Ep X f cG,{_,Xb}}};have e:gN mg:={y bd,y fU,y fP,y be,y bh,y fW,y fQ,y fS,y fT,y bf,y bg};have c:J2 mg:={y bd,y be,y bh,y bf,y bg,y fR,y fX,y fV};obtain⟨_,M,k0⟩:=Zw h0;have b0:=M.b1 (p0:="thing") λ_ _ _ _ _ _ _=>rfl;obtain⟨_,N,k1⟩:=Zw h1;have b1:=N.b1 (p0:="self") λ_ _ _ _ _ _ _=>rfl;obtain⟨_,Y,k2⟩:=Zw h2;have b2:=Y.b2 (p0:="self") (p1:="thing") λ_ _ _ _ _ _ _ _=>rfl;have m2:Ye K CP "place_of" f2:=⟨a2,i2,k2⟩;obtain⟨_,F3,k3⟩:=Zw h3;have b3:=F3.b2 (p0:="self") (p1:="places") λ_ _ _ _ _ _ _ _=>rfl;obtain⟨_,F4,k4⟩:=Zw h4;have b4:=F4.b2 (p0:="met") (p1:="thing") λ_ _ _ _ _ _ _ _=>rfl;obtain⟨_,F5,k5⟩:=Zw h5;have b5:=F5.b2 (p0:="spare") (p1:="inner") λ_ _ _ _ _ _ _ _=>rfl;obtain⟨_,F6,k6⟩:=Zw h6;have b6:=F6.b4 (p0:="self") (p1:="thing") (p2:="near") (p3:="spare") λ_ _ _ _ _ _ _ _ _ _=>rfl;have m6:Ye K n "place_within" f6:=⟨a6,i6,k6⟩;obtain⟨_,F7,k7⟩:=Zw h7;have b7:=F7.b3 (p0:="self") (p1:="thing") (p2:="form") λ_ _ _ _ _ _ _ _ _=>rfl;have m7:Ye K CP "place_by_form" f7:=⟨a7,i7,k7⟩;obtain⟨_,F8,k8⟩:=Zw h8;have b8:=F8.b2 (p0:="forms") (p1:="told") λ_ _ _ _ _ _ _ _=>rfl;obtain⟨_,F9,k9⟩:=Zw h9;have b9:=F9.b2 (p0:="self") (p1:="forms") λ_ _ _ _ _ _ _ _=>rfl;obtain⟨_,O,eJ⟩:=Zw dF;have aQ:=O.b2 (p0:="self") (p1:="place") λ_ _ _ _ _ _ _ _=>rfl;have ba:Ye K d "take_in" dj:=⟨bQ,ep,eJ⟩;obtain⟨_,o,eK⟩:=Zw dG;have A:=o.b2 (p0:="self") (p1:="place") λ_ _ _ _ _ _ _ _=>rfl;have G:Ye K d "key_of" dk:=⟨bR,eq,eK⟩;obtain⟨_,P,eL⟩:=Zw dH;have B:=P.b3 (p0:="self") (p1:="one") (p2:="other") λ_ _ _ _ _ _ _ _ _=>rfl;have H:Ye K d "equal" dl:=⟨bS,er,eL⟩;obtain⟨_,Q,eM⟩:=Zw dI;have aR:=Q.b4 (p0:="self") (p1:="one") (p2:="other") (p3:="reason") λ_ _ _ _ _ _ _ _ _ _=>rfl;have bb:Ye K d "merge" dm:=⟨bT,es,eM⟩;obtain⟨_,R,eN⟩:=Zw dJ;have cH:=R.b2 (p0:="self") (p1:="link") λ_ _ _ _ _ _ _ _=>rfl;have fl:Ye K d "merge_link" dn:=⟨bU,et,eN⟩;obtain⟨_,S,eO⟩:=Zw dK;have cI:=S.b3 (p0:="self") (p1:="low") (p2:="high") λ_ _ _ _ _ _ _ _ _=>rfl;have fm:Ye K d "hang" dp:=⟨bV,eu,eO⟩;obtain⟨_,T,eP⟩:=Zw dL;have cJ:=T.b3 (p0:="self") (p1:="gone") (p2:="kept") λ_ _ _ _ _ _ _ _ _=>rfl;have fn:Ye K d "give_over" dq:=⟨bW,ev,eP⟩;obtain⟨_,U,eQ⟩:=Zw dM;have C:=U.b3 (p0:="self") (p1:="one") (p2:="other") λ_ _ _ _ _ _ _ _ _=>rfl;have I:Ye K d "way" dr:=⟨bX,ew,eQ⟩;obtain⟨_,V,eR⟩:=Zw dO;have cK:=V.b2 (p0:="self") (p1:="place") λ_ _ _ _ _ _ _ _=>rfl;have fo:Ye K d "way_up" ds:=⟨bY,ex,eR⟩;obtain⟨_,W,eS⟩:=Zw dQ;have cL:=W.b1 (p0:="self") λ_ _ _ _ _ _ _=>rfl;have fp:Ye K d "rows" dt:=⟨bZ,ey,eS⟩;obtain⟨_,Z,eT⟩:=Zw dR;have cM:=Z.b4 (p0:="things") (p1:="net") (p2:="one") (p3:="other") λ_ _ _ _ _ _ _ _ _ _=>rfl;obtain⟨_,aa,eU⟩:=Zw dT;have cO:=aa.b3 (p0:="net") (p1:="one") (p2:="other") λ_ _ _ _ _ _ _ _ _=>rfl;obtain⟨_,ab,aY⟩:=Zw dU;have aT:=ab.b2 (p0:="net") (p1:="link") λ_ _ _ _ _ _ _ _=>rfl;obtain⟨_,ac,gt⟩:=Zw dV;have cQ:=ac.b3 (p0:="self") (p1:="things") (p2:="net") λ_ _ _ _ _ _ _ _ _=>rfl;obtain⟨_,ad,eV⟩:=Zw dX;have D:=ad.b4 (p0:="self") (p1:="one") (p2:="other") (p3:="reason") λ_ _ _ _ _ _ _ _ _ _=>rfl;have J:Ye K j "write" dv:=⟨cf,eA,eV⟩;obtain⟨_,ae,eW⟩:=Zw dY;have cR:=ae.b2 (p0:="self") (p1:="link") λ_ _ _ _ _ _ _ _=>rfl;have fq:Ye K j "write_link" dw:=⟨cg,eB,eW⟩;obtain⟨_,p,eX⟩:=Zw dZ;have l:=p.b3 (p0:="self") (p1:="one") (p2:="other") λ_ _ _ _ _ _ _ _ _=>rfl;have m:Ye K j "line_for" dx:=⟨ch,eC,eX⟩;obtain⟨_,af,eY⟩:=Zw d0;have cT:=af.b1 (p0:="deeds") λ_ _ _ _ _ _ _=>rfl;obtain⟨_,ag,gu⟩:=Zw d1;have cU:=ag.b1 (p0:="self") λ_ _ _ _ _ _ _=>rfl;obtain⟨_,ah,eZ⟩:=Zw d2;have cV:=ah.b2 (p0:="self") (p1:="deed") λ_ _ _ _ _ _ _ _=>rfl;have fr:Ye K h "answer" dz:=⟨ck,eE,eZ⟩;obtain⟨_,ai,e0⟩:=Zw d3;have cX:=ai.b2 (p0:="self") (p1:="moment") λ_ _ _ _ _ _ _ _=>rfl;have fs:Ye K h "go_back" dA:=⟨cl,eF,e0⟩;obtain⟨_,aj,e1⟩:=Zw d4;have cY:=aj.b3 (p0:="self") (p1:="deed") (p2:="entry") λ_ _ _ _ _ _ _ _ _=>rfl;have ft:Ye K h "tell" dC:=⟨cm,eG,e1⟩;obtain⟨_,ak,e2⟩:=Zw d5;have cZ:=ak.b2 (p0:="self") (p1:="entry") λ_ _ _ _ _ _ _ _=>rfl;have fu:Ye K h "ask" dD:=⟨cn,eH,e2⟩;obtain⟨_,al,e3⟩:=Zw d6;have aU:=al.b3 (p0:="self") (p1:="net") (p2:="entry") λ_ _ _ _ _ _ _ _ _=>rfl;have bc:Ye K h "lines_for" dE:=⟨co,eI,e3⟩;obtain⟨_,am,aZ⟩:=Zw d7;have aV:=am.b2 (p0:="net") (p1:="entries") λ_ _ _ _ _ _ _ _=>rfl;obtain⟨_,ao,e4⟩:=Zw d8;have c0:=ao.b1 (p0:="_law_cell") λ_ _ _ _ _ _ _=>rfl;obtain⟨_,ap,e5⟩:=Zw d9;have c1:=ap.b1 (p0:="_law_cells") λ_ _ _ _ _ _ _=>rfl;obtain⟨_,aq,e6⟩:=Zw ea;have c2:=aq.b2 (p0:="_law_cells") (p1:="_law_things") λ_ _ _ _ _ _ _ _=>rfl;obtain⟨_,ar,e7⟩:=Zw eb;have c3:=ar.b3 (p0:="_law_script") (p1:="_law_most") (p2:="_law_bound") λ_ _ _ _ _ _ _ _ _=>rfl;obtain⟨_,au,e8⟩:=Zw ec;have c4:=au.b1 (p0:="_law_cell") λ_ _ _ _ _ _ _=>rfl;obtain⟨_,av,e9⟩:=Zw ed;have c5:=av.b2 (p0:="_law_told") (p1:="_law_things") λ_ _ _ _ _ _ _ _=>rfl;obtain⟨_,aw,fb⟩:=Zw ee;have c6:=aw.b2 (p0:="_law_told") (p1:="_law_deed") λ_ _ _ _ _ _ _ _=>rfl;obtain⟨_,ax,F⟩:=Zw ef;have E:=ax.b1 (p0:="_law_found") λ_ _ _ _ _ _ _=>rfl;obtain⟨_,ay,fc⟩:=Zw eg;have c7:=ay.b1 (p0:="_law_found") λ_ _ _ _ _ _ _=>rfl;obtain⟨_,az,fe⟩:=Zw eh;have c8:=az.b4 (p0:="_law_told") (p1:="_law_lines") (p2:="_law_k") (p3:="_law_pair") λ_ _ _ _ _ _ _ _ _ _=>rfl;obtain⟨_,aA,ff⟩:=Zw ei;have c9:=aA.b5 (p0:="_law_told") (p1:="_law_lines") (p2:="_law_one") (p3:="_law_other") (p4:="_law_pair") λ_ _ _ _ _ _ _ _ _ _ _=>rfl;obtain⟨_,aC,fg⟩:=Zw ej;have da:=aC.b2 (p0:="_law_rows") (p1:="_law_thing") λ_ _ _ _ _ _ _ _=>rfl;obtain⟨_,aD,fh⟩:=Zw ek;have db:=aD.b1 (p0:="_law_rows") λ_ _ _ _ _ _ _=>rfl;obtain⟨_,aE,fi⟩:=Zw el;have dd:=aE.b2 (p0:="_law_rows") (p1:="_law_told") λ_ _ _ _ _ _ _ _=>rfl;obtain⟨_,aF,fj⟩:=Zw em;have de:=aF.b4 (p0:="_law_told") (p1:="_law_one") (p2:="_law_other") (p3:="_law_found") λ_ _ _ _ _ _ _ _ _ _=>rfl;obtain⟨oc,od,an,sl,kV,dc,pm,cd,ct,ll,cc,fk⟩:=en;have bi:=vm (st:=iU) ll cc fk;have MP:Mk K CP f1:=⟨mP,a1,i1,cP⟩;have MW:Mk K n f3:=⟨mW,a3,i3,cW⟩;have MN:Mk K d f9:=⟨mN,a9,i9,cN⟩;have MS:Mk K j du:=⟨mS,ce,ez,cS⟩;have MB:Mk K h dy:=⟨mB,cj,eD,cB⟩;refine{Dl "law" "law" (Wv iU) (X8 iU) (Ql iU) .none kV dc pm an cd ct,λs L=>.of_eq Xb,λbase _ _=>?_};have G0:=JC (P:=a.prog) (w:=w) (mg:=mg) (base:=base) M c;have G7:=Ay (P:=a.prog) (w:=w) (mg:=mg) (base:=base) F7 TP c;have G4:=Po (P:=a.prog) (w:=w) (mg:=mg) (base:=base) F4 c;have G5:=K2 (P:=a.prog) (w:=w) (mg:=mg) (base:=base) F5;have G3:=AY (P:=a.prog) (w:=w) (mg:=mg) (base:=base) F3 v;have G6:=rD (P:=a.prog) (w:=w) (mg:=mg) (base:=base) F6 TP v c m6 b6 G0 k0 b0 (g a0) G4 k4 b4 (g a4) G5 k5 b5 (g a5) m7 G7 b7 50;have G2:=IP Y v MW G3 b3 m6 b6 G6;have G1:=OL (P:=a.prog) (w:=w) (mg:=mg) (base:=base) N TP;have q:=Ck (P:=a.prog) (w:=w) (mg:=mg) (base:=base) P b;have aG:=Ku (P:=a.prog) (w:=w) (mg:=mg) (base:=base) o b c;have bO:=zQ (P:=a.prog) (w:=w) (mg:=mg) (base:=base) o b c;have bn:=Pc (P:=a.prog) (w:=w) (mg:=mg) (base:=base) V b;have bl:=Ci (P:=a.prog) (w:=w) (mg:=mg) (base:=base) S b;have bm:=B8 T b G aG A;have bk:=Ab R b c fm bl cI fn bm cJ;have aH:=PD Q b H q B fl bk cH;have G9:=CL (P:=a.prog) (w:=w) (mg:=mg) (base:=base) F9 b;have bj:=vC O b ba aQ G aG A 59;have G8:=Hn F8 b c MN G9 b9 ba bj aQ bb aH aR;have aL:=OB am b c H q B;have r:=OI U b c fo bn cK;have bo:=Co W b c G bO A;have aI:=Pu (P:=a.prog) (w:=w) (mg:=mg) (base:=base) ab b c;have bq:=Bq aa b c I r C aI aY aT (g aM);have t:=Pv (P:=a.prog) (w:=w) (mg:=mg) (base:=base) (C:=d) ad TS c;have bP:=vz (g:=Gs) (k:=2) (by decide) p TS b m l JM I r C J t D;have aJ:=vz (g:=Gf) (k:=3) (by decide) p TS b m l bP I r C J t D;have bs:=K9 ae TS m l aJ aI aY aT (g aM) J t D;have br:=OE (P:=a.prog) (w:=w) (mg:=mg) (base:=base) (C:=d) ac TS;have bp:=zH Z TS b (Ep X f aS) MS br cQ bq eU cO (g cb) m l aJ fq cR bs;have aK:=zE al i TP bp eT cM (g ca);have bz:=Kr ak i TP b G8 k8 b8 (g a8) H q B fp bo cL bb aH aR aL aZ aV (g aO) bc aK aU;have bx:=OU aj i TP c G8 k8 b8 (g a8) aL aZ aV (g aO) bc aK aU;have bw:=CC (P:=a.prog) (w:=w) (mg:=mg) (base:=base) (CP:=CP) ai i c;have bu:=BR ag i TP MP G1 b1;have bv:=KW ah i TP fs bw cX m2 G2 b2 fu bz cZ ft bx cY;have bt:=zO af i MB bu cU fr bv cV;have bA:=CG (P:=a.prog) (w:=w) (mg:=mg) (base:=base) ao e.abs;have bB:=Aw ap e bA e4 c0 (g cp);have bE:=AG (P:=a.prog) (w:=w) (mg:=mg) (base:=base) au;have bC:=Cm aq e bE e8 c4 (g cu);have bD:=IG (P:=a.prog) (w:=w) (mg:=mg) (base:=base) ar e;have bF:=IR (P:=a.prog) (w:=w) (mg:=mg) (base:=base) av e;have bG:=Bp aw bF e9 c5 (g cv);have u:=Pt (P:=a.prog) (w:=w) (mg:=mg) (base:=base) ax e;have bH:=Aa (P:=a.prog) (w:=w) (mg:=mg) (base:=base) ay e;have bI:=Py az e u F E (g z);have bJ:=CU aA e bH fc c7 (g cx) bI fe c8 (g cy);have bK:=By (P:=a.prog) (w:=w) (mg:=mg) (base:=base) aC e;have bL:=Kw aD e u F E (g z);have bM:=Cz aE bL fh db (g cC) bK fg da (g cA);have bN:=zG aF e bJ ff c9 (g cz) u F E (g z) bM fi dd (g cD);exact P5 (M:=65) bi e (by decide) (by decide) bB e5 c1 (g cq) bC e6 c2 (g cr) bD e7 c3 (g cs) bt eY cT (g ci) bN fj de (g cE) bG fb c6 (g cw)
end
theorem Cy{l:SX}{q:Gg}{c:List Tb}{m:(Tb->Option Value)->Heap->Prop}{i:Gu->Heap->Prop}{d:MO}{K:MQ->Gd}(o:l.most=Ga 63)(g:d.params.defaults=[])
  (n:∀(w:Gu)(h:Heap),i w h->(K w.params).In h)
  (F:∀(w:Gu)(e:Tb->Option Value)(j:Gc)(h:Heap),(K w.params).In h->h.Ns T2 e->e d.name=Ga (.ref j)->
   ∃k:Tq,(∀(s:Gk)(u:Value),LV s k {[u],[]} [("_law_script",u)])/\∀b:Heap,(K w.params).In b->b.Ns T2 e->Qy l.prog w (K w.params) e b Z5 66 j k ["_law_script"] (lr (K w.params))):
  Mx q c m i l.row.toRowW d [] (λf b=>SI f b):=
 L2.PP (n:=63) (k:=66) (x:="_law_script") (CX:=λ_=>Z5) (sp:=λw=>lr (K w.params)) o (by decide) g {Xb,by decide,by decide} n F (λ_ _ a j e _ b=>{a,j,Xb,b,e,λ_=>rfl}) λ_ _ _ _ _ z=>z
end K03
theorem PySem.Challenge.cw_samebook_k03_whole_answers_shown_holds : PySem.Challenge.rw_samebook_k03_whole_answers_shown.Holds := by
  exact K03.head λ K g d c e b f => K03.Cy (l := PySem.Challenge.rw_samebook_k03_whole_answers_shown) rfl e b λ w j i h KX G a => K03.KB KX G (by rw [c] at a; exact a) (f w)
