import PyProof.Rows.All
import Wide.All
import OpenK.AllK
import Wide.FinOn
import Lean
import PyProof.EqAt
import PyProof.EqKinds
import PyProof.TupleCall
import KE.KIsAll
import KE.KRevIter
import PyProof.P3In
import PyProof.P3Eq
import KE.KDictList
import KE.KDictSum
import KE.KDictLaws
import PyProof.ZipIter
import KE.KItemsList
import PySem.Challenge.RW_samebook_k05_equal_unlike_or_open
set_option maxHeartbeats 16000000
abbrev Gi:=@if_neg
abbrev Gn:=@if_pos
abbrev Gz:=@decide_eq_false
abbrev GX:=@decide_eq_true
abbrev TJ:=@of_decide_eq_true
abbrev Dq:=@if_false
abbrev DA:=@beq_eq_false_iff_ne
abbrev Ee:=@or_false
abbrev Ey:=@beq_self_eq_true
abbrev Sh:=@beq_iff_eq
abbrev Su:=@if_true
abbrev FP:=@and_true
open Option renaming some->Ga,none->Gh,map_some->TZ,isSome_map->D0,map_eq_some_iff->EL,ne_none_iff_exists'->Sm,isSome_iff_exists->SA,isSome_some->LM,getD_none->Fq,none->NB
open PySem renaming wpAny_bind->Gb,Addr->Gc,wpAny_pure->Ge,Program->Gg,sizeLine->Gj,Shared->Gk,World->Gs,boot_len->GO,sizeLine_eq->GQ,model->GY,Str->Ta,starEach->Te,FuncData->Ts,wpAny_call_entry->Tv,wpAny_newObj_type->Tw,wpAny_field->TF,PyData->TH,Around->TL,wpAny_callSpecial?_slot->TR,Expr->T3,wpAny_holding->T4,mainGlobals->T5,Stmt->T6,sysModules->T9,wpAny_Call_Name_kw->Db,wpAny_seqItems->Dc,mem_of_lookup->Dj,compareOp->Dm,wpAny_dictEntries->Dz,wpAny_mono->DD,wpAny_setField_rec->DE,wpAny_typeNameOfWhole_keyiter->DJ,IsPair->DK,wpAny_typeNameOfWhole_valiter->DL,wpAny_specialOf->DO,backTo->DQ,cLine->DR,wpAny_passesOwn->DY,wpAny_truthy_bool->DZ,wpAny_typeNameOf_keyiter->D9,wpAny_typeNameOf_valiter->Ea,Obj->Eg,tupleKind_room_in1->Ej,wpAny_dictEpoch->Ek,DictEntry->Ep,builtinLookup_eq_fast->Et,wpAny_setField->Ev,wpAny_isInstance->Ez,wpAny_notOrdered_dict->EO,wpAny_isOneOf_valiter->ES,wpAny_rule->ET,wpAny_attempt->EW,NameKind->EY,ReadsAll->EZ,wpAny_pyIter_revIter->E1,wpAny_updateSeq_pair->E2,wpAny_execs_nil->E3,wpAny_updateSeq->E5,wpAny_ite_split->E6,typeLookup_type->E7,wpAny_pyIter_tuple->Sf,wpAny_fieldsOf->Sk,wpAny_letGo->Sx,wpAny_pyIter_slot->Sy,wpAny_comprehension_free->SE,wpAny_onRaise->SF,Scope->SH,wpAny_Call_method0_late->SI,wpAny_Dict_empty->SJ,call->SM,wpAny_pyNext_range_end->SO,wpAny_pyIter_rangeiter->SQ,codeAny_mono->SS,wpAny_Call_method_late->SV,Pos->SX,IsZip->S9,wpAny_isTrue_Compare1->La,wpAny_isOneOf_keyiter->Lb,wpAny_pyNext_rev_item->Le,IsRangeIter->Lg,isSubtype_stop->Ll,wpAny_pyIter_keyiter->Lm,wpAny_pyNext_rev_end->Lo,evalArgs_none->Lu,wpAny_standAt->LA,Reads->LB,wpAny_handled->LC,plainId_quiet->LD,wpAny_pyIter_range->LH,IsPart->LK,call_meets->LL,wpAny_getItem_heap->LN,wpAny_setItem_heap->LO,call_reversed_list->LP,Env->LR,Within->LU,wpAny_assign_Name->LV,BindsTo->L1,Keyword->L6,list_append->L8,call_meetsIn->Fa,eqIsQuiet_byValue->Fc,wpAny_pyIter_enum->Fe,wpAny_pyHash_int->Fh,wpAny_pyHash_str->Fi,wpAny_execs_cons->Fj,wpAny_forIn_list->Fu,wpAny_of_eq->Fy,wpAny_throw->Fz,wpAny_ret_mkInt->FD,codeAny_builtin->FE,wpAny_Name->FI,ZipApart->FR,wpAny_newTuple->FS,intBits_le_64->Mm,evalPart_none->MA,call_list_seq->MD,wpAny_in_heap->ME,DefRec->MZ,Params->M1,Result->M7,wpAny_typeOf->M9,seqIndex_neg->Nb,seqIndex_of->NA,HeapKind->NC,wpAny_call->NT,typeIs_str->NV,PlainAttrs->NW,Tok->Bj,Sem->Bk
open PySem.W renaming Frag->Gd,findIn->GJ,kitOne->Tf,isFn->Ti,keepIn->TY,kia_one->De,emptyDict->Dk,kia_tup->Do,plainGet->Dp,fnOf->Dw,hasDictIn->Dx,plainOver->DM,instObj->DN,kitAny->DT,makesIn->DX,mg_of->Er,nsIn->EG,kitx_list->EH,kitx_dict->EI,methodCall_KW->EN,plainGet_of->E8,codeIn->Sd,lookIn->Sg,callWith_K->Sj,methodObj->Sr,cellsFrom_some->SU,takerIn->SY,OpenLaw->S0,callWith_K0->Ls,kitx_float->LI,kitx_tuple->LJ,kitx_none->LW,kitx_bool->LX,handedIn->Fk,kitx_int->Fl,kitx_str->Fn,kdl_call->Fv,KdlSrc->FN,WalkO->MF,kdl_hint_values->MV,OpenLaw->MY,kdl_hint_dict->Nj,hideAll_size->No,hideAll_none->Np,truthy_bytes->Nx,looks_findIn->Ny,hideAll_get->NF,findObj_own->NG,looks_clsIn->NH,kdu_collect->NJ,XL->NK,of_hideAll->NN,codeRec_of->NU,pre_splitW->NX,mg_none_of->NZ,len_bytes->N9,get_value->Rs,method_fn->RA,set_plain->RB,make_core->RD,specialIn->RE,kdx_alive->RG,eq_bytes->RJ,ne_bytes->RK,osa_open->RM,any_some->RN,InitBack->RO,makes_of->RP,kitx_own->RQ,kdl_dict->RX,hideAll->RY,bind_fn->RZ,takesIn->Ba,kIn_of->Bb,InstAt->Be,typeIn->Bf,mroIn->Bh
open Bool renaming true->Gf,false->Gq,false_ne_true->Gx,and_eq_true->Tn,false_eq_true->TM,and_eq_true_iff->DG,eq_iff_iff->ED,eq_false_iff->Sw,or_false->MC,not_true->MI,and_true->MK
open Nat renaming le_refl->Gm,zero_le->Gw,lt_of_lt_of_le->Tc,ne_of_lt->Td,lt_or_ge->Tk,le_trans->Tt,ne_of_gt->Tu,le_add_right->T1,lt_irrefl->Du,lt_succ_self->DC,lt_of_le_of_lt->DS,mul_le_mul_right->D4,add_lt_add_left->Ed,add_mul->Eh,le_succ->EF,min_eq_left->E4,le_of_lt->E9,le_of_eq->Sa,lt_add_of_pos_right->SK,not_lt->LQ,add_zero->Fd,lt_succ_of_lt->Ff,lt_trichotomy->Fg,min_le_right->Fp,le_of_not_lt->Ft,succ_ne_self->Fw,one_mul->FC,mul_le_mul->FQ,add_assoc->MH,lt_trans->Nf
open Ne renaming symm->Gp
open PySem.Paired renaming length->Gr,snoc->DI
open PySem.F renaming plainAttrs_list->Gu,slot_list_append->GF,type_list_append->GV,plain_extend_loop->DB,slot_list_pop->DV,type_list_pop->DW,plainAttrs_dict->Ef,slot_dict_setdefault->El,type_dict_setdefault->Em,slot_list_extend->EB,type_list_extend->EC,slot_dict_getitem->Sn,entry_extend_loop->Sq,slot_dict_values->SG,args_list_append_2->FM,args_dict_values_1->FT,entry_list_append->Mh,entry_dict_values->Mj,args_list_init_2->MM,args_list_sort_1->MO,type_dict_values->MQ,typeCall_list_1->MT,entry_list_init->MU,entry_list_sort->MX,slot_list_sort->Nh,called_list->NI
open PySem.PyData renaming canLayAll0->Gv,depthAll->To,canLay0->Tp,eqvAll->Tx,eqv->TQ,strOk->TU,depth->Dg,int->Ew,list->FA
open PySem.PassesOwn renaming never->Gy
open PyProof.Rows renaming boot_isinstance->Tb,boot_list->TD,boot_tuple->TX,callWith_type1->Ds,slot_tuple_getitem->Eb,subscriptTail_builtinR->EK,boot_bool->EM,AllBare->Ss,IntsAre->SW,boot_str->Lf,Constant_none->Lz,callWith_builtin1->Fo,wpAny_notIn_heap->Fs,isnot_none_gen->FJ,slicePart_none->FK,Subscript_->FL,zipApart_new->Mi,boot_reversed->MJ,boot_sorted->MR,isTrue_plain->M3,boot_abs->Nk,boot_int->Nl,boot_min->Nm,is_none_gen->Nr,isTrue_and->NO,boot_range->NP,Call_->Bd
open Array renaming getElem?_eq_getElem->Tg,length_toList->TB,getElem?_toList->T8,getElem?_eq_none->Dh,toArray_toList->D2,forIn_toList->EE,append_assoc->LG,size_push->FF,toList->M4
open Option.some renaming inj->Tj,injEq->RF
open PySem.NameKind renaming free->Tq,cell->SD
open Int renaming emod_lt_of_pos->Tz,emod_nonneg->TV,toNat_natCast->Dl,toNat->DF,zero_add->EA,mul_le_mul_of_nonneg_right->EV,ediv_one->M8,le_of_lt->Ni,pow_pos->NE
open True renaming intro->TC
open Prod.mk renaming injEq->Df
open Or renaming inl->Di,inr->Es
open PySem.Str renaming ofString->Dy,empty->Eo
open ForInStep renaming yield->DP
open PySem.Obj renaming data_mapFields->DU,mapSeq->Eu,isFreed_of_fields->ER,mapFields->EX,cls_mapFields->Sz,data_mapDictKeys->Lj
open PySem.Calls renaming callWith_builtin->Ei,spliced_nil->EJ,Name_function_global->Se,spliced_cons->Si,call_function_entry->So,evalArgs_plain->Lh,call_len_list->Lq
open Classical renaming choose->EU,choose_spec->Lc,byContradiction->Ml
open Sum renaming inl->Sc,inr->SN
open PyProof renaming noPylong_small->SR
open PySem.Around renaming under_plainId->Lp,under->LY
open PySem.W.Fast renaming te14364793385576792824->Lv,te10274390034422433532->Lw,te14082659384304107361->Lx,te14289696077712309145->Ly,te4187177175401517315->LF
open PySem.Code renaming isFrame->LZ,frames->Nz
open Prod renaming ext->L4
open PySem.AutoSeq1 renaming list_extend_list_list_0->L9
open PySem.SeqAt renaming compareEq_reads->FG,compareNe_reads->FH,eqAt_reads->Ng
open PySem.EqNone renaming eq_none_none->FU,eq_none_bool->FX,eq_bool_none->FZ,ne_none_none->Mc,ne_none_bool->Md,ne_bool_none->Me,eq_none_int->Mn,eq_none_str->Mo,eq_int_none->Mq,eq_str_none->Ms,ne_none_int->Mu,ne_none_str->Mv,ne_int_none->Mw,ne_str_none->My
open PySem.EqMixed renaming eq_bool_str->Ma,eq_str_bool->Mb,ne_bool_str->Mf,ne_str_bool->Mg,eq_int_str->Mr,eq_str_int->Mt,ne_int_str->Mx,ne_str_int->Mz
open PySem.Shared renaming TypeIs->ML,heap->ND
open PySem.MeetsSeq renaming list_pop_last->Nc
open PySem.CmpOp renaming NotIn->Nq,In->Bc
open PySem.Data renaming fields->Nu,cell->RI,seq->Bg
open PySem.Walks renaming range->Nv
open PySem.IsRange renaming new->Nw
open PySem.SeqAt.EqAt renaming int_str->NL,str_int->NM
open PySem.P renaming truthy_int->NQ,truthy_str->NR,add_list->RU
open PySem.W.Looks renaming here->NS
open PySem.W.WShape renaming has->NY
open PySem.Within renaming cons->RC
open PySem.W.XL renaming keeps->RH
open PySem.DictEntry renaming refKey->RL
open PyProof.Rows.IsTup renaming new->RS
open PySem.IsL renaming update->RT
open PySem.W.WData renaming int->RV
open PySem.Expr renaming Call->RW
open Function renaming comp->Bi
open Sum.inl renaming inj->Bl
open Sum.inr renaming inj->Bm
open PySem.W.OpenLaw renaming pre->Bn
abbrev Xb:=@rfl
set_option Elab.async false
set_option linter.all false
set_option maxRecDepth 100000
set_option bootstrap.genMatcherCode false
set_option hygiene false
local macro_rules|`(tactic|subst_vars)=>`(tactic|refine _root_.Sb.hid fun g_ h_=>?_)
local macro_rules|`(tactic|and_intros)=>`(tactic|(refine h_ ?_;clear h_))
set_option hygiene true
local macro_rules|`(tactic|ac_rfl)=>`(tactic|first|with_reducible assumption|exact Gm _|exact Gw _|decide|exact Nat.succ_le_succ (Gw _)|exact T1 _ _|exact Nat.le_add_left _ _|exact DC _|exact E9 (by assumption)|exact Tt (by assumption) (by decide)|exact DS (by assumption) (by decide)|exact Tt (by assumption) (by assumption)|exact Tc (by assumption) (by assumption)|exact DS (by assumption) (by assumption)|exact Tt (Sa (by assumption)) (Tt (by assumption) (by decide))|exact DS (Tt (Sa (by assumption)) (by assumption)) (by decide)|exact Nat.le_succ_of_le (by assumption)|exact Du _ (by assumption)|exact absurd (by assumption) (Du _)|fail)
local macro_rules|`(tactic|omega)=>`(tactic|(ac_rfl;done))
local macro_rules|`(tactic|lia)=>`(tactic|(ac_rfl;done))
local macro_rules
 |`(tactic|eq_refl)=>`(tactic|first
  |exact⟨Xb,Xb,Xb,by decide+kernel,Xb,by decide+kernel,by decide+kernel⟩
  |exact⟨by rfl,by decide+kernel,by decide+kernel,by decide+kernel⟩
  |exactλ_ _ _ _ _ _ us hl=>match us,hl with|[_],_=>rfl
  |exactλ_ _ _ _ _ _ us hl=>match us,hl with|[_,_],_=>rfl
  |exactλ_ _ _ _ _ _ us hl=>match us,hl with|[_,_,_],_=>rfl
  |exactλ_ _ _ _ _ _ us hl=>match us,hl with|[_,_,_,_],_=>rfl
  |exactλ_ _ _ _ _ _ us hl=>match us,hl with|[_,_,_,_,_],_=>rfl)
namespace L2
open PySem PySem.Spec PyProof.Rows
def Z5(s:T6)(j:Nat):T6:=match s with
 |.ClassDef _ _ _ a _ _ _ _ _ _ _=>a.getD j (.Pass ⟨0,0,0,0⟩)
 |_=>.Pass ⟨0,0,0,0⟩
def Vg(s:T6):Arguments:=match s with
 |.FunctionDef _ a _ _ _ _ _ _ _ _=>a
 |_=>{posonlyargs:=[],args:=[],vararg:=Gh,kwonlyargs:=[],kw_defaults:=[],kwarg:=Gh,defaults:=[]}
def Qj(s:T6):List T6:=match s with
 |.FunctionDef _ _ b _ _ _ _ _ _ _=>b
 |_=>[]
def Ql(s:T6):SH:=match s with
 |.FunctionDef _ _ _ _ _ _ a _ _ _=>a
 |_=>{kind:=.function,names:=[],isGenerator:=Gq,isCoroutine:=Gq}
end L2
section
namespace Sb
open PySem L2
inductive Yx(K:Gd)(x q:Ta)(st:T6)(f:Gc):Prop
 |mk (oc:_) (od:_) (an:_) (sl:_) (kV:_) (dc:_) (pm:_) (cd:_) (ct:_) (h0:K.lookup f=Ga ⟨oc,od,.func (Dw x q (Vg st) (Qj st) (Ql st) .none kV dc pm an cd ct),sl⟩) (h1:Sd K cd q=Gf) (h2:TY K (.ref f)=Gf):Yx K x q st f
abbrev NsF(K:Gd)(x:Ta)(f:Gc):Prop:=EG K T5 x=Ga (Ga (.ref f))
abbrev FiF(K:Gd)(c:Gc)(x:Ta)(f:Gc):Prop:=GJ K (.ref c) x=Ga (Ga (.ref f))
abbrev NsN(K:Gd)(x:Ta):Prop:=EG K T5 x=Ga Gh
end Sb
end
section
namespace K05
open PySem L2 Sb
def top(i:Nat):T6:=PySem.Challenge.pw_samebook_k05_equal_unlike_or_open.main.body.getD i (.Pass ⟨0,0,0,0⟩)
abbrev Qa6:T6:=top 1
abbrev X9:T6:=Z5 (top 2) 0
abbrev Ws:T6:=Z5 (top 2) 1
abbrev Qa1:T6:=Z5 (top 2) 2
abbrev Qlx:T6:=Z5 (top 2) 3
abbrev Qmb:T6:=Z5 (top 2) 4
abbrev Xg:T6:=Z5 (top 2) 5
abbrev Qh0:T6:=Z5 (top 2) 6
abbrev Wj:T6:=Z5 (top 2) 7
abbrev Qll:T6:=Z5 (top 2) 8
abbrev Qa4:T6:=Z5 (top 2) 9
abbrev Qbf:T6:=Z5 (top 2) 10
abbrev Qap:T6:=top 4
abbrev Im:T6:=top 5
abbrev Qlo:T6:=top 6
abbrev Io:T6:=Z5 (top 7) 0
abbrev Qmr:T6:=Z5 (top 7) 1
abbrev Vd:T6:=Z5 (top 7) 2
abbrev R5:T6:=Z5 (top 7) 3
abbrev Om:T6:=Z5 (top 12) 0
abbrev Qdb:T6:=Z5 (top 12) 1
abbrev Qhn:T6:=Z5 (top 12) 2
abbrev Qgp:T6:=Z5 (top 13) 0
abbrev Yt:T6:=Z5 (top 13) 1
abbrev Qw7:T6:=top 14
abbrev Qld:T6:=top 15
abbrev Qmp:T6:=top 16
abbrev Od:T6:=top 19
abbrev Rw:T6:=top 20
abbrev V1:T6:=top 21
abbrev Oz:T6:=Z5 (top 22) 0
abbrev Iy:T6:=Z5 (top 22) 1
abbrev Jl:T6:=Z5 (top 22) 2
abbrev Oj:T6:=Z5 (top 22) 3
abbrev Qhl:T6:=Z5 (top 22) 4
abbrev Qav:T6:=Z5 (top 22) 5
abbrev Ql6:T6:=top 23
abbrev Qdd:T6:=top 25
abbrev Qk5:T6:=top 26
abbrev Vn:T6:=top 27
abbrev Qrf:T6:=top 28
abbrev Qhq:T6:=top 29
abbrev Qez:T6:=top 30
abbrev Qt7:T6:=top 31
abbrev Q0p:T6:=top 32
abbrev sSo:T6:=top 33
abbrev Qhi:T6:=top 34
end K05
end
section
namespace K05
open PySem L2 Sb
inductive Fx(K:Gd):Prop
 |mk {CP CW CN CS CB f0 f1 f2 f3 f4 f5 f6 f7 f8 f9 f10 f11 f12 f13 f14 f15 f16 f17 f18 f19 f20 f21 f22 f23 f24 f25 f26 f27 f28 f29 f30 f31 f32 f33 f34 f35 f36 f37 f38 f39 f40 f41 f42 f43 f44 f45 f46:Gc} {tkn tfew twal tste:Bj}
  (aP:NsF K "Places" CP) (pP:Dp K CP Eo=Gf) (dP:Dx K CP=Gf) (oP:DM K CP=Gf) (sP:GJ K (.ref CP) "__setattr__"=Ga (Ga (.builtin "object.__setattr__"))) (mP:DX K CP=Gf) (cP:TY K (.ref CP)=Gf)
  (nPthings:GJ K (.ref CP) "things"=Ga Gh) (nPforms:GJ K (.ref CP) "forms"=Ga Gh) (nPknown:GJ K (.ref CP) "known"=Ga Gh) (aW:NsF K "Walk" CW) (pW:Dp K CW Eo=Gf) (dW:Dx K CW=Gf) (oW:DM K CW=Gf)
  (sW:GJ K (.ref CW) "__setattr__"=Ga (Ga (.builtin "object.__setattr__"))) (mW:DX K CW=Gf) (cW:TY K (.ref CW)=Gf) (nWplaces:GJ K (.ref CW) "places"=Ga Gh) (nWsteps:GJ K (.ref CW) "steps"=Ga Gh) (aN:NsF K "Net" CN)
  (pN:Dp K CN Eo=Gf) (dN:Dx K CN=Gf) (oN:DM K CN=Gf) (sN:GJ K (.ref CN) "__setattr__"=Ga (Ga (.builtin "object.__setattr__"))) (mN:DX K CN=Gf) (cN:TY K (.ref CN)=Gf) (nNforms:GJ K (.ref CN) "forms"=Ga Gh)
  (nNleads:GJ K (.ref CN) "leads"=Ga Gh) (nNmembers:GJ K (.ref CN) "members"=Ga Gh) (nNusers:GJ K (.ref CN) "users"=Ga Gh) (nNtable:GJ K (.ref CN) "table"=Ga Gh) (nNlinks:GJ K (.ref CN) "links"=Ga Gh) (nNlinkat:GJ K (.ref CN) "link_at"=Ga Gh)
  (nNabove:GJ K (.ref CN) "above"=Ga Gh) (aS:NsF K "Showing" CS) (pS:Dp K CS Eo=Gf) (dS:Dx K CS=Gf) (oS:DM K CS=Gf) (sS:GJ K (.ref CS) "__setattr__"=Ga (Ga (.builtin "object.__setattr__"))) (mS:DX K CS=Gf)
  (cS:TY K (.ref CS)=Gf) (nSthings:GJ K (.ref CS) "things"=Ga Gh) (nSnet:GJ K (.ref CS) "net"=Ga Gh) (nSlines:GJ K (.ref CS) "lines"=Ga Gh) (nSnumbers:GJ K (.ref CS) "numbers"=Ga Gh) (aB:NsF K "Book" CB) (pB:Dp K CB Eo=Gf)
  (dB:Dx K CB=Gf) (oB:DM K CB=Gf) (sB:GJ K (.ref CB) "__setattr__"=Ga (Ga (.builtin "object.__setattr__"))) (mB:DX K CB=Gf) (cB:TY K (.ref CB)=Gf) (nBplaces:GJ K (.ref CB) "places"=Ga Gh) (nBtold:GJ K (.ref CB) "told"=Ga Gh)
  (nBentries:GJ K (.ref CB) "entries"=Ga Gh) (cfew:EG K T5 "FEW_PARTS"=Ga (Ga (.int 4 tfew))) (cwal:EG K T5 "WALKS_ANEW"=Ga (Ga (.int 1024 twal))) (cste:EG K T5 "STEPS_ANEW"=Ga (Ga (.int 40000 tste))) (anm:EG K T5 "NO_MOMENT"=Ga (Ga (.str "no moment" tkn)))
  (a0:NsF K "top_words" f0) (h0:Yx K "top_words" "top_words" Qw7 f0) (a1:FiF K CP "__init__" f1) (i1:Ti K (.ref f1)=Gf) (h1:Yx K "__init__" "Places.__init__" Om f1) (a2:FiF K CP "place_of" f2) (i2:Ti K (.ref f2)=Gf)
  (h2:Yx K "place_of" "Places.place_of" Qdb f2) (a3:FiF K CW "__init__" f3) (i3:Ti K (.ref f3)=Gf) (h3:Yx K "__init__" "Walk.__init__" Qgp f3) (a4:NsF K "place_among" f4) (h4:Yx K "place_among" "place_among" Qld f4)
  (a5:NsF K "share_of" f5) (h5:Yx K "share_of" "share_of" Qmp f5) (a6:FiF K CW "place_within" f6) (i6:Ti K (.ref f6)=Gf) (h6:Yx K "place_within" "Walk.place_within" Yt f6) (a7:FiF K CP "place_by_form" f7)
  (i7:Ti K (.ref f7)=Gf) (h7:Yx K "place_by_form" "Places.place_by_form" Qhn f7) (a8:NsF K "net_of" f8) (h8:Yx K "net_of" "net_of" Qa6 f8) (a9:FiF K CN "__init__" f9) (i9:Ti K (.ref f9)=Gf) (h9:Yx K "__init__" "Net.__init__" X9 f9)
  (a10:FiF K CN "take_in" f10) (i10:Ti K (.ref f10)=Gf) (h10:Yx K "take_in" "Net.take_in" Ws f10) (a11:FiF K CN "key_of" f11) (i11:Ti K (.ref f11)=Gf) (h11:Yx K "key_of" "Net.key_of" Qa1 f11) (a12:FiF K CN "equal" f12)
  (i12:Ti K (.ref f12)=Gf) (h12:Yx K "equal" "Net.equal" Qlx f12) (a13:FiF K CN "merge" f13) (i13:Ti K (.ref f13)=Gf) (h13:Yx K "merge" "Net.merge" Qmb f13) (a14:FiF K CN "merge_link" f14) (i14:Ti K (.ref f14)=Gf)
  (h14:Yx K "merge_link" "Net.merge_link" Xg f14) (a15:FiF K CN "hang" f15) (i15:Ti K (.ref f15)=Gf) (h15:Yx K "hang" "Net.hang" Qh0 f15) (a16:FiF K CN "give_over" f16) (i16:Ti K (.ref f16)=Gf) (h16:Yx K "give_over" "Net.give_over" Wj f16)
  (a17:FiF K CN "way" f17) (i17:Ti K (.ref f17)=Gf) (h17:Yx K "way" "Net.way" Qll f17) (a18:FiF K CN "way_up" f18) (i18:Ti K (.ref f18)=Gf) (h18:Yx K "way_up" "Net.way_up" Qa4 f18) (a19:FiF K CN "rows" f19) (i19:Ti K (.ref f19)=Gf)
  (h19:Yx K "rows" "Net.rows" Qbf f19) (a20:NsF K "lines_between" f20) (h20:Yx K "lines_between" "lines_between" Qap f20) (a21:NsF K "links_needed" f21) (h21:Yx K "links_needed" "links_needed" Im f21) (a22:NsF K "pairs_below" f22)
  (h22:Yx K "pairs_below" "pairs_below" Qlo f22) (a23:FiF K CS "__init__" f23) (i23:Ti K (.ref f23)=Gf) (h23:Yx K "__init__" "Showing.__init__" Io f23) (a24:FiF K CS "write" f24) (i24:Ti K (.ref f24)=Gf) (h24:Yx K "write" "Showing.write" Qmr f24)
  (a25:FiF K CS "write_link" f25) (i25:Ti K (.ref f25)=Gf) (h25:Yx K "write_link" "Showing.write_link" Vd f25) (a26:FiF K CS "line_for" f26) (i26:Ti K (.ref f26)=Gf) (h26:Yx K "line_for" "Showing.line_for" R5 f26)
  (a27:NsF K "answers" f27) (h27:Yx K "answers" "answers" Od f27) (a28:FiF K CB "__init__" f28) (i28:Ti K (.ref f28)=Gf) (h28:Yx K "__init__" "Book.__init__" Oz f28) (a29:FiF K CB "answer" f29) (i29:Ti K (.ref f29)=Gf)
  (h29:Yx K "answer" "Book.answer" Iy f29) (a30:FiF K CB "go_back" f30) (i30:Ti K (.ref f30)=Gf) (h30:Yx K "go_back" "Book.go_back" Jl f30) (a31:FiF K CB "tell" f31) (i31:Ti K (.ref f31)=Gf) (h31:Yx K "tell" "Book.tell" Oj f31)
  (a32:FiF K CB "ask" f32) (i32:Ti K (.ref f32)=Gf) (h32:Yx K "ask" "Book.ask" Qhl f32) (a33:FiF K CB "lines_for" f33) (i33:Ti K (.ref f33)=Gf) (h33:Yx K "lines_for" "Book.lines_for" Qav f33) (a34:NsF K "least_clash" f34)
  (h34:Yx K "least_clash" "least_clash" Ql6 f34) (a35:NsF K "book_after" f35) (h35:Yx K "book_after" "book_after" V1 f35) (a36:NsF K "told_after" f36) (h36:Yx K "told_after" "told_after" Rw f36) (a37:NsF K "_law_any_word" f37)
  (h37:Yx K "_law_any_word" "_law_any_word" Qez f37) (a38:NsF K "_law_so" f38) (h38:Yx K "_law_so" "_law_so" sSo f38) (a39:NsF K "_law_drawn_things" f39) (h39:Yx K "_law_drawn_things" "_law_drawn_things" Qdd f39) (a40:NsF K "_law_drawn_deeds" f40) (h40:Yx K "_law_drawn_deeds" "_law_drawn_deeds" Qk5 f40)
  (a41:NsF K "_law_room" f41) (h41:Yx K "_law_room" "_law_room" Qt7 f41) (a42:NsF K "_law_any" f42) (h42:Yx K "_law_any" "_law_any" Q0p f42) (a43:NsF K "_law_classes" f43) (h43:Yx K "_law_classes" "_law_classes" Vn f43) (a44:NsF K "_law_kind" f44)
  (h44:Yx K "_law_kind" "_law_kind" Qrf f44) (a45:NsF K "_law_barred" f45) (h45:Yx K "_law_barred" "_law_barred" Qhq f45) (a46:NsF K "law" f46) (h46:Yx K "law" "law" Qhi f46) (z_len:NsN K "len") (z_min:NsN K "min") (z_abs:NsN K "abs") (z_list:NsN K "list")
  (z_tuple:NsN K "tuple") (z_str:NsN K "str") (z_bool:NsN K "bool") (z_int:NsN K "int") (z_isinstance:NsN K "isinstance") (z_range:NsN K "range") (z_reversed:NsN K "reversed") (z_enumerate:NsN K "enumerate") (z_zip:NsN K "zip") (z_sorted:NsN K "sorted"):Fx K
end K05
open PySem PySem.W PyProof.Rows
namespace K05
abbrev pw:Gg:=PySem.Challenge.pw_samebook_k05_equal_unlike_or_open
abbrev qv:Gg:=view pw [1,2,4,5,6,7,9,10,11,12,13,14,15,16,18,19,20,21,22,23,25,26,27,28,29,30,31,32,33,34]
theorem once{l:MY}{q:Gg}{d:MZ}{a:List (Ta×PySem.Expr)}{N:Nat}(H:Hook)(left:LeftO l.row.prog q [] (λs=>xlAt q [] s&&recOk l.row.toRowW.records s) H.obs H.val N)(b:defOf q l.row.name=Ga (d,a))(h:l.row.prog.theDef l.row.name=Ga (d.params,d.body,d.scope))(g:kwWritten? d.params.kwonlyargs d.params.kw_defaults=Ga a)
  (c:(!l.row.writes||l.row.records.isEmpty)=Gf)(i:l.row.wellSaid=Gf)(ok:(chainsOk q&&opensWell l.row.prog&&(frees l.row.toRowW&&l.row.within.isEmpty))=Gf)(hb:l.row.prog.bare)(hw:l.row.toRowW.promised)(call:WalkO q [] (NK q []) H.says l.row.toRowW d a λf vs=>SM f vs):l.row.Holds:=
 holds_open left H.of H.keeps (λs e=>xl_of s (DG.mp e).1) RH b h g (λs e=>recFacts_of (DG.mp e).2) c i ok hb hw call
end K05
def PySem.W.Fast.tw15408278540659705730:Gg:=K05.pw
theorem PySem.W.Fast.te15408278540659705730:PySem.Challenge.pw_samebook_k05_equal_unlike_or_open=PySem.W.Fast.tw15408278540659705730:=rfl
local macro_rules|`(tactic|o_head $H:term)=>`(tactic|refine K05.once (q:=K05.qv) (N:=5266) $H ?hl (by rfl) (by rfl) (by rfl) (by rfl) (by assumption) (by decide+kernel) ⟨Xb,Xb,Xb,Xb,Xb,by decide+kernel⟩ ?hw ?hc)
set_option maxHeartbeats 0 in
theorem K05.head(W:∀(K:M1->Frag)(a:Gs->Heap->Prop)(d:MZ),d.name="law"->d.params.defaults=[]->(∀(w:Gs)(h:Heap),a w h->(K w.params).In h)->(∀w:Gs,K05.Fx (K w.params))->WalkO K05.qv [] (NK K05.qv []) a PySem.Challenge.rw_samebook_k05_equal_unlike_or_open.row.toRowW d [] λf vs=>SM f vs):PySem.Challenge.rw_samebook_k05_equal_unlike_or_open.Holds:=by
 w_on;o_law;k_head;(case hw=>w_witness2)
 case hl=>
  (show LeftO K05.pw (view K05.pw _) _ _ _ _ _)
  intro w;unfold openEnds fencedOpening topFrom K05.pw;rw[Lv,Lw,Lx,Ly,LF,PySem.W.Fast.te15408278540659705730];kernel_rfl
 case hc=>
  k_fill
  refine W _ _ _ rfl rfl (λw h Y=>Bb Y) λw=>?_;apply K05.Fx.mk;all_goals first|exact⟨_,_,_,_,_,_,_,_,_,by k_is,by k_is,by k_is⟩|(show _=_;k_is)|skip
end
namespace L2
open PySem PySem.Spec PyProof.Rows
variable{a b C:Gc}{P:Gg}{w:Gs}{o:Eg}{t' i k n:Nat}{N ps:List Ta}{x:Ta}{M:Model}{A:TL}{E Q:Value->Gk->Prop}{u:Value}{e c tg:T3}{s:Gk}{zq:List (Gc×Eg)}{pos:SX}{op:CmpOp}{K:Gd}{body:List T6}{fp:List Gc}{pl:Bk Bool}{f:Value->Value->Bk Value}{us:List Value}{kw:List (Ta×Value)}{mg:Ta->Option Value}
abbrev Xv:=Sum Int Ta
def Qdc:Xv->Value->Bool
 |.inl k,v=>Value.isInt k v
 |.inr x,v=>Value.isStrOf x v
def Q4x(w:Gs):Xv->Int
 |.inl k=>hashInt k
 |.inr x=>hashStr w x
theorem Y0:∀{k:Xv}{v:Value},Qdc k v=Gf->(∃i t,k=Sc i/\v=Value.int i t)\/(∃x t,k=SN x/\v=Value.str x t)
 |.inl i,v,h=>by obtain⟨t,e⟩:=Value.isInt_shape (k:=i) (v:=v) h;exact .inl ⟨i,t,Xb,e⟩
 |.inr x,v,h=>by obtain⟨t,e⟩:=Value.isStrOf_shape (x:=x) (v:=v) h;exact .inr ⟨x,t,Xb,e⟩
theorem Qqn(i:Int)(t:Bj):Qdc (.inl i) (.int i t)=Gf:=by simp[Qdc,Value.isInt]
theorem Qpf(x:Ta)(t:Bj):Qdc (.inr x) (.str x t)=Gf:=by simp[Qdc,Value.isStrOf]
theorem Q05(a b:Int):decide ((Sc a:Xv)=Sc b)=(a==b):=by
 by_cases e:a=b
 ·subst e;simp
 ·have h:¬(Sc a:Xv)=Sc b:=λq=>e (Bl q);rw[Gz h];exact(DA.mpr e).symm
theorem Q0o(a b:Ta):decide ((SN a:Xv)=SN b)=decide (a=b):=by
 by_cases e:a=b
 ·subst e;simp
 ·have h:¬(SN a:Xv)=SN b:=λq=>e (Bm q);rw[Gz h,Gz e]
theorem Q0q(a:Int)(b:Ta):decide ((Sc a:Xv)=SN b)=Gq:=Gz (λq=>nomatch q)
theorem Q06(a:Ta)(b:Int):decide ((SN a:Xv)=Sc b)=Gq:=Gz (λq=>nomatch q)
def Ym(prog:Gg)(w:Gs):PySem.KeyKind prog w Xv where
 is:=Qdc
 hash:=Q4x w
 inj:=λv a b f hb=>by
  rcases Y0 f with⟨i,t,rfl,rfl⟩|⟨x,t,rfl,rfl⟩
  ·rcases Y0 hb with⟨j,u,rfl,e⟩|⟨y,u,rfl,e⟩
   ·injection e with c _;rw[c]
   ·exact nomatch e
  ·rcases Y0 hb with⟨j,u,rfl,e⟩|⟨y,u,rfl,e⟩
   ·exact nomatch e
   ·injection e with c _;rw[c]
 byValue:=λk v h=>by rcases Y0 h with⟨i,t,rfl,rfl⟩|⟨x,t,rfl,rfl⟩<;>rfl
 pyHash:=λd h=>by
  rcases Y0 d with⟨i,t,rfl,rfl⟩|⟨x,t,rfl,rfl⟩
  ·exact Fh h
  ·exact Fi h
 eqBool:=λg d h=>by
  rcases Y0 g with⟨i,t,rfl,rfl⟩|⟨x,t,rfl,rfl⟩
  ·rcases Y0 d with⟨j,u,rfl,rfl⟩|⟨y,u,rfl,rfl⟩
   ·rw[Q05]at h;exact wpAny_eqBool_int h
   ·rw[Q0q]at h;exact NL i t y u _ _ _ _ h
  ·rcases Y0 d with⟨j,u,rfl,rfl⟩|⟨y,u,rfl,rfl⟩
   ·rw[Q06]at h;exact NM x t j u _ _ _ _ h
   ·rw[Q0o]at h;exact wpAny_eqBool_str h
 «strs»:=λk x t v h=>by
  rcases Y0 h with⟨i,u,rfl,e⟩|⟨y,u,rfl,e⟩
  ·exact nomatch e
  ·injection e with c _;subst c;cases v<;>rfl
theorem Qh4(prog:Gg)(w:Gs)(i:Int)(t:Bj):(Ym prog w).is (.inl i) (.int i t)=Gf:=Qqn i t
theorem Qim(prog:Gg)(w:Gs)(x:Ta)(t:Bj):(Ym prog w).is (.inr x) (.str x t)=Gf:=Qpf x t
inductive V where
 |non|bl (b:Bool)|int (i:Int)|str (x:Ta)|byt (b:Array UInt8)|flt (b:UInt64)|ref (a:Gc)|ty (n:String)
 deriving DecidableEq
variable{v:V}{vs xs:List V}
def RelV:V->Value->Prop
 |.non,u=>u=Value.none
 |.bl b,u=>u=Value.bool b
 |.int i,u=>∃t,u=Value.int i t
 |.str x,u=>∃t,u=Value.str x t
 |.byt b,u=>∃t,u=Value.bytes b t
 |.flt b,u=>∃t,u=Value.float b t
 |.ref a,u=>u=Value.ref a
 |.ty n,u=>u=Value.type n
abbrev Zv:List V->List Value->Prop:=Paired RelV
theorem Zv.length{xs:List V}{us:List Value}(r:Zv xs us):xs.length=us.length:=Gr r
theorem Zv.get:∀{xs:List V}{us:List Value}{i:Nat}{x:V},Zv xs us->xs[i]?=Ga x->∃u,us[i]?=Ga u/\RelV x u
 |_,_,_,_,.nil,e=>by simp at e
 |_,_,0,_,.cons r _,e=>by simp at e;subst e;exact⟨_,Xb,r⟩
 |_,_,i+1,x,.cons _ t,e=>by obtain⟨u,h1,h2⟩:=Zv.get (i:=i) (x:=x) t (by simpa using e);exact⟨u,by simpa using h1,h2⟩
theorem Zv.append:∀{xs ys:List V}{us a:List Value},Zv xs us->Zv ys a->Zv (xs++ys) (us++a)
 |_,_,_,_,.nil,s=>s
 |_,_,_,_,.cons r t,s=>.cons r (Zv.append t s)
theorem Zv.take:∀{xs:List V}{us:List Value}(n:Nat),Zv xs us->Zv (xs.take n) (us.take n)
 |_,_,0,_=>.nil
 |_,_,_+1,.nil=>.nil
 |_,_,n+1,.cons r t=>.cons r (Zv.take n t)
theorem Zv.drop:∀{xs:List V}{us:List Value}(n:Nat),Zv xs us->Zv (xs.drop n) (us.drop n)
 |_,_,0,r=>r
 |_,_,_+1,.nil=>.nil
 |_,_,n+1,.cons _ t=>Zv.drop n t
def Ia:Option V->Option Value->Prop
 |some v,Ga u=>RelV v u
 |none,Gh=>True
 |_,_=>False
def KV{κ:Type}:List (κ×V)->List (κ×Value)->Prop:=Paired λ(p:κ×V)(q:κ×Value)=>p.1=q.1/\RelV p.2 q.2
def kV:Xv->V
 |.inl i=>.int i
 |.inr x=>.str x
inductive HO where
 |lst (xs:List V)
 |tup (xs:List V)
 |dK (zw:List (Xv×V))|dT (zw:List (List Xv×V))
 |set (S:Int->Bool) (n:Nat)
 |ins (C dx:Gc) (fs:List (Ta×V))
 |own (x:Gc)
 |xd (fs:List (Ta×V))
 |met (f x:Gc)
 |rng (lo hi:Int)
 |frz (o:Eg) (u:HO)
 |tbl (ps:Array Value)
 |ext (φ:Heap->Prop)
abbrev Hp:=Gc->Option HO
variable{H:Hp}
def zj(H:Hp)(a:Gc)(o:HO):Hp:=λb=>if b=a then Ga o else H b
theorem Qb{H:Hp}{a:Gc}{o:HO}:zj H a o a=Ga o:=by unfold zj;rw[Gn rfl]
theorem Qf{o:HO}(h:b≠a):zj H a o b=H b:=by unfold zj;rw[Gi h]
theorem Jf{o u:HO}:zj (zj H a o) a u=zj H a u:=by
 funext b;unfold zj;split<;>rfl
theorem Zi{o u:HO}(h:H a=Ga o)(h':H b=Ga u)(d:o≠u):a≠b:=by intro e;subst e;rw[h]at h';exact d (Tj h')
theorem Qc{o:HO}(h:H a=Ga o)(h':H b=Gh):a≠b:=by intro e;subst e;rw[h]at h';cases h'
section
variable(P:Gg)(w:Gs)
def Z3(H:Hp)(h:Heap)(a:Gc):HO->Prop
 |.lst xs=>xs.length<=Gj/\∃(its:List Value)(n:Nat),Zv xs its/\h.get? a=Ga {cls:=.type "list",data:=.seq its.toArray n}
 |.tup xs=>xs.length<=Gj/\∃its:List Value,Zv xs its/\IsTup h a its.toArray
 |.dK zw=>zw.length<=Gj/\(a==T9)=Gq/\∃vs,KV zw vs/\h.DictOf (Ym P w) a vs
 |.dT zw=>zw.length<=Gj/\(a==T9)=Gq/\∃xs:List (List Xv×Gc×Value),
   Paired (λ(p:List Xv×V)(q:List Xv×Gc×Value)=>p.1=q.1/\H q.2.1=Ga (.tup (p.1.map kV))/\RelV p.2 q.2.2) zw xs/\
   ∃o es ep,h.get? a=Ga o/\o.ExactDict/\o.data=.dict es ep/\es.toList=xs.map (entryOfKey (tupleKind (Ym P w)))/\(xs.map (·.1)).Nodup
 |.set S n=>h.SetOf (intKind P w) a S n
 |.ins C dx fs=>H dx=Ga (.own a)/\fs.length<=1000/\dx≠a/\h.get? a=Ga (DN C dx)/\
   ∃mA,h.Ns1 dx mA/\(∀f,Ia (fs.lookup f) (mA f))/\LU mA (fs.map (·.1))
 |.own _=>∃o,h.get? a=Ga o
 |.xd fs=>∃mA,h.Ns1 a mA/\∀f,Ia (fs.lookup f) (mA f)
 |.rng lo hi=>∃t u v,h.get? a=Ga {cls:=.type "range",data:=.fields #[.int lo t,.int hi u,.int 1 v]}
 |.frz o u=>h.get? a=Ga o/\Z3 H h a u
 |.tbl ps=>h.get? a=Ga {cls:=.none,data:=.fields ps}
 |.met f x=>h.get? a=Ga (Sr (.ref f) (.ref x))
 |.ext φ=>φ h/\(∃o,h.get? a=Ga o)/\∀h1 h2:Heap,φ h1->(∀o,h1.get? a=Ga o->h2.get? a=Ga o)->φ h2
def Re(H:Hp)(h:Heap):Prop:=∀a o,H a=Ga o->Z3 P w H h a o
end
section
variable{P:Gg}{w:Gs}{H H':Hp}{h h':Heap}{a:Gc}{o:HO}
theorem Z3.lt(x:Z3 P w H h a o):a<h.objs.size:=by
 cases o with
 |lst xs=>obtain⟨_,_,_,_,e⟩:=x;exact Heap.lt_size e
 |tup xs=>obtain⟨_,_,_,p⟩:=x;exact p.lt
 |dK zw=>obtain⟨_,_,_,_,o,_,_,e,_⟩:=x;exact Heap.lt_size e
 |dT zw=>obtain⟨_,_,_,_,o,_,_,e,_⟩:=x;exact Heap.lt_size e
 |set S n=>obtain⟨o,_,_,_,e,_⟩:=x;exact Heap.lt_size e
 |ins C dx fs=>obtain⟨_,_,_,e,_⟩:=x;exact Heap.lt_size e
 |own y=>obtain⟨_,e⟩:=x;exact Heap.lt_size e
 |xd fs=>obtain⟨_,⟨_,_,_,e,_⟩,_⟩:=x;exact Heap.lt_size e
 |rng lo hi=>obtain⟨_,_,_,e⟩:=x;exact Heap.lt_size e
 |frz ob u=>obtain⟨e,_⟩:=x;exact Heap.lt_size e
 |tbl ps=>exact Heap.lt_size (show h.get? a=Ga _ from x)
 |met f y=>exact Heap.lt_size (show h.get? a=Ga _ from x)
 |ext φ=>obtain⟨_,⟨_,e⟩,_⟩:=x;exact Heap.lt_size e
theorem Paired.Ya{α β:Type}{F G:α->β->Prop}:∀{c:List α}{l₂:List β},Paired F c l₂->(∀a b,F a b->G a b)->Paired G c l₂
 |_,_,.nil,_=>.nil
 |_,_,.cons r t,f=>.cons (f _ _ r) (Paired.Ya t f)
theorem Z3.Qkm(x:Z3 P w H h a o)(k:∀b u,(b=a\/H b=Ga (.own a))->h.get? b=Ga u->h'.get? b=Ga u)
  (i:∀b,H b=Ga (.own a)->H' b=Ga (.own a))(j:∀b xs,H b=Ga (.tup xs)->H' b=Ga (.tup xs)):Z3 P w H' h' a o:=by
 induction o with
 |lst xs=>obtain⟨z,its,n,r,e⟩:=x;exact⟨z,its,n,r,k _ _ (.inl Xb) e⟩
 |tup xs=>obtain⟨z,its,r,ob,e,c⟩:=x;exact⟨z,its,r,ob,k _ _ (.inl Xb) e,c⟩
 |dK zw=>obtain⟨z,y,vs,r,ob,es,ep,e,c⟩:=x;exact⟨z,y,vs,r,ob,es,ep,k _ _ (.inl Xb) e,c⟩
 |dT zw=>obtain⟨z,y,xs,r,ob,es,ep,e,c⟩:=x;exact⟨z,y,xs,Paired.Ya r λp q z=>⟨z.1,j _ _ z.2.1,z.2.2⟩,ob,es,ep,k _ _ (.inl Xb) e,c⟩
 |set S n=>obtain⟨ob,es,ep,t,e,c⟩:=x;exact⟨ob,es,ep,t,k _ _ (.inl Xb) e,c⟩
 |ins C dx fs=>obtain⟨d,z,ne,e,mA,⟨od,es,ep,g,c⟩,r⟩:=x;exact⟨i _ d,z,ne,k _ _ (.inl Xb) e,mA,⟨od,es,ep,k _ _ (.inr d) g,c⟩,r⟩
 |own y=>obtain⟨ob,e⟩:=x;exact⟨ob,k _ _ (.inl Xb) e⟩
 |xd fs=>obtain⟨mA,⟨od,es,ep,e,c⟩,r⟩:=x;exact⟨mA,⟨od,es,ep,k _ _ (.inl Xb) e,c⟩,r⟩
 |rng lo hi=>obtain⟨t,u,v,e⟩:=x;exact⟨t,u,v,k _ _ (.inl Xb) e⟩
 |frz ob u l=>obtain⟨e,q⟩:=x;exact⟨k _ _ (.inl Xb) e,l q⟩
 |tbl ps=>have e:h.get? a=Ga {cls:=.none,data:=.fields ps}:=x;show h'.get? a=Ga {cls:=.none,data:=.fields ps};exact k a _ (.inl Xb) e
 |met f y=>have e:h.get? a=Ga (Sr (.ref f) (.ref y)):=x;show h'.get? a=Ga (Sr (.ref f) (.ref y));exact k a _ (.inl Xb) e
 |ext φ=>obtain⟨p,⟨o,e⟩,st⟩:=x;exact⟨st _ _ p λo q=>k _ _ (.inl Xb) q,⟨o,k _ _ (.inl Xb) e⟩,st⟩
theorem Re.lt(x:Re P w H h)(e:H a=Ga o):a<h.objs.size:=(x a o e).lt
theorem Re.fresh(x:Re P w H h)(e:h.objs.size<=a):H a=Gh:=by
 cases q:H a with
 |none=>rfl
 |some u=>exact absurd (Tc (x.lt q) e) (Du _)
theorem Re.kept(x:Re P w H h)(k:∀b u,h.get? b=Ga u->h'.get? b=Ga u):Re P w H h':=λa o e=>(x a o e).Qkm (λb u _ q=>k b u q) (λ_ q=>q) λ_ _ q=>q
theorem Re.laid(x:Re P w H h)(k:∀b u,h.get? b=Ga u->h'.get? b=Ga u)(f:h.objs.size<=a)(new:Z3 P w (zj H a o) h' a o):Re P w (zj H a o) h':=λb u e=>by
 have d:=x.fresh f;by_cases hb:b=a
 ·subst hb;rw[Qb]at e;cases e;exact new
 ·rw[Qf hb]at e;exact(x b u e).Qkm (λc v _ q=>k c v q) (λc q=>by rw[Qf (Qc q d)];exact q) λc xs q=>by rw[Qf (Qc q d)];exact q
end
def Rd(H:Hp)(a:Gc)(u:HO):Prop:=H a=Ga u\/∃o,H a=Ga (.frz o u)
theorem Rd.ok{h:Heap}{u:HO}(r:Rd H a u)(x:Re P w H h):Z3 P w H h a u:=by
 rcases r with r|⟨o,r⟩
 ·exact x a u r
 ·obtain⟨_,q⟩:=x a _ r;exact q
def Mut:Option HO->Prop
 |some (.lst _)=>True
 |some (.dK _)=>True
 |some (.dT _)=>True
 |some (.set _ _)=>True
 |some (.ins _ _ _)=>True
 |some (.ext _)=>True
 |_=>False
section
variable{P:Gg}{w:Gs}{H:Hp}{h h':Heap}{x e:Gc}{o':HO}
theorem Re.write(ok:Re P w H h)(mu:Mut (H x))(i:e=x\/H e=Ga (.own x))(k:∀b u,b≠e->h.get? b=Ga u->h'.get? b=Ga u)(g:∃u,h'.get? e=Ga u)
  (new:Z3 P w (zj H x o') h' x o'):Re P w (zj H x o') h':=λb u q=>by
 have d:∀c y,H c=Ga (.own y)->c≠x:=λc y r z=>by subst z;rw[r]at mu;exact mu
 have f:∀c xs,H c=Ga (.tup xs)->c≠x:=λc xs r z=>by subst z;rw[r]at mu;exact mu
 by_cases hb:b=x
 ·subst hb;rw[Qb]at q;cases q;exact new
 ·rw[Qf hb]at q;by_cases a:b=e
  ·have j:H b=Ga (.own x):=by
    rcases i with z|z
    ·exact absurd (a.trans z) hb
    ·rw[a];exact z
   rw[q]at j;cases j;obtain⟨v,l⟩:=g;exact⟨v,by rw[a];exact l⟩
  ·refine(ok b u q).Qkm (λc v hc r=>k c v ?_ r) (λc r=>by rw[Qf (d c b r)];exact r) λc xs r=>by rw[Qf (f c xs r)];exact r
   rcases hc with rfl|hc
   ·exact a
   ·rintro rfl;rcases i with z|z
    ·exact d c b hc z
    ·rw[hc]at z;cases z;exact hb rfl
end
structure Un(fs ex:List Gc)(H H':Hp)(h h':Heap):Prop where
 keep:∀b o,h.get? b=Ga o->H b=Gh->b∉fs->b∉ex->h'.get? b=Ga o
 slot:∀b o,h.get? b=Ga o->H b=Gh->b∈fs->b∉ex->∃sl,h'.get? b=Ga {o with slots:=sl}
 free:∀b o,h.get? b=Ga o->H b=Gh->b∉ex->H' b=Gh
 there:∀b o,h.get? b=Ga o->b∉ex->∃o',h'.get? b=Ga o'
 Qm:∀b xs,H b=Ga (.tup xs)->H' b=Ga (.tup xs)
 R8:∀b o u,H b=Ga (.frz o u)->H' b=Ga (.frz o u)
 Qbt:∀b ps,H b=Ga (.tbl ps)->∃more,H' b=Ga (.tbl (ps++more))
section
variable{fs fs' ex ex':List Gc}{H H1 H2:Hp}{h h1 h2 h':Heap}{a x e:Gc}{o:HO}
theorem Un.any(u:Un fs ex H H1 h h1){ob:Eg}(q:h.get? b=Ga ob)(n:H b=Gh)(a:b∉ex):∃sl,h1.get? b=Ga {ob with slots:=sl}:=by
 by_cases hb:b∈fs
 ·exact u.slot b ob q n hb a
 ·exact⟨ob.slots,u.keep b ob q n hb a⟩
theorem Un.trans(a:Un fs ex H H1 h h1)(b:Un fs ex H1 H2 h1 h2):Un fs ex H H2 h h2 where
 keep:=λc ob q n hc d=>b.keep c ob (a.keep c ob q n hc d) (a.free c ob q n d) hc d
 slot:=λc ob q n hc d=>by obtain⟨sl,e⟩:=a.slot c ob q n hc d;obtain⟨g,f⟩:=b.slot c _ e (a.free c ob q n d) hc d;exact⟨g,f⟩
 free:=λc ob q n d=>by obtain⟨o',e⟩:=a.there c ob q d;exact b.free c o' e (a.free c ob q n d) d
 there:=λc ob q d=>by obtain⟨o',e⟩:=a.there c ob q d;exact b.there c o' e d
 Qm:=λc xs q=>b.Qm c xs (a.Qm c xs q)
 R8:=λc ob xs q=>b.R8 c ob xs (a.R8 c ob xs q)
 Qbt:=λc ps q=>by obtain⟨i,e⟩:=a.Qbt c ps q;obtain⟨j,f⟩:=b.Qbt c _ e;exact⟨i++j,by rw[f,LG]⟩
theorem Un.kept(k:∀b u,h.get? b=Ga u->h'.get? b=Ga u):Un fs ex H H h h':=
 ⟨λb ob q _ _ _=>k b ob q,λb ob q _ _ _=>⟨ob.slots,k b ob q⟩,λ_ _ _ n _=>n,λb ob q _=>⟨ob,k b ob q⟩,λ_ _ q=>q,λ_ _ _ q=>q,λ_ ps q=>⟨#[],by rw[q];simp⟩⟩
theorem Un.refl:Un fs ex H H h h:=Un.kept λ_ _ q=>q
theorem Un.laid(k:∀b u,h.get? b=Ga u->h'.get? b=Ga u)(d:h.objs.size<=a)(c:H a=Gh):Un fs ex H (zj H a o) h h' where
 keep:=λb u q _ _ _=>k b u q
 slot:=λb u q _ _ _=>⟨u.slots,k b u q⟩
 free:=λb u q n _=>by rw[Qf (Td (Tc (Heap.lt_size q) d))];exact n
 there:=λb u q _=>⟨u,k b u q⟩
 Qm:=λb xs q=>by rw[Qf (Qc q c)];exact q
 R8:=λb u xs q=>by rw[Qf (Qc q c)];exact q
 Qbt:=λb ps q=>⟨#[],by rw[Qf (Qc q c),q];simp⟩
theorem Un.write(mu:Mut (H x))(g:e=x\/H e=Ga (.own x))(k:∀b u,b≠e->h.get? b=Ga u->h'.get? b=Ga u)(c:∃u,h'.get? e=Ga u):Un fs ex H (zj H x o) h h':=by
 have f:∀b,H b=Gh->b≠x:=λb n z=>by subst z;rw[n]at mu;exact mu
 have hb:∀b,H b=Gh->b≠e:=λb n z=>by
  subst z;rcases g with r|r
  ·exact f b n r
  ·rw[n]at r;cases r
 have d:∀b u,H b=Ga u->¬Mut (Ga u)->b≠x:=λb u q i z=>by subst z;rw[q]at mu;exact i mu
 refine⟨λb u q n _ _=>k b u (hb b n) q,λb u q n _ _=>⟨u.slots,k b u (hb b n) q⟩,λb u q n _=>by rw[Qf (f b n)];exact n,λb u q _=>?_,
  λb xs q=>by rw[Qf (d b _ q λz=>z)];exact q,λb u xs q=>by rw[Qf (d b _ q λz=>z)];exact q,λb ps q=>⟨#[],by rw[Qf (d b _ q λz=>z),q];simp⟩⟩
 by_cases a:b=e
 ·subst a;exact c
 ·exact⟨u,k b u a q⟩
end
def trk(h:Heap)(H:Hp):List Gc:=(List.range h.objs.size).filter λa=>(H a).isSome
def Qhm(h:Heap)(H:Hp):Heap:=RY h (trk h H)
theorem Qoz(h:Heap)(H:Hp):(Qhm h H).objs.size=h.objs.size:=No _ _
theorem Qso{h:Heap}(e:h.get? b=Ga o)(n:H b=Gh):(Qhm h H).get? b=Ga o:=
 NF _ e λa=>by have q:(H b).isSome=Gf:=(List.mem_filter.mp a).2;rw[n]at q;simp at q
theorem Qvu{h:Heap}(e:(Qhm h H).get? b=Ga o):h.get? b=Ga o/\H b=Gh:=by
 have a:h.get? b=Ga o:=NN (trk h H) e;refine⟨a,?_⟩;cases q:H b with
 |none=>rfl
 |some x=>have c:b∈trk h H:=List.mem_filter.mpr ⟨List.mem_range.mpr (Heap.lt_size a),by simp[q]⟩;have z:(Qhm h H).get? b=Gh:=Np (trk h H) c;rw[z]at e;cases e
def Qxs(g h:Heap)(L:Gc):List (Gc×Eg):=(List.range h.objs.size).filterMap λa=>if a=L\/(g.get? a).isSome=Gf then Gh else(h.get? a).map λo=>(a,o)
def X6(g h:Heap)(L d:Gc):List (Gc×Eg):=(Qxs g h L).filter λp=>decide (p.1≠d)
structure Mod(K:Gd)(mg:Ta->Option Value)(base:Heap):Prop where
 kin:K.In base
 glob:base.Ns T5 mg
 blt:∃mb,base.Ns builtinsNs mb/\∀x:Ta,x≠"__name__"->mb x=bootBuiltins x
 nolimit:base.NoLimit
structure Cx where
 prog:Gg
 w:Gs
 K:Gd
 mg:Ta->Option Value
 base:Heap
 A:TL
 N:List Ta
 s₀:Gk
 H₀:Hp
 env:LR
 outer:List LR
 stack:List LR
 ex:List Gc
 fn:Ta->Bool
 calm:Bool
 pn:List (Gc×Eg)
 xe:Value->Gk->Prop
variable{X:Cx}
def frs(l:List LR):List Gc:=l.filterMap (·.frame)
abbrev Cx.fs(X:Cx):List Gc:=frs X.outer
def Vis(a:SH)(x:Ta):Prop:=a.names.lookup x=Ga .local\/a.names.lookup x=Ga .cell\/a.names.lookup x=Ga .free
def Loc(a:SH)(x:Ta):Prop:=a.names.lookup x=Ga .local\/a.names.lookup x=Ga .cell
def Look(env:LR)(h:Heap)(m:Ta->Option Value)(x:Ta)(u:Value):Prop:=
 (env.kindOf x=Ga .local/\m x=Ga u)\/((env.kindOf x=Ga .cell\/env.kindOf x=Ga .free)/\∃c,env.cells.lookup x=Ga c/\h.IsCell c (Ga u))
structure Cx.Ok(X:Cx):Prop where
 mod:Mod X.K X.mg X.base
 kind:X.env.scope.kind=.function
 glob:X.env.globals=T5
 blt:X.env.builtins=builtinsNs
 above:X.s₀.heap.objs.size<=X.env.locals
 inj:∀x y c,X.env.cells.lookup x=Ga c->X.env.cells.lookup y=Ga c->x=y
 has:∀x,(X.env.kindOf x=Ga .cell\/X.env.kindOf x=Ga .free)->∃c,X.env.cells.lookup x=Ga c
 cab:∀x c,X.fn x=Gf->X.env.cells.lookup x=Ga c->X.s₀.heap.objs.size<=c
 hd:X.calm=Gf->X.A.handled=Gh
 frames:X.A.frames=Ga X.stack
 stk:X.stack=X.outer\/(X.stack=X.env::X.outer/\X.env.frame=Ga X.env.locals)
 exf:∀b∈X.ex,b≠X.env.locals/\∀x c,X.env.cells.lookup x=Ga c->c≠b
 bs:∀b o,X.base.get? b=Ga o->X.s₀.heap.get? b=Ga o/\X.H₀ b=Gh
 bsz:X.base.objs.size<=X.s₀.heap.objs.size
 Qsz:∀b o,X.base.get? b=Ga o->b∉X.ex
 Qwl:∀b∈X.ex,b∉X.fs
 Qbu:X.s₀.heap.FunFrames X.base X.outer
 frf:∀b∈X.fs,X.H₀ b=Gh
structure Inv(X:Cx)(zq:List (Gc×Eg))(σ:List (Option V))(H:Hp)(s:Gk):Prop where
 ok:X.Ok
 os:s.os=X.s₀.os
 bare:Ss s.gens
 base:Un X.fs X.ex X.H₀ H X.s₀.heap s.heap
 loc:∃m,s.heap.Ns X.env.locals m/\∀(i:Nat)(x:Ta)(v:V),X.N[i]?=Ga x->σ[i]?=Ga (Ga v)->Vis X.env.scope x->∃u,RelV v u/\Look X.env s.heap m x u
 cell:∀x c,X.env.cells.lookup x=Ga c->∃v,s.heap.IsCell c v
 free:H X.env.locals=Gh
 Jn:∀x c,X.env.cells.lookup x=Ga c->H c=Gh
 pin:∀p∈X.pn++zq,s.heap.get? p.1=Ga p.2/\H p.1=Gh/\p.1≠X.env.locals/\p.1∉X.fs/\∀v,p.2.data≠.cell v
 Zw:Re X.prog X.w H s.heap
 len:σ.length=X.N.length
section
variable{X:Cx}{zq:List (Gc×Eg)}{σ:List (Option V)}{H H':Hp}{s:Gk}{h':Heap}
theorem Cx.Ok.Q4p(ok:X.Ok)(e:X.base.get? b=Ga o):b∉X.fs:=λhb=>by have:=(ok.Qbu.mem hb).1;rw[e]at this;cases this
theorem Inv.bs(I:Inv X zq σ H s):∀b o,X.base.get? b=Ga o->s.heap.get? b=Ga o/\H b=Gh:=λb o e=>⟨I.base.keep b o (I.ok.bs b o e).1 (I.ok.bs b o e).2 (I.ok.Q4p e) (I.ok.Qsz b o e),I.base.free b o (I.ok.bs b o e).1 (I.ok.bs b o e).2 (I.ok.Qsz b o e)⟩
theorem Inv.bk(I:Inv X zq σ H s):∀b o,X.base.get? b=Ga o->s.heap.get? b=Ga o:=λb o e=>(I.bs b o e).1
theorem Inv.mod(I:Inv X zq σ H s):Mod X.K X.mg X.base:=I.ok.mod
theorem Inv.Jt(I:Inv X zq σ H s):X.K.In s.heap:=I.ok.mod.kin.keeps I.bk
theorem Inv.lt(I:Inv X zq σ H s):X.env.locals<s.heap.objs.size:=let⟨_,hn,_⟩:=I.loc;hn.lt
theorem Inv.sz(I:Inv X zq σ H s):X.s₀.heap.objs.size<=s.heap.objs.size:=Tt I.ok.above (E9 I.lt)
theorem Inv.Q5d(I:Inv X zq σ H s)(h:s.heap.objs.size<=a):a∉X.fs:=λhb=>by obtain⟨_,o,b,_⟩:=I.ok.Qbu.mem hb;exact absurd (Tc (Heap.lt_size b) (Tt I.sz h)) (Du _)
theorem Inv.cne(I:Inv X zq σ H s):∀x c,X.env.cells.lookup x=Ga c->c≠X.env.locals:=λx c e z=>by obtain⟨v,o,d,hd⟩:=I.cell x c e;obtain⟨m,⟨o',es,ep,b,a,_⟩,_⟩:=I.loc;rw[z,b]at d;cases d;rw[a]at hd;cases hd
theorem Inv.Qbu(I:Inv X zq σ H s):s.heap.FunFrames X.base X.outer:=by
 have all:∀(l:List LR),(∀b∈frs l,b∈X.fs)->X.s₀.heap.FunFrames X.base l->s.heap.FunFrames X.base l:=by
  intro l;induction l with
  |nil=>intro _ _;trivial
  |cons env r j=>intro d hl;obtain⟨f,⟨L,o,c,g,h,hd⟩,i⟩:=hl;have a:L∈X.fs:=d L (by unfold frs;rw[List.filterMap_cons,c];exact List.mem_cons_self);obtain⟨sl,e⟩:=I.base.slot L o h (I.ok.frf L a) a λz=>I.ok.Qwl L z a;exact⟨f,⟨L,_,c,g,e,hd⟩,j (λb hb=>d b (by unfold frs;rw[List.filterMap_cons,c];exact List.mem_cons_of_mem _ hb)) i⟩
 exact all X.outer (λ_ hb=>hb) I.ok.Qbu
theorem Inv.stack(I:Inv X zq σ H s):s.heap.FunFrames X.base X.stack:=by
 rcases I.ok.stk with e|⟨e,a⟩
 ·rw[e];exact I.Qbu
 ·rw[e];obtain⟨m,b,_⟩:=I.loc;refine .cons (by rw[I.ok.kind];decide) a b ?_ I.Qbu;exact Heap.get?_none_of_le (Tt I.ok.bsz I.ok.above)
theorem Inv.Qgn(I:Inv X zq σ H s):∀b∈frs X.stack,b∈X.env.locals::X.fs:=λb hb=>by
 rcases I.ok.stk with e|⟨e,a⟩
 ·rw[e]at hb;exact List.mem_cons_of_mem _ hb
 ·rw[e]at hb;unfold frs at hb;rw[List.filterMap_cons,a]at hb;exact hb
theorem Inv.Qn7(I:Inv X zq σ H s):∀b∈frs X.stack,H b=Gh:=λb hb=>by
 rcases List.mem_cons.mp (I.Qgn b hb)with e|hb
 ·rw[e];exact I.free
 ·obtain⟨_,o,a,_⟩:=I.ok.Qbu.mem hb;exact I.base.free b o a (I.ok.frf b hb) λz=>I.ok.Qwl b z hb
theorem Inv.step{g':Array GenState}{t':Nat}{d':Drawn}{ch:List Gc}(I:Inv X zq σ H s)
  (g:∀b∈ch,(b∈X.ex\/X.s₀.heap.objs.size<=b)/\b≠X.env.locals/\(∀x c,X.env.cells.lookup x=Ga c->c≠b)/\∀p∈X.pn++zq,p.1≠b)
  (keep:∀b o,b≠X.env.locals->b∉X.fs->b∉ch->s.heap.get? b=Ga o->H b=Gh->h'.get? b=Ga o)
  (slot:∀b o,b≠X.env.locals->b∈X.fs->b∉ch->s.heap.get? b=Ga o->H b=Gh->∃sl,h'.get? b=Ga {o with slots:=sl})(free:∀b o,b∉ch->s.heap.get? b=Ga o->H b=Gh->H' b=Gh)
  (there:∀b o,b∉ch->s.heap.get? b=Ga o->∃o',h'.get? b=Ga o')
  (Qm:∀b xs,H b=Ga (.tup xs)->H' b=Ga (.tup xs))(R8:∀b o u,H b=Ga (.frz o u)->H' b=Ga (.frz o u))(Qbt:∀b ps,H b=Ga (.tbl ps)->∃more,H' b=Ga (.tbl (ps++more)))
  (ns:∀m,s.heap.Ns X.env.locals m->h'.Ns X.env.locals m)(Zw:Re X.prog X.w H' h')(G:Ss g'):
  Inv X zq σ H' {s with heap:=h',gens:=g',drawn:=d',toks:=t'}:=by
 have B:∀b o,X.s₀.heap.get? b=Ga o->b≠X.env.locals:=λb o e=>Td (Tc (Heap.lt_size e) I.ok.above);have t:∀b o,X.s₀.heap.get? b=Ga o->b∉X.ex->b∉ch:=λb o e a hb=>by
  rcases(g b hb).1 with z|z
  ·exact a z
  ·exact absurd (Tc (Heap.lt_size e) z) (Du _)
 have f:∀x c,X.env.cells.lookup x=Ga c->∀v,s.heap.IsCell c v->h'.IsCell c v:=λx c e v⟨o,y,hd⟩=>by
  have h:c∉ch:=λz=>(g c z).2.2.1 x c e rfl;by_cases hc:c∈X.fs
  ·obtain⟨sl,q⟩:=slot c o (I.cne x c e) hc h y (I.Jn x c e);exact⟨_,q,hd⟩
  ·exact⟨o,keep c o (I.cne x c e) hc h y (I.Jn x c e),hd⟩
 refine⟨I.ok,I.os,G,⟨λb o e n hb a=>?_,λb o e n hb a=>?_,λb o e n a=>?_,λb o e a=>?_,λb xs e=>Qm b xs (I.base.Qm b xs e),λb o xs e=>R8 b o xs (I.base.R8 b o xs e),λb ps e=>?_⟩,?_,λx c e=>?_,?_,λx c e=>?_,λp D=>?_,Zw,I.len⟩
 ·exact keep b o (B b o e) hb (t b o e a) (I.base.keep b o e n hb a) (I.base.free b o e n a)
 ·obtain⟨sl,j⟩:=I.base.slot b o e n hb a;obtain⟨C,A⟩:=slot b _ (B b o e) hb (t b o e a) j (I.base.free b o e n a);exact⟨C,A⟩
 ·obtain⟨o',j⟩:=I.base.there b o e a;exact free b o' (t b o e a) j (I.base.free b o e n a)
 ·obtain⟨o',j⟩:=I.base.there b o e a;exact there b o' (t b o e a) j
 ·obtain⟨K,j⟩:=I.base.Qbt b ps e;obtain⟨L,A⟩:=Qbt b _ j;exact⟨K++L,by rw[A,LG]⟩
 ·obtain⟨m,J,hl⟩:=I.loc;refine⟨m,ns m J,λi x v j A F=>?_⟩;obtain⟨u,r,l⟩:=hl i x v j A F;refine⟨u,r,?_⟩;rcases l with l|⟨k,c,e,z⟩
  ·exact .inl l
  ·exact .inr ⟨k,c,e,f x c e _ z⟩
 ·obtain⟨v,z⟩:=I.cell x c e;exact⟨v,f x c e v z⟩
 ·obtain⟨m,⟨o,_,_,y,_⟩,_⟩:=I.loc;exact free _ o (λz=>(g _ z).2.1 Xb) y I.free
 ·obtain⟨v,o,y,hd⟩:=I.cell x c e;exact free c o (λz=>(g c z).2.2.1 x c e Xb) y (I.Jn x c e)
 ·obtain⟨e,n,ne,E,d⟩:=I.pin p D;have h:p.1∉ch:=λz=>(g p.1 z).2.2.2 p D rfl;exact⟨keep p.1 p.2 ne E h e n,free p.1 p.2 h e n,ne,E,d⟩
theorem Inv.un(I:Inv X zq σ H s)(u:Un X.fs [] H H' s.heap h')(Zw:Re X.prog X.w H' h'):Inv X zq σ H' {s with heap:=h',toks:=t'}:=by obtain⟨m,⟨o,es,ep,f,r⟩,_⟩:=id I.loc;obtain⟨sl,g⟩:=u.any f I.free (by simp);exact I.step (g':=s.gens) (d':=s.drawn) (ch:=[]) (λ_ z=>nomatch z) (λb o _ hb _ e n=>u.keep b o e n hb (by simp)) (λb o _ hb _ e n=>u.slot b o e n hb (by simp)) (λb o _ e n=>u.free b o e n (by simp)) (λb o _ e=>u.there b o e (by simp)) u.Qm u.R8 u.Qbt (λj h=>by obtain⟨o',d,c,a,i⟩:=h;rw[f]at a;cases a;exact⟨_,d,c,g,i⟩) Zw I.bare
theorem Inv.call{g':Array GenState}{d':Drawn}{ch:List Gc}(I:Inv X zq σ H s)(u:Un (frs X.stack) ch H H' s.heap h')(Zw:Re X.prog X.w H' h')(j:Ss g')
  (a:∀b∈ch,(b∈X.ex\/X.s₀.heap.objs.size<=b)/\b≠X.env.locals/\(∀x c,X.env.cells.lookup x=Ga c->c≠b)/\∀p∈X.pn++zq,p.1≠b):
  Inv X zq σ H' {s with heap:=h',gens:=g',drawn:=d',toks:=t'}:=by
 obtain⟨m,⟨o,es,ep,i,r⟩,_⟩:=id I.loc;obtain⟨sl,h⟩:=u.any i I.free λz=>(a _ z).2.1 rfl;exact I.step (ch:=ch) a (λb o h hb hc e n=>u.keep b o e n (λz=>(List.mem_cons.mp (I.Qgn b z)).elim h hb) hc) (λb o _ _ hc e n=>u.any e n hc) (λb o hc e n=>u.free b o e n hc) (λb o hc e=>u.there b o e hc) u.Qm u.R8 u.Qbt (λq k=>by obtain⟨o',g,f,d,l⟩:=k;rw[i]at d;cases d;exact⟨_,g,f,h,l⟩) Zw j
theorem Inv.turned{it:Gc}(I:Inv X zq σ H s)(k:∀b o,b≠it->s.heap.get? b=Ga o->h'.get? b=Ga o)(h:H it=Gh)(d:it≠X.env.locals)
  (h1:it∈X.ex\/X.s₀.heap.objs.size<=it)(h2:∀x c,X.env.cells.lookup x=Ga c->c≠it)(f:∀p∈X.pn++zq,p.1≠it):Inv X zq σ H {s with heap:=h',toks:=t'}:=by
 have a:∀b u,H b=Ga u->b≠it:=λb u e z=>by rw[z,h]at e;cases e
 refine I.step (g':=s.gens) (d':=s.drawn) (ch:=[it]) (λb hb=>?_) (λb o _ _ hc e _=>k b o (λz=>hc (by simp[z])) e) (λb o _ _ hc e _=>⟨o.slots,k b o (λz=>hc (by simp[z])) e⟩) (λ_ _ _ _ n=>n)
  (λb o hc e=>⟨o,k b o (λz=>hc (by simp[z])) e⟩) (λ_ _ e=>e) (λ_ _ _ e=>e) (λb ps e=>⟨#[],by rw[e];simp⟩) (λm g=>?_) (λb u e=>?_) I.bare
 ·have e:b=it:=by simpa using hb
  subst e;exact⟨h1,d,h2,f⟩
 ·obtain⟨o,es,ep,i,r⟩:=g;exact⟨o,es,ep,k _ o (Gp d) i,r⟩
 ·refine(I.Zw b u e).Qkm (λc v hc q=>k c v ?_ q) (λ_ q=>q) λ_ _ q=>q;rcases hc with z|z
  ·rw[z];exact a b u e
  ·exact a c _ z
theorem Inv.tok(I:Inv X zq σ H s)(t:Nat):Inv X zq σ H {s with toks:=t}:=I.un (h':=s.heap) (t':=t) Un.refl I.Zw
theorem Inv.kept{t':Nat}(I:Inv X zq σ H s)(k:∀b u,s.heap.get? b=Ga u->h'.get? b=Ga u):Inv X zq σ H {s with heap:=h',toks:=t'}:=I.un (Un.kept k) (I.Zw.kept k)
theorem Inv.laid{a:Gc}{o:HO}{t':Nat}(I:Inv X zq σ H s)(k:∀b u,s.heap.get? b=Ga u->h'.get? b=Ga u)(c:s.heap.objs.size<=a)(new:Z3 X.prog X.w (zj H a o) h' a o):
  Inv X zq σ (zj H a o) {s with heap:=h',toks:=t'}:=I.un (Un.laid k c (I.Zw.fresh c)) (I.Zw.laid k c new)
theorem Inv.write{x e:Gc}{o:HO}{t':Nat}(I:Inv X zq σ H s)(mu:Mut (H x))(c:e=x\/H e=Ga (.own x))(k:∀b u,b≠e->s.heap.get? b=Ga u->h'.get? b=Ga u)(a:∃u,h'.get? e=Ga u)
  (new:Z3 X.prog X.w (zj H x o) h' x o):Inv X zq σ (zj H x o) {s with heap:=h',toks:=t'}:=I.un (Un.write mu c k a) (I.Zw.write mu c k a new)
theorem Inv.Qoo{a:List (Gc×Eg)}(I:Inv X zq σ H s)(h:∀p∈a,s.heap.get? p.1=Ga p.2/\H p.1=Gh/\p.1≠X.env.locals/\p.1∉X.fs/\∀v,p.2.data≠.cell v):Inv X a σ H s:=
 ⟨I.ok,I.os,I.bare,I.base,I.loc,I.cell,I.free,I.Jn,λp b=>(List.mem_append.mp b).elim (λz=>I.pin p (List.mem_append_left _ z)) (h p),I.Zw,I.len⟩
theorem Qj1(e:N.Nodup){j:Nat}(a:N[i]?=Ga x)(b:N[j]?=Ga x):i=j:=by obtain⟨h1,c⟩:=List.getElem?_eq_some_iff.mp a;obtain⟨h2,d⟩:=List.getElem?_eq_some_iff.mp b;exact(List.getElem_inj e).mp (c.trans d.symm)
theorem Qfj{Q:Unit->Gk->Prop}(I:Inv X zq σ H s)(hN:X.N.Nodup)(hi:X.N[i]?=Ga x)(t:Loc X.env.scope x)(r:RelV v u)
  (h:∀s',Inv X zq (σ.set i (Ga v)) H s'->(∃a,Heap.SameBut a s.heap s'.heap/\(a=X.env.locals\/X.env.cells.lookup x=Ga a))->Q () s')(hf:X.fn x=Gf\/X.env.scope.names.lookup x=Ga .local:=by first|exact .inl rfl|exact .inr rfl|assumption):wpAny M A (storeName X.env x u) Q E s:=by
 obtain⟨m,V,hl⟩:=id I.loc;have O:(X.env.scope.kind==.class||(X.env.scope.kind==.module&&X.env.locals !=X.env.globals))=Gq:=by rw[I.ok.kind];rfl
 have D:i<σ.length:=by rw[I.len];exact(List.getElem?_eq_some_iff.mp hi).1
 have cne:=I.cne;have l:∀{a:Gc}{h':Heap},(∃o,s.heap.get? a=Ga o/\H a=Gh)->Heap.SameBut a s.heap h'->Re X.prog X.w H h':=λ{a h'}ha f b ob e=>by
  obtain⟨_,_,B⟩:=ha;refine(I.Zw b ob e).Qkm (λc T hc q=>(f.2 c ?_).trans q) (λ_ q=>q) λ_ _ q=>q;rintro rfl;rcases hc with rfl|hc
  ·rw[B]at e;cases e
  ·rw[B]at hc;cases hc
 rcases t with F|F
 ·refine wpAny_storeName_local F V (λh' W f=>?_) O;obtain⟨oL,_,_,Y,_⟩:=id V;refine h _ ⟨I.ok,I.os,I.bare,⟨λb o e n hb t=>?_,λb o e n hb t=>?_,I.base.free,λb o e t=>?_,I.base.Qm,I.base.R8,I.base.Qbt⟩,⟨_,W,λj y v' g C U=>?_⟩,λy c e=>?_,I.free,I.Jn,λp Z=>?_,l ⟨oL,Y,I.free⟩ f,by simpa using I.len⟩ ⟨_,f,.inl Xb⟩
  ·exact(f.2 b (Td (Tc (Heap.lt_size e) I.ok.above))).trans (I.base.keep b o e n hb t)
  ·obtain⟨sl,g⟩:=I.base.slot b o e n hb t;exact⟨sl,(f.2 b (Td (Tc (Heap.lt_size e) I.ok.above))).trans g⟩
  ·obtain⟨o',g⟩:=I.base.there b o e t;exact⟨o',(f.2 b (Td (Tc (Heap.lt_size e) I.ok.above))).trans g⟩
  ·by_cases J:j=i
   ·subst J;rw[hi]at g;cases g;rw[List.getElem?_set_self D]at C;cases C;exact⟨u,r,.inl ⟨F,by simp⟩⟩
   ·rw[List.getElem?_set_ne (Gp J)]at C;obtain⟨u',r',q⟩:=hl j y v' g C U;refine⟨u',r',?_⟩;rcases q with⟨k,e⟩|⟨k,c,e,z⟩
    ·refine .inl ⟨k,?_⟩;have:y≠x:=λe=>J (Qj1 hN g (e▸hi));simp[this,e]
    ·exact .inr ⟨k,c,e,z.sameBut f (cne y c e)⟩
  ·obtain⟨T,z⟩:=I.cell y c e;exact⟨T,z.sameBut f (cne y c e)⟩
  ·obtain⟨e,n,ne,nf,d⟩:=I.pin p Z;exact⟨(f.2 p.1 ne).trans e,n,ne,nf,d⟩
 ·have G:X.fn x=Gf:=by
   rcases hf with z|z
   ·exact z
   ·rw[z]at F;cases F
  obtain⟨c,hc⟩:=I.ok.has x (.inl F);obtain⟨T,z⟩:=I.cell x c hc;refine wpAny_storeName_cell I.ok.kind F hc z (λh' K f=>?_);obtain⟨oc,P,R⟩:=id z;refine h {s with heap:=h'} ⟨I.ok,I.os,I.bare,⟨λb o e n hb t=>?_,λb o e n hb t=>?_,I.base.free,λb o e t=>?_,I.base.Qm,I.base.R8,I.base.Qbt⟩,⟨m,V.sameBut f (Gp (cne x c hc)),λj y v' g C U=>?_⟩,λy S e=>?_,I.free,I.Jn,λp Z=>?_,l ⟨oc,P,I.Jn x c hc⟩ f,by simpa using I.len⟩ ⟨c,f,.inr hc⟩
  ·exact(f.2 b (Td (Tc (Heap.lt_size e) (I.ok.cab x c G hc)))).trans (I.base.keep b o e n hb t)
  ·obtain⟨sl,g⟩:=I.base.slot b o e n hb t;exact⟨sl,(f.2 b (Td (Tc (Heap.lt_size e) (I.ok.cab x c G hc)))).trans g⟩
  ·obtain⟨o',g⟩:=I.base.there b o e t;exact⟨o',(f.2 b (Td (Tc (Heap.lt_size e) (I.ok.cab x c G hc)))).trans g⟩
  ·by_cases J:j=i
   ·subst J;rw[hi]at g;cases g;rw[List.getElem?_set_self D]at C;cases C;exact⟨u,r,.inr ⟨.inl F,c,hc,K⟩⟩
   ·rw[List.getElem?_set_ne (Gp J)]at C;obtain⟨u',r',q⟩:=hl j y v' g C U;refine⟨u',r',?_⟩;rcases q with q|⟨k,S,e,z'⟩
    ·exact .inl q
    ·refine .inr ⟨k,S,e,z'.sameBut f ?_⟩;rintro rfl;exact J (Qj1 hN g (I.ok.inj _ _ _ e hc▸hi))
  ·by_cases L:S=c
   ·subst L;exact⟨_,K⟩
   ·obtain⟨w2,z2⟩:=I.cell y S e;exact⟨w2,z2.sameBut f L⟩
  ·obtain⟨e,n,ne,nf,d⟩:=I.pin p Z;refine⟨(f.2 p.1 ?_).trans e,n,ne,nf,d⟩;intro q;rw[q,P]at e;have q':oc=p.2:=Tj e;exact d T (by rw[<-q'];exact R)
theorem Qh7{Q:Unit->Gk->Prop}(I:Inv X zq σ H s)(b:X.N.Nodup)(hi:X.N[i]?=Ga x)(d:Loc X.env.scope x)(r:RelV v u)
  (h:∀s',Inv X zq (σ.set i (Ga v)) H s'->Q () s')(c:X.fn x=Gf\/X.env.scope.names.lookup x=Ga .local:=by first|exact .inl rfl|exact .inr rfl|assumption):wpAny M A (storeName X.env x u) Q E s:=
 Qfj I b hi d r (λs' a _=>h s' a) c
theorem Inv.Q13{s':Gk}{ch:List Gc}(I:Inv X zq σ H s)(f:s'.os=s.os)(u:Un (frs X.stack) ch H H' s.heap s'.heap)(Zw:Re X.prog X.w H' s'.heap)(d:Ss s'.gens)
  (a:∀b∈ch,(b∈X.ex\/X.s₀.heap.objs.size<=b)/\b≠X.env.locals/\(∀x c,X.env.cells.lookup x=Ga c->c≠b)/\∀p∈X.pn++zq,p.1≠b):Inv X zq σ H' s':=by
 obtain⟨h',g',d',t',o'⟩:=s';have e:o'=s.os:=f;subst e;exact I.call (g':=g') (t':=t') (d':=d') u Zw d a
end
abbrev XK:=Value->Option Gc->Hp->Prop
abbrev St:=List (Option V)
variable{σ:St}
abbrev VK:=V->Hp->Prop
abbrev TE:=St->Hp->VK->Prop
variable{t te:TE}
abbrev TT:=St->Hp->(Bool->Hp->Prop)->Prop
abbrev TA:=St->Hp->(List V->Hp->Prop)->Prop
structure Ends where
 nx:St->Hp->Prop
 rt:VK
 bk:St->Hp->Prop:=λ_ _=>False
 ct:St->Hp->Prop:=λ_ _=>False
variable{D:Ends}
abbrev TS:=Ends->St->Hp->Prop
variable{tb:TS}
inductive EP(X:Cx)(zq:List (Gc×Eg))(σ:St)(Q:VK)(u:Value)(s':Gk):Prop
 |mk (v:_) (H':_) (h0:Inv X zq σ H' s') (h1:RelV v u) (h2:Q v H'):EP X zq σ Q u s'
def TP(X:Cx)(zq:List (Gc×Eg))(σ:St)(Q:Bool->Hp->Prop)(b:Bool)(s':Gk):Prop:=∃H',Inv X zq σ H' s'/\Q b H'
inductive AP(X:Cx)(zq:List (Gc×Eg))(σ:St)(Q:List V->Hp->Prop)(us:List Value)(s':Gk):Prop
 |mk (vs:_) (H':_) (h0:Inv X zq σ H' s') (h1:Zv vs us) (h2:Q vs H'):AP X zq σ Q us s'
def SP(X:Cx)(zq:List (Gc×Eg))(D:Ends)(f:Flow)(s':Gk):Prop:=
 match f with
 |.next=>∃a H',Inv X zq a H' s'/\D.nx a H'
 |.brk=>∃a H',Inv X zq a H' s'/\D.bk a H'
 |.cont=>∃a H',Inv X zq a H' s'/\D.ct a H'
 |.ret u=>∃v a H',Inv X zq a H' s'/\RelV v u/\D.rt v H'
def PE(X:Cx)(e:T3)(t:TE):Prop:=
 ∀(zq:List (Gc×Eg))(s:Gk)(σ:St)(H:Hp)(Q:VK),Inv X zq σ H s->t σ H Q->wpAny (GY X.prog X.w) X.A (eval e X.env) (EP X zq σ Q) X.xe s
def PT(X:Cx)(e:T3)(t:TT):Prop:=
 ∀(zq:List (Gc×Eg))(s:Gk)(σ:St)(H:Hp)(Q:Bool->Hp->Prop),Inv X zq σ H s->t σ H Q->wpAny (GY X.prog X.w) X.A (isTrue e X.env (eval e X.env)) (TP X zq σ Q) X.xe s
def PW(X:Cx)(e:T3)(t:TT):Prop:=
 ∀(a:Bk Value)(zq:List (Gc×Eg))(s:Gk)(σ:St)(H:Hp)(Q:Bool->Hp->Prop),Inv X zq σ H s->t σ H Q->wpAny (GY X.prog X.w) X.A (isTrue e X.env a) (TP X zq σ Q) X.xe s
theorem PW.pt{t:TT}(h:PW X e t):PT X e t:=h _
def PA(X:Cx)(es:List T3)(t:TA):Prop:=
 ∀(pos:SX)(zq:List (Gc×Eg))(s:Gk)(σ:St)(H:Hp)(Q:List V->Hp->Prop),Inv X zq σ H s->t σ H Q->wpAny (GY X.prog X.w) X.A (spliced (DQ pos (Te es X.env))) (AP X zq σ Q) X.xe s
def PS(X:Cx)(st:T6)(t:TS):Prop:=
 ∀(zq:List (Gc×Eg))(s:Gk)(σ:St)(H:Hp)(D:Ends),Inv X zq σ H s->t D σ H->wpAny (GY X.prog X.w) X.A (exec st X.env) (SP X zq D) X.xe s
def Z7(X:Cx)(st:List T6)(t:TS):Prop:=
 ∀(zq:List (Gc×Eg))(s:Gk)(σ:St)(H:Hp)(D:Ends),Inv X zq σ H s->t D σ H->wpAny (GY X.prog X.w) X.A (execs st X.env) (SP X zq D) X.xe s
theorem Yq{α:Type}{t:Bk α}{Q b:α->Gk->Prop}(h:wpAny M A t Q E s)(c:∀a s,Q a s->b a s):wpAny M A t b E s:=DD h c λ_ _ x=>x
section
variable{X:Cx}
theorem bin{a b:T3}{ta tb:TE}(i:PE X a ta)(hb:PE X b tb){R:V->V->Hp->Prop}(I:Inv X zq σ H s)(h:ta σ H λx H1=>tb σ H1 λy H2=>R x y H2)
  {α:Type}{Q:α->Gk->Prop}{f:Value->Value->Bk α}
  (j:∀v u s2 x y H2,Inv X zq σ H2 s2->RelV x v->RelV y u->R x y H2->wpAny (GY X.prog X.w) X.A (f v u) Q X.xe s2):
  wpAny (GY X.prog X.w) X.A (eval a X.env) (λv c=>wpAny (GY X.prog X.w) X.A (eval b X.env) (λu d=>wpAny (GY X.prog X.w) X.A (f v u) Q X.xe d) X.xe c) X.xe s:=by
 refine Yq (i zq s σ H _ I h) λv s1⟨x,H1,e,m,k⟩=>?_;refine Yq (hb zq s1 σ H1 _ e k) λu s2⟨y,H2,g,n,l⟩=>?_;exact j v u s2 x y H2 g m n l
inductive Qyj(i:Nat)(σ:St)(H:Hp)(Q:VK):Prop
 |mk (v:_) (h0:σ[i]?=Ga (Ga v)) (h1:Q v H):Qyj i σ H Q
def V7(i:Nat):TE:=λσ H Q=>Qyj i σ H Q
def tC(v:V):TE:=λ_ H Q=>Q v H
theorem Qzu(f:X.N[i]?=Ga x)(k:Vis X.env.scope x)(hd:(x==("__debug__":Ta))=Gq:=by decide)(d:(x==("__classdict__":Ta))=Gq:=by decide):PE X (.Name x pos) (V7 i):=by
 intro zq s σ H Q I h;obtain⟨v,e,h⟩:=h;obtain⟨m,j,hl⟩:=I.loc;obtain⟨u,r,l⟩:=hl i x v f e k;have fin:EP X zq σ Q u s:=⟨v,H,I,r,h⟩;rcases l with⟨b,g⟩|⟨b,c,hc,a⟩
 ·exact FI (wpAny_loadName_local I.ok.kind b j g fin) hd
 ·rcases b with b|b
  ·exact FI (wpAny_loadName_cell I.ok.kind b hc a fin) hd
  ·exact FI (wpAny_loadName_free I.ok.kind b hc a fin d) hd
theorem Qk{i j pos}:PE X (.Constant (.int i) j pos) (tC (.int i)):=λ_ _ _ H _ I h=>wpAny_Constant_int ⟨.int i,H,I.tok _,⟨_,Xb⟩,h⟩
theorem Vi{b j pos}:PE X (.Constant (.bool b) j pos) (tC (.bl b)):=λ_ _ _ H _ I h=>Constant_bool ⟨.bl b,H,I,Xb,h⟩
theorem Ur{j pos}:PE X (.Constant .none j pos) (tC .non):=λ_ _ _ H _ I h=>Lz ⟨.non,H,I,Xb,h⟩
theorem Zf{x j pos}:PE X (.Constant (.str x) j pos) (tC (.str x)):=λ_ _ _ H _ I h=>Calls.Constant_str ⟨.str x,H,I.tok _,⟨_,Xb⟩,h⟩
def Gl(X:Cx)(x:Ta):Prop:=X.env.kindOf x=Ga .globalImplicit
theorem Qb4(I:Inv X zq σ H s)(a:Gl X x)(b:X.mg x=Ga u)(h:Q u s)
  (hd:(x==("__debug__":Ta))=Gq:=by decide):wpAny (GY X.prog X.w) X.A (eval (.Name x pos) X.env) Q E s:=
 Se I.ok.kind a (Calls.loadGlobal_global (by rw[I.ok.glob];exact I.mod.glob.keeps I.bk) b h) hd
theorem V2(I:Inv X zq σ H s)(a:Gl X x)(b:X.mg x=Gh)(d:bootBuiltins x=Ga u)(h:Q u s)
  (c:x≠"__name__":=by decide)(hd:(x==("__debug__":Ta))=Gq:=by decide):wpAny (GY X.prog X.w) X.A (eval (.Name x pos) X.env) Q E s:=by
 obtain⟨e,h1,h2⟩:=I.mod.blt;exact Se I.ok.kind a (Calls.loadGlobal_builtin (by rw[I.ok.glob];exact I.mod.glob.keeps I.bk) b (by rw[I.ok.blt];exact h1.keeps I.bk) ((h2 x c).trans d) h) hd
theorem Oq(a:Gl X x)(b:X.mg x=Ga u)(r:RelV v u)(hd:(x==("__debug__":Ta))=Gq:=by decide):PE X (.Name x pos) (tC v):=
 λ_ _ _ H _ I h=>Qb4 I a b ⟨v,H,I,r,h⟩ hd
theorem Xt(a:Gl X x)(b:X.mg x=Gh)(d:bootBuiltins x=Ga u)(r:RelV v u)(c:x≠"__name__":=by decide)(hd:(x==("__debug__":Ta))=Gq:=by decide):PE X (.Name x pos) (tC v):=
 λ_ _ _ H _ I h=>V2 I a b d ⟨v,H,I,r,h⟩ c hd
variable{a b:T3}{ta tb:TE}{pos:SX}
def PC(X:Cx)(e:CmpOp)(a b:T3)(t:TE):Prop:=
 ∀(zq:List (Gc×Eg))(s:Gk)(σ:St)(H:Hp)(Q:VK),Inv X zq σ H s->t σ H Q->
  wpAny (GY X.prog X.w) X.A (eval a X.env) (λv c=>wpAny (GY X.prog X.w) X.A (eval b X.env) (λu d=>wpAny (GY X.prog X.w) X.A (Dm e v u) (EP X zq σ Q) X.xe d) X.xe c) X.xe s
theorem Qs9(b:T3)(h:op≠.In)(h2:op≠.NotIn):behindInMarks op b=Gq:=by
 have a:(op==Bc)=Gq:=by cases op<;>first|rfl|exact absurd rfl h
 have c:(op==Nq)=Gq:=by cases op<;>first|rfl|exact absurd rfl h2
 cases b<;>simp[behindInMarks,a,c]
def Q4n(ta:TE):TE:=λσ H Q=>ta σ H λx H1=>Q (.bl (decide (x=.non))) H1
def Q1u(ta:TE):TE:=λσ H Q=>ta σ H λx H1=>Q (.bl (!decide (x=.non))) H1
theorem RelV.Qir{x:V}{v:Value}(r:RelV x v):(v==Value.none)=decide (x=.non):=by
 cases x with
 |non=>cases r;rfl
 |bl _=>cases r;rfl
 |int _=>obtain⟨t,rfl⟩:=r;rfl
 |str _=>obtain⟨t,rfl⟩:=r;rfl
 |byt _=>obtain⟨t,rfl⟩:=r;rfl
 |flt _=>obtain⟨t,rfl⟩:=r;rfl
 |ref _=>cases r;rfl
 |ty _=>cases r;rfl
theorem Q0f{j pos'}(c:PE X a ta):PC X .Is a (.Constant .none j pos') (Q4n ta):=by intro zq s σ H Q I h;refine Yq (c zq s σ H _ I h) λv s1⟨x,H1,b,e,d⟩=>?_;exact Lz (Nr ⟨.bl _,H1,b,by rw[e.Qir];rfl,d⟩)
theorem Qn3{j pos'}(c:PE X a ta):PC X .IsNot a (.Constant .none j pos') (Q1u ta):=by intro zq s σ H Q I h;refine Yq (c zq s σ H _ I h) λv s1⟨x,H1,b,e,d⟩=>?_;exact Lz (FJ ⟨.bl _,H1,b,by rw[e.Qir];rfl,d⟩)
inductive iTB(Q:Bool->Hp->Prop)(x:V)(H1:Hp):Prop
 |mk (c:_) (h0:x=.bl c) (h1:Q c H1):iTB Q x H1
def tB(t:TE):TT:=λσ H Q=>t σ H λx H1=>iTB Q x H1
theorem R0(h:PC X op a b t)(h1:behindInMarks op b=Gq:=by first|exact Qs9 _ (by decide) (by decide)|rfl):PT X (.Compare a [op] [b] pos) (tB t):=by intro zq s σ H Q I hw;refine La (Yq (h zq s σ H _ I hw) λv s1 h1=>Yq h1 λu s2 h2=>Yq h2 λc i⟨x,H1,e,g,f⟩=>?_) h1;obtain⟨d,rfl,q⟩:=f;cases g;exact DZ ⟨H1,e,q⟩
theorem Xy(h:PE X e t)(c:∀a,isTrue e X.env a=(do let v<-a;standAt e.pos;holding [v] (truthy v)):=by intro _;rfl):PT X e (tB t):=by intro zq s σ H Q I hw;refine M3 (Yq (h zq s σ H _ I hw) λv s1⟨x,H1,b,g,f⟩=>?_) (c _);obtain⟨d,rfl,q⟩:=f;cases g;exact DZ ⟨H1,b,q⟩
variable{tA tB':TT}{X6:List T3}
def Q4m(t u:TT):TT:=λσ H Q=>t σ H λc H1=>if c=Gf then u σ H1 Q else Q Gq H1
def tOr(t u:TT):TT:=λσ H Q=>t σ H λc H1=>if c=Gf then Q Gf H1 else u σ H1 Q
def Q4g(t:TT):TT:=λσ H Q=>t σ H λc H1=>Q (!c) H1
theorem Wr(b:PT X a tA):PW X (.BoolOp .And [a] pos) tA:=by
 intro d zq s σ H Q I h;refine NO (Yq (b zq s σ H Q I h) λc s1 e=>?_);cases c with
 |true=>exact isTrue_and_nil e
 |false=>exact e
theorem R1(b:PT X a tA):PW X (.BoolOp .Or [a] pos) tA:=by
 intro d zq s σ H Q I h;refine isTrue_or (Yq (b zq s σ H Q I h) λc s1 e=>?_);cases c with
 |false=>exact isTrue_or_nil e
 |true=>exact e
theorem Vs(f:PT X a tA)(hb:PW X (.BoolOp .And (b::X6) pos) tB'):PW X (.BoolOp .And (a::b::X6) pos) (Q4m tA tB'):=by
 intro g zq s σ H Q I h;refine NO (Yq (f zq s σ H _ I h) λc s1⟨H1,d,e⟩=>?_);cases c with
 |true=>exact hb g zq s1 σ H1 Q d e
 |false=>exact⟨H1,d,e⟩
theorem Ov(f:PT X a tA)(hb:PW X (.BoolOp .Or (b::X6) pos) tB'):PW X (.BoolOp .Or (a::b::X6) pos) (tOr tA tB'):=by
 intro g zq s σ H Q I h;refine isTrue_or (Yq (f zq s σ H _ I h) λc s1⟨H1,d,e⟩=>?_);cases c with
 |true=>exact⟨H1,d,e⟩
 |false=>exact hb g zq s1 σ H1 Q d e
theorem Ri(b:PT X a tA):PT X (.UnaryOp .Not a pos) (Q4g tA):=by intro zq s σ H Q I h;exact isTrue_not (b zq s σ H (λc H1=>Q (!c) H1) I h)
theorem Qz2{b}(h:PE X a t):PE X (.BoolOp b [a] pos) t:=λzq s σ H Q I hw=>BoolOp_one (h zq s σ H Q I hw)
def tIf(t:TT)(ta tb:TE):TE:=λσ H Q=>t σ H λc H1=>if c=Gf then ta σ H1 Q else tb σ H1 Q
theorem Qup(hc:PT X c tA)(g:PE X a ta)(hb:PE X b tb):PE X (.IfExp c a b pos) (tIf tA ta tb):=by
 intro zq s σ H Q I h;refine wpAny_IfExp (Yq (hc zq s σ H _ I h) λd s1⟨H1,e,f⟩=>?_);cases d with
 |true=>exact g zq s1 σ H1 Q e f
 |false=>exact hb zq s1 σ H1 Q e f
end
def Zd(K:Gd)(H:Hp)(a:Gc)(xs:List V):Prop:=
 Rd H a (.lst xs)\/
  ∃(o:Eg)(its:Array Value)(n:Nat),K.lookup a=Ga o/\o.cls=.type "list"/\o.dict=Gh/\o.data=.seq its n/\its.size<=Gj/\Zv xs its.toList
def Z2(K:Gd)(H:Hp)(a:Gc)(xs:List V):Prop:=
 Rd H a (.tup xs)\/
  ∃(o:Eg)(its:Array Value)(n:Nat),K.lookup a=Ga o/\o.cls=.type "tuple"/\o.data=.seq its n/\its.size<=Gj/\Zv xs its.toList
def Q5e:Value->Option V
 |.none=>Ga .non
 |.bool b=>Ga (.bl b)
 |.int i _=>Ga (.int i)
 |.str x _=>Ga (.str x)
 |.bytes b _=>Ga (.byt b)
 |.float b _=>Ga (.flt b)
 |.ref a=>Ga (.ref a)
 |.type n=>Ga (.ty n)
 |_=>Gh
theorem RelV.abs{x:V}(r:RelV x u):Q5e u=Ga x:=by
 cases x with
 |non=>cases r;rfl
 |bl _=>cases r;rfl
 |int _=>obtain⟨t,rfl⟩:=r;rfl
 |str _=>obtain⟨t,rfl⟩:=r;rfl
 |byt _=>obtain⟨t,rfl⟩:=r;rfl
 |flt _=>obtain⟨t,rfl⟩:=r;rfl
 |ref _=>cases r;rfl
 |ty _=>cases r;rfl
theorem RelV.inj{x y:V}{u:Value}(r:RelV x u)(q:RelV y u):x=y:=Tj (r.abs.symm.trans q.abs)
theorem Zv.inj:∀{xs ys:List V}{us:List Value},Zv xs us->Zv ys us->xs=ys
 |_,_,_,.nil,.nil=>rfl
 |_,_,_,.cons r t,.cons a t'=>by rw[r.inj a,Zv.inj t t']
section
variable{X:Cx}{zq:List (Gc×Eg)}{σ:St}{H:Hp}{s:Gk}{a:Gc}{xs ys:List V}
theorem Zd.of(h:H a=Ga (.lst xs)):Zd K H a xs:=.inl (.inl h)
theorem Z2.of(h:H a=Ga (.tup xs)):Z2 K H a xs:=.inl (.inl h)
theorem Inv.list(I:Inv X zq σ H s)(h:Zd X.K H a xs):∃its:List Value,Zv xs its/\PlainL s.heap a its.toArray/\xs.length<=Gj:=by
 rcases h with h|⟨o,its,n,b,hc,hd,c,hz,r⟩
 ·obtain⟨z,its,n,r,e⟩:=h.ok I.Zw;exact⟨its,r,⟨_,n,e,Xb,Xb,Xb⟩,z⟩
 ·refine⟨its.toList,r,⟨o,n,I.Jt a o b,hc,hd,by simpa using c⟩,?_⟩;have e:=r.length;simp only[TB]at e;omega
theorem Inv.tuple(I:Inv X zq σ H s)(h:Z2 X.K H a xs):∃its:List Value,Zv xs its/\IsTup s.heap a its.toArray/\xs.length<=Gj:=by
 rcases h with h|⟨o,its,n,b,hc,c,hz,r⟩
 ·obtain⟨z,its,r,p⟩:=h.ok I.Zw;exact⟨its,r,p,z⟩
 ·refine⟨its.toList,r,⟨o,I.Jt a o b,hc,n,by simpa using c⟩,?_⟩;have e:=r.length;simp only[TB]at e;omega
theorem Inv.Qc2(I:Inv X zq σ H s)(h:Zd X.K H a xs)(h':Zd X.K H a ys):xs=ys:=by
 obtain⟨its,r,⟨o,n,e,_,_,d⟩,_⟩:=I.list h;obtain⟨its',f,⟨o',g,b,_,_,d'⟩,_⟩:=I.list h';rw[e]at b;cases b;rw[d]at d';injection d' with c _;have:its=its':=by simpa using congrArg M4 c
 subst this;exact r.inj f
theorem Inv.Qo3(I:Inv X zq σ H s)(h:Z2 X.K H a xs)(h':Z2 X.K H a ys):xs=ys:=by
 obtain⟨its,r,⟨o,e,_,n,d⟩,_⟩:=I.tuple h;obtain⟨its',f,⟨o',b,_,g,d'⟩,_⟩:=I.tuple h';rw[e]at b;cases b;rw[d]at d';injection d' with c _;have:its=its':=by simpa using congrArg M4 c
 subst this;exact r.inj f
end
abbrev Cx.Qes(X:Cx)(E:Value->Gk->Prop):Cx:={X with xe:=E}
abbrev Cx.nox(X:Cx):Cx:=X.Qes λ_ _=>False
theorem Cx.Ok.Qes{X:Cx}(ok:X.Ok)(E:Value->Gk->Prop):(X.Qes E).Ok:=
 ⟨ok.mod,ok.kind,ok.glob,ok.blt,ok.above,ok.inj,ok.has,ok.cab,ok.hd,ok.frames,ok.stk,ok.exf,ok.bs,ok.bsz,ok.Qsz,ok.Qwl,ok.Qbu,ok.frf⟩
theorem Cx.Ok.J2(ok:(X.Qes E).Ok):X.Ok:=
 ⟨ok.mod,ok.kind,ok.glob,ok.blt,ok.above,ok.inj,ok.has,ok.cab,ok.hd,ok.frames,ok.stk,ok.exf,ok.bs,ok.bsz,ok.Qsz,ok.Qwl,ok.Qbu,ok.frf⟩
section
variable{X:Cx}{zq:List (Gc×Eg)}{σ:St}{H:Hp}{s:Gk}{E:Value->Gk->Prop}
theorem Inv.Qes(I:Inv X zq σ H s)(E:Value->Gk->Prop):Inv (X.Qes E) zq σ H s:=⟨I.ok.Qes E,I.os,I.bare,I.base,I.loc,I.cell,I.free,I.Jn,I.pin,I.Zw,I.len⟩
theorem Inv.J2(I:Inv (X.Qes E) zq σ H s):Inv X zq σ H s:=⟨I.ok.J2,I.os,I.bare,I.base,I.loc,I.cell,I.free,I.Jn,I.pin,I.Zw,I.len⟩
theorem SP.J2{D:Ends}{f:Flow}{s':Gk}(h:SP (X.Qes E) zq D f s'):SP X zq D f s':=by
 cases f with
 |next=>obtain⟨a,H',I,q⟩:=h;exact⟨a,H',I.J2,q⟩
 |brk=>obtain⟨a,H',I,q⟩:=h;exact⟨a,H',I.J2,q⟩
 |cont=>obtain⟨a,H',I,q⟩:=h;exact⟨a,H',I.J2,q⟩
 |ret u=>obtain⟨v,a,H',I,r,q⟩:=h;exact⟨v,a,H',I.J2,r,q⟩
theorem Z7.nox{st:List T6}{t:TS}(h:Z7 X.nox st t):Z7 X st t:=λzq s σ H D I hw=>DD (h zq s σ H D (I.Qes _) hw) (λ_ _ q=>q.J2) λ_ _ z=>False.elim z
end
section
variable{X:Cx}{st:T6}{X6:List T6}{t u:TS}{e:T3}{te:TE}{pos:SX}
def Q2n:TS:=λD σ H=>D.nx σ H
def Q5n(t u:TS):TS:=λD σ H=>t {D with nx:=u D} σ H
theorem Q7:Z7 X [] Q2n:=λ_ _ σ H _ I h=>E3 ⟨σ,H,I,h⟩
theorem Qd(h1:PS X st t)(h2:Z7 X X6 u):Z7 X (st::X6) (Q5n t u):=by
 intro zq s σ H D I h;refine Fj (Yq (h1 zq s σ H {D with nx:=u D} I h) λf s1 q=>?_);cases f with
 |next=>obtain⟨a,H',b,q⟩:=q;exact h2 zq s1 a H' D b q
 |ret v=>exact q
 |brk=>exact q
 |cont=>exact q
theorem Qh(h1:PS X st t):Z7 X [st] t:=by
 intro zq s σ H D I h;refine Fj (Yq (h1 zq s σ H D I h) λf s1 q=>?_);cases f with
 |next=>exact E3 q
 |ret v=>exact q
 |brk=>exact q
 |cont=>exact q
def Q2o:TS:=λD σ H=>D.ct σ H
theorem Qj3:PS X (.Continue pos) Q2o:=λ_ _ σ H _ I h=>wpAny_Continue ⟨σ,H,I,h⟩
theorem Inv.quiet(I:Inv X zq σ H s):interactive X.env=Gq:=by simp[interactive,I.ok.kind]
def Q2q(te:TE):TS:=λD σ H=>te σ H λ_ H1=>D.nx σ H1
theorem Ze(b:PE X e te)(c:swapsWith e Gh pos.line X.env=pure Gq:=by rfl):PS X (.Expr e pos) (Q2q te):=by intro zq s σ H D I h;exact wpAny_Expr_any (Yq (b zq s σ H _ I h) λv s1⟨x,H1,a,f,d⟩=>⟨σ,H1,a,d⟩) I.quiet c
def Q46(te:TE):TS:=λD σ H=>te σ H D.rt
theorem Qv(b:PE X e te):PS X (.Return (Ga e) pos) (Q46 te):=by intro zq s σ H D I h;exact wpAny_Return_some (Yq (b zq s σ H _ I h) λv s1⟨x,H1,a,d,c⟩=>⟨x,σ,H1,a,d,c⟩)
def Q2j:TS:=λD _ H=>D.rt .non H
theorem Qw5:PS X (.Return Gh pos) Q2j:=λ_ _ σ H _ I h=>wpAny_Return_none ⟨.non,σ,H,I,Xb,h⟩
def Q4z(c:TT)(t u:TS):TS:=λD σ H=>c σ H λb H1=>if b=Gf then t D σ H1 else u D σ H1
theorem Zn{a b:List T6}{tc:TT}(hc:PT X c tc)(g:Z7 X a t)(hb:Z7 X b u):PS X (.If c a b pos) (Q4z tc t u):=by
 intro zq s σ H D I h;refine wpAny_If (Yq (hc zq s σ H _ I h) λd s1⟨H1,e,f⟩=>?_);cases d with
 |true=>exact g zq s1 σ H1 D e f
 |false=>exact hb zq s1 σ H1 D e f
end
abbrev TG:=V->St->Hp->(St->Hp->Prop)->Prop
variable{g:TG}
abbrev TGs:=List V->St->Hp->(St->Hp->Prop)->Prop
def PG(X:Cx)(a:T3)(t:TG):Prop:=
 ∀(zq:List (Gc×Eg))(s:Gk)(σ:St)(H:Hp)(v:V)(u:Value)(Q:St->Hp->Prop),Inv X zq σ H s->RelV v u->t v σ H Q->
  wpAny (GY X.prog X.w) X.A (assign a X.env u) (λ_ s'=>∃b H',Inv X zq b H' s'/\Q b H') X.xe s
def PGs(X:Cx)(ts:List T3)(t:TGs):Prop:=
 ∀(zq:List (Gc×Eg))(s:Gk)(σ:St)(H:Hp)(vs:List V)(us:List Value)(Q:St->Hp->Prop),Inv X zq σ H s->Zv vs us->t vs σ H Q->
  wpAny (GY X.prog X.w) X.A (assignInOrder ((assignEach ts X.env).map (·.2)) us) (λ_ s'=>∃a H',Inv X zq a H' s'/\Q a H') X.xe s
abbrev Qxg:=V->V->V->Hp->(Hp->Prop)->Prop
def Q2p(X:Cx)(t:Qxg):Prop:=
 ∀(zq:List (Gc×Eg))(s:Gk)(σ:St)(H:Hp)(o i v:V)(ov a u:Value)(Q:Hp->Prop),Inv X zq σ H s->RelV o ov->RelV i a->RelV v u->t o i v H Q->
  wpAny (GY X.prog X.w) X.A (setItem ov a u) (λ_ s'=>∃H',Inv X zq σ H' s'/\Q H') X.xe s
section
variable{X:Cx}{pos:SX}
def Vt(i:Nat):TG:=λv σ H Q=>Q (σ.set i (Ga v)) H
theorem Xe(b:X.N.Nodup)(hi:X.N[i]?=Ga x)(d:Loc X.env.scope x)(c:X.fn x=Gf\/X.env.scope.names.lookup x=Ga .local:=by first|exact .inl rfl|exact .inr rfl|assumption):PG X (.Name x pos) (Vt i):=by intro zq s σ H v u Q I r h;exact LV (Qh7 I b hi d r (λs' a=>⟨_,H,a,h⟩) c)
theorem Yc(i:Nat)(a:X.N.Nodup)(hi:X.N[i]?=Ga x:=by rfl)(c:Loc X.env.scope x:=by exact Di Xb)(b:X.fn x=Gf\/X.env.scope.names.lookup x=Ga .local:=by first|exact .inl rfl|exact .inr rfl|assumption):PG X (.Name x pos) (Vt i):=Xe a hi c b
def Q0h:TGs:=λvs σ H Q=>vs=[]/\Q σ H
inductive Qsb(t:TG)(u:TGs)(vs:List V)(σ:St)(H:Hp)(Q:St->Hp->Prop):Prop
 |mk (v:_) (r:_) (h0:vs=v::r) (h1:t v σ H λσ' H'=>u r σ' H' Q):Qsb t u vs σ H Q
def Qkg(t:TG)(u:TGs):TGs:=λvs σ H Q=>Qsb t u vs σ H Q
theorem Wb:PGs X [] Q0h:=by intro zq s σ H vs us Q I r h;obtain⟨e,h⟩:=h;subst e;cases r;exact assignInOrder_nil ⟨σ,H,I,h⟩
theorem Zl{es:List T3}{t:TG}{u:TGs}(h1:PG X e t)(h2:PGs X es u)
  (d:(assignEach (e::es) X.env).map (·.2)=assign e X.env::(assignEach es X.env).map (·.2):=by rfl):PGs X (e::es) (Qkg t u):=by
 intro zq s σ H vs us Q I r h;obtain⟨v,i,c,h⟩:=h;subst c;cases r with
 |cons r g=>rw[d];refine assignInOrder_cons (Yq (h1 zq s σ H _ _ _ I r h) λ_ s1⟨a,H1,b,f⟩=>?_);exact h2 zq s1 a H1 _ _ Q b g f
inductive Qy2(K:Gd)(n:Nat)(t:TGs)(v:V)(σ:St)(H:Hp)(Q:St->Hp->Prop):Prop
 |mk (a:_) (xs:_) (h0:v=.ref a) (h1:Z2 K H a xs) (h2:xs.length=n) (h3:t xs σ H Q):Qy2 K n t v σ H Q
def Q1h(K:Gd)(n:Nat)(t:TGs):TG:=λv σ H Q=>Qy2 K n t v σ H Q
theorem Vr{es:List T3}{t:TGs}(hc:X.calm=Gf)(h:PGs X es t)
  (g:(assignEach es X.env).length=n:=by rfl)(c:(assignEach es X.env).findIdx? (·.1)=Gh:=by rfl):PG X (.Tuple es k pos) (Q1h X.K n t):=by
 intro zq s σ H v u Q I r hw;obtain⟨a,xs,f,i,hl,hw⟩:=hw;subst f;cases r;obtain⟨its,rv,j,hz⟩:=I.tuple i;refine assign_Tuple_tuple (I.ok.hd hc) j (by simp[g,<-hl,rv.length]) c λh' l=>?_;have d:Inv X zq σ H {s with heap:=h'}:=I.kept (t':=s.toks) λb o e=>l b o (Td (Heap.lt_size e)) e;exact h zq _ σ H xs _ Q d (by simpa using rv) hw
def Q4u(to ti:TE)(t:Qxg):TG:=λv σ H Q=>to σ H λo H1=>ti σ H1 λi H2=>t o i v H2 λa=>Q σ a
theorem Qcd{o i:T3}{to ti:TE}{t:Qxg}(g:PE X o to)(hi:PE X i ti)(j:Q2p X t)
  (f:∀v,assign (.Subscript o i pos) X.env v=(do
   let ov<-holding [v] (eval o X.env)
   let a<-holding [v,ov] (eval i X.env)
   standAt pos
   holding [v,ov,a] (setItem ov a v)
   release [v,ov,a] []):=by intro _;rfl):PG X (.Subscript o i pos) (Q4u to ti t):=by
 intro zq s σ H v u Q I r h;rw[f];refine Gb (T4 (Yq (g zq s σ H _ I h) λov s1⟨x,H1,c,n,k⟩=>?_));refine Gb (T4 (Yq (hi zq s1 σ H1 _ c k) λa s2⟨y,H2,d,p,l⟩=>?_));refine Gb (LA (Gb (T4 (Yq (j zq s2 σ H2 x y v ov a u _ d n p r l) λ_ q⟨b,e,m⟩=>?_))));exact wpAny_release ⟨σ,b,e,m⟩
def Qx7(te:TE)(g:TG):TS:=λD σ H=>te σ H λx H1=>g x σ H1 D.nx
theorem Qaw(b:PE X e te)(c:PG X tg g)(d:swapsWithSole [tg] e pos.line X.env=pure Gq:=by rfl)(hw:swappedStores [tg] e X.env=pure Gh:=by rfl)
  (h1:(assignEach [tg] X.env).map (·.2)=[assign tg X.env]:=by rfl):PS X (.Assign [tg] e pos) (Qx7 te g):=by
 intro zq s σ H D I h;refine wpAny_Assign_stores (Yq (b zq s σ H _ I h) λv s1⟨x,H1,a,i,f⟩=>?_) d hw;rw[h1];exact Yq (c zq s1 σ H1 x v _ a i f) λ_ s2 q=>q
theorem Uq{pos':SX}(c:X.N.Nodup)(hi:X.N[i]?=Ga x)(j:Loc X.env.scope x)(d:PE X e te)(g:swapsWith e (Ga (.Name x pos')) pos.line X.env=pure Gq:=by rfl)(f:X.fn x=Gf\/X.env.scope.names.lookup x=Ga .local:=by first|exact .inl rfl|exact .inr rfl|assumption):
  PS X (.Assign [.Name x pos'] e pos) (Qx7 te (Vt i)):=by
 intro zq s σ H D I h;refine wpAny_Assign_Name (Yq (d zq s σ H _ I h) λv s1⟨y,H1,a,l,k⟩=>?_) g;exact Qh7 a c hi j l (λs2 b=>⟨_,H1,b,k⟩) f
theorem Qt(i:Nat){pos':SX}(a:X.N.Nodup)(b:PE X e te)(hi:X.N[i]?=Ga x:=by rfl)(f:Loc X.env.scope x:=by exact Di Xb)(d:swapsWith e (Ga (.Name x pos')) pos.line X.env=pure Gq:=by rfl)(c:X.fn x=Gf\/X.env.scope.names.lookup x=Ga .local:=by first|exact .inl rfl|exact .inr rfl|assumption):PS X (.Assign [.Name x pos'] e pos) (Qx7 te (Vt i)):=Uq a hi f b d c
end
section
variable{X:Cx}{pos:SX}
def Qq6(c:TT)(tb:TS):TS:=λD σ H=>∃W:Nat->St->Hp->Prop,(∃m,W m σ H)/\∀m σ H,W m σ H->
 c σ H λb H1=>if b=Gf then∃N:St->Hp->Prop,(∀a H',N a H'->∃d,d<m/\W d a H')/\tb {D with nx:=N,ct:=N,bk:=D.nx} σ H1 else D.nx σ H1
theorem Vm{tc:TT}(r:PassesOwn (GY X.prog X.w) X.A X.env X.xe)(hc:PT X c tc)(hb:Z7 X body tb):PS X (.While c body [] pos) (Qq6 tc tb):=by
 intro zq s σ H D I h;obtain⟨W,⟨m0,u⟩,turn⟩:=h;refine wpAny_While (codeAny_whileLoop (λn s'=>∃g H',Inv X zq g H' s'/\W n g H') ?_ m0 ⟨σ,H,I,u⟩);rintro n s1 ⟨d,H1,t,x⟩;refine DY r (Yq (hc zq s1 d H1 _ t (turn n d H1 x)) λb s2⟨H2,p,i⟩=>?_);cases b with
 |true=>
  obtain⟨N,q,i⟩:=i;rw[Gn rfl];refine DY r (Yq (hb zq s2 d H2 _ p i) λf y j=>?_);cases f with
  |next=>obtain⟨a,e,k,n3⟩:=j;obtain⟨m,l,o⟩:=q a e n3;exact⟨m,l,a,e,k,o⟩
  |cont=>obtain⟨a,e,k,n3⟩:=j;obtain⟨m,l,o⟩:=q a e n3;exact⟨m,l,a,e,k,o⟩
  |brk=>exact j
  |ret v=>exact j
 |false=>rw[Gi Gx];exact E3 ⟨d,H2,p,i⟩
end
structure It where
 go:Nat->Hp->Prop
 yld:Nat->Hp->V->Hp->Prop
 stop:Nat->Hp->Prop
def Qas(X:Cx)(zq:List (Gc×Eg))(H:Hp)(b:Gc):Prop:=
 H b=Gh/\b≠X.env.locals/\b∉X.fs/\(b∈X.ex\/X.s₀.heap.objs.size<=b)/\(∀x c,X.env.cells.lookup x=Ga c->c≠b)/\∀p∈X.pn++zq,p.1≠b
theorem Inv.Qii{H':Hp}(I:Inv X zq σ H s)(hb:s.heap.objs.size<=b)(a:H' b=Gh):Qas X zq H' b:=by
 refine⟨a,Tu (Tc I.lt hb),I.Q5d hb,.inr (Tt I.sz hb),λx c e z=>?_,λp d z=>?_⟩
 ·obtain⟨v,q⟩:=I.cell x c e;exact absurd (Tc q.lt (by rw[z];exact hb)) (Du _)
 ·exact absurd (Tc (Heap.lt_size (I.pin p d).1) (by rw[z];exact hb)) (Du _)
structure Qgs(P:Gg)(w:Gs)(K:Gd)(tg:T3)(J:It)(fp:List Gc)(it:Gc)(tn:Nat->Heap->Prop):Prop where
 mem:it∈fp
 obj:∀i h,tn i h->∀b∈fp,∃o,h.get? b=Ga o/\∀v,o.data≠.cell v
 keep:∀i h h',tn i h->(∀b∈fp,∀o,h.get? b=Ga o->h'.get? b=Ga o)->tn i h'
 item:∀(X:Cx),X.prog=P->X.w=w->X.K=K->X.calm=Gf->∀(i:Nat)(zq:List (Gc×Eg))(s:Gk)(σ:St)(H:Hp)(E:Value->Gk->Prop),Inv X zq σ H s->(∀b∈fp,Qas X zq H b)->tn i s.heap->J.go i H->
  wpAny (GY P w) X.A (pyNext (.ref it)) (λr s1=>∃u,r=Ga u/\
   wpAny (GY P w) X.A (letOwnedTupleGo tg (.ref it) u) (λ_ s2=>∃x H',Inv X zq σ H' s2/\RelV x u/\J.yld i H x H'/\tn (i+1) s2.heap/\∀b∈fp,H' b=Gh) E s1) E s
 done:∀(X:Cx),X.prog=P->X.w=w->X.K=K->X.calm=Gf->∀(i:Nat)(zq:List (Gc×Eg))(s:Gk)(σ:St)(H:Hp)(E:Value->Gk->Prop),Inv X zq σ H s->(∀b∈fp,Qas X zq H b)->tn i s.heap->J.stop i H->
  wpAny (GY P w) X.A (pyNext (.ref it)) (λr s1=>r=Gh/\Inv X zq σ H s1) E s
 self:∀(A:TL)(i:Nat)(s:Gk)(Q:Value->Gk->Prop)(E:Value->Gk->Prop),tn i s.heap->Q (.ref it) s->wpAny (GY P w) A (pyIter (.ref it)) Q E s
abbrev TI:=St->Hp->(It->Hp->Prop)->Prop
def PIE(X:Cx)(zq:List (Gc×Eg))(σ:St)(tg:T3)(R:It->Hp->Prop)(a:Value)(s2:Gk):Prop:=
 ∃(it:Gc)(fp:List Gc)(tn:Nat->Heap->Prop)(J:It)(H':Hp),a=.ref it/\Inv X zq σ H' s2/\Qgs X.prog X.w X.K tg J fp it tn/\tn 0 s2.heap/\(∀b∈fp,Qas X zq H' b)/\R J H'
def PI(X:Cx)(tg iter:T3)(wi:TI):Prop:=
 ∀(zq:List (Gc×Eg))(s:Gk)(σ:St)(H:Hp)(R:It->Hp->Prop),Inv X zq σ H s->wi σ H R->
  wpAny (GY X.prog X.w) X.A (eval iter X.env) (λv s1=>wpAny (GY X.prog X.w) X.A (pyIter v) (PIE X zq σ tg R) X.xe s1) X.xe s
theorem Qfl      {it : Gc}   {n : String} {vs : Array Value} {Q : Unit -> Gk -> Prop} (c : s.heap.get? it = Ga o) (hc : o.cls = .type n) (hd : o.data = .fields vs)
    (b : ["enumerate", "zip", "dict_itemiterator", "dict_reverseitemiterator", "odict_iterator", "itertools.zip_longest", "itertools.pairwise"].contains n = Gq) (a : Q () s) : wpAny M A (letOwnedTupleGo tg (.ref it) u) Q E s := by
  unfold letOwnedTupleGo
  cases tg <;> first
    | exact Ge a
    | (cases u <;> first
        | exact Ge a
        | (refine Gb (wpAny_load c ?_)
           rw [hc, hd]
           show wpAny M A (if (["enumerate", "zip", "dict_itemiterator", "dict_reverseitemiterator", "odict_iterator", "itertools.zip_longest", "itertools.pairwise"].contains n && vs[0]? == Ga (rawInt _)) = Gf then _ else _) Q E s
           rw [Gi (by intro h; rw [b, Bool.false_and] at h; cases h)]
           exact Ge a))
def Itl(K:Gd)(a:Gc):It:=
 ⟨λi H=>∃xs x,Zd K H a xs/\xs[i]?=Ga x,λi H x H'=>H'=H/\∀xs,Zd K H a xs->xs[i]?=Ga x,λi H=>∃xs,Zd K H a xs/\xs.length<=i⟩
def Itt(K:Gd)(a:Gc):It:=
 ⟨λi H=>∃xs x,Z2 K H a xs/\xs[i]?=Ga x,λi H x H'=>H'=H/\∀xs,Z2 K H a xs->xs[i]?=Ga x,λi H=>∃xs,Z2 K H a xs/\xs.length<=i⟩
def Itr(lo:Int)(n:Nat):It:=⟨λi _=>i<n,λi H x H'=>H'=H/\x=.int (lo+i),λi _=>n<=i⟩
theorem Qqp(a it:Gc):Qgs P w K tg (Itl K a) [it] it (λi h=>h.IsListIter it a i) where
 mem:=by simp
 obj:=λi h st b hb=>by
  have e:b=it:=by simpa using hb
  subst e;obtain⟨o,e,c,d⟩:=st;exact⟨o,e,λv z=>by rw[d]at z;cases z⟩
 keep:=λi h h' st k=>st.at λo e=>k it (by simp) o e
 item:=by intro X y hw t hc i zq s σ H E I g st A;subst y hw t;obtain⟨xs,x,j,B⟩:=A;obtain⟨its,rv,p,hz⟩:=I.list j;obtain⟨u,G,L⟩:=rv.get B;obtain⟨l,m,F,n,q,r⟩:=g it (by simp);refine wpAny_pyNext_list_item st p.isList (x:=u) (by simpa using G) λh' f M=>?_;have C:Inv X zq σ H {s with heap:=h'}:=I.turned (t':=s.toks) (λb o hb e=>(M.2 b hb).trans e) l m n q r;obtain⟨o,e,c,d⟩:=id f;exact⟨u,Xb,Qfl (s:={s with heap:=h'}) e c d (by decide) ⟨x,H,C,L,⟨Xb,λys J=>by rw[I.Qc2 J j];exact B⟩,f,λb hb=>(g b hb).1⟩⟩
 done:=by intro X y hw t hc i zq s σ H E I g st A;subst y hw t;obtain⟨xs,j,B⟩:=A;obtain⟨its,rv,p,hz⟩:=I.list j;obtain⟨l,m,F,n,q,r⟩:=g it (by simp);have hl:=rv.length;exact wpAny_pyNext_list_end (I.ok.hd hc) st p.isList (by simp;lia) λh' D=>⟨Xb,I.turned (t':=s.toks) (λb o hb e=>D b o hb e) l m n q r⟩
 self:=λ_ _ _ _ _ st h=>wpAny_pyIter_listiter st h
theorem Qmk(a it:Gc):Qgs P w K tg (Itt K a) [it] it (λi h=>h.IsTupleIter it a i) where
 mem:=by simp
 obj:=λi h st b hb=>by
  have e:b=it:=by simpa using hb
  subst e;obtain⟨o,e,c,d⟩:=st;exact⟨o,e,λv z=>by rw[d]at z;cases z⟩
 keep:=λi h h' st k=>st.at λo e=>k it (by simp) o e
 item:=by intro X y hw t hc i zq s σ H E I g st A;subst y hw t;obtain⟨xs,x,j,B⟩:=A;obtain⟨its,rv,p,hz⟩:=I.tuple j;obtain⟨u,G,L⟩:=rv.get B;obtain⟨l,m,F,n,q,r⟩:=g it (by simp);refine wpAny_pyNext_tuple_item st (show s.heap.IsTuple a its.toArray from p) (x:=u) (by simpa using G) λh' f M=>?_;have C:Inv X zq σ H {s with heap:=h'}:=I.turned (t':=s.toks) (λb o hb e=>(M.2 b hb).trans e) l m n q r;obtain⟨o,e,c,d⟩:=id f;exact⟨u,Xb,Qfl (s:={s with heap:=h'}) e c d (by decide) ⟨x,H,C,L,⟨Xb,λys J=>by rw[I.Qo3 J j];exact B⟩,f,λb hb=>(g b hb).1⟩⟩
 done:=by intro X y hw t hc i zq s σ H E I g st A;subst y hw t;obtain⟨xs,j,B⟩:=A;obtain⟨its,rv,p,hz⟩:=I.tuple j;obtain⟨l,m,F,n,q,r⟩:=g it (by simp);have hl:=rv.length;exact wpAny_pyNext_tuple_end (I.ok.hd hc) st (show s.heap.IsTuple a its.toArray from p) (by simp;omega) λh' D=>⟨Xb,I.turned (t':=s.toks) (λb o hb e=>D b o hb e) l m n q r⟩
 self:=λ_ _ _ _ _ st h=>wpAny_pyIter_tupleiter st h
theorem Ql2(it:Gc)(lo:Int)(n:Nat):Qgs P w K tg (Itr lo n) [it] it (λi h=>Lg h it (lo+(i:Nat)*1) ((n:Int) - (i:Nat)) 1) where
 mem:=by simp
 obj:=λi h st b hb=>by
  have e:b=it:=by simpa using hb
  subst e;exact⟨_,st,λv z=>by have B:Nu _=RI v:=z;cases B⟩
 keep:=λi h h' st k=>k it (by simp) _ st
 item:=by intro X p hw m hc i zq s σ H E I c st q;subst p hw m;obtain⟨d,f,x,g,j,l⟩:=c it (by simp);have W:=Nv (prog:=X.prog) (w:=X.w) (I.ok.hd hc) it lo 1 n;refine W.item i s _ _ q st λv h' tk y a A=>?_;obtain⟨t,rfl⟩:=y;have r:Inv X zq σ H {s with heap:=h',toks:=tk}:=I.turned (λb o hb e=>A b o (by simpa using hb) e) d f g j l;refine⟨_,Xb,Qfl (s:={s with heap:=h',toks:=tk}) (n:="range_iterator") a rfl rfl (by decide) ⟨.int (lo+i),H,r,⟨t,?_⟩,⟨Xb,Xb⟩,a,λb hb=>(c b hb).1⟩⟩;rw[Int.mul_one]
 done:=by intro X p hw m hc i zq s σ H E I c st q;subst p hw m;obtain⟨d,f,x,g,j,l⟩:=c it (by simp);exact SO (I.ok.hd hc) st (by have:n<=i:=q;lia) λh' u=>⟨Xb,I.turned (t':=s.toks) (λb o hb e=>u b o hb e) d f g j l⟩
 self:=λ_ _ _ _ _ st h=>SQ st h
section
variable{X:Cx}{tg:T3}
inductive Qqy(K:Gd)(R:It->Hp->Prop)(x:V)(H1:Hp):Prop
 |mk (a:_) (h0:x=.ref a) (h1:(∃xs,Zd K H1 a xs)) (h2:R (Itl K a) H1):Qqy K R x H1
def Q28(K:Gd)(tl:TE):TI:=λσ H R=>tl σ H λx H1=>Qqy K R x H1
inductive Qys(K:Gd)(R:It->Hp->Prop)(x:V)(H1:Hp):Prop
 |mk (a:_) (h0:x=.ref a) (h1:(∃xs,Z2 K H1 a xs)) (h2:R (Itt K a) H1):Qys K R x H1
def Q5g(K:Gd)(tl:TE):TI:=λσ H R=>tl σ H λx H1=>Qys K R x H1
theorem Xd{l:T3}{tl:TE}(hl:PE X l tl):PI X tg l (Q28 X.K tl):=by
 intro zq s σ H R I h;refine Yq (hl zq s σ H _ I h) λv s1⟨x,H1,c,g,f⟩=>?_;obtain⟨a,e,⟨xs,d⟩,q⟩:=f;subst e;cases g;obtain⟨its,rv,p,hz⟩:=c.list d;refine wpAny_pyIter_list p.isList ?_;refine⟨s1.heap.objs.size,[s1.heap.objs.size],_,_,H1,Xb,c.kept (t':=s1.toks) λb o e=>Heap.get?_push_of_some _ e,Qqp a _,⟨_,Heap.get?_push_size _ Xb,Xb,Xb⟩,λb hb=>?_,q⟩;have e:b=s1.heap.objs.size:=by simpa using hb
 subst e;exact c.Qii (Gm _) (c.Zw.fresh (Gm _))
theorem Uo{l:T3}{tl:TE}(hl:PE X l tl):PI X tg l (Q5g X.K tl):=by
 intro zq s σ H R I h;refine Yq (hl zq s σ H _ I h) λv s1⟨x,H1,c,g,f⟩=>?_;obtain⟨a,e,⟨xs,d⟩,q⟩:=f;subst e;cases g;obtain⟨its,rv,p,hz⟩:=c.tuple d;refine Sf (show s1.heap.IsTuple a its.toArray from p) ?_;refine⟨s1.heap.objs.size,[s1.heap.objs.size],_,_,H1,Xb,c.kept (t':=s1.toks) λb o e=>Heap.get?_push_of_some _ e,Qmk a _,⟨_,Heap.get?_push_size _ Xb,Xb,Xb⟩,λb hb=>?_,q⟩;have e:b=s1.heap.objs.size:=by simpa using hb
 subst e;exact c.Qii (Gm _) (c.Zw.fresh (Gm _))
theorem Qr0{R:It->Hp->Prop}{lo hi:Int}{t u v:Bj}{tk:Nat}(I:Inv X zq σ H s)(h1: -(2^62)<=lo)(h2:lo<2^62)(f: -(2^62)<=hi)(g:hi<2^62)
  (q:R (Itr lo (hi - lo).toNat) H):wpAny (GY X.prog X.w) X.A (pyIter (.ref s.heap.objs.size)) (PIE X zq σ tg R) E {s with heap:=s.heap.push {cls:=.type "range",data:=.fields #[.int lo t,.int hi u,.int 1 v]},toks:=tk}:=by
 refine LH (Nw ..) (small_one h1 h2 f g) ?_;have a:Inv X zq σ H {s with heap:=s.heap.push {cls:=.type "range",data:=.fields #[.int lo t,.int hi u,.int 1 v]},toks:=tk}:=I.kept λb o e=>Heap.get?_push_of_some _ e;refine⟨(s.heap.push {cls:=.type "range",data:=.fields #[.int lo t,.int hi u,.int 1 v]}).objs.size,[(s.heap.push {cls:=.type "range",data:=.fields #[.int lo t,.int hi u,.int 1 v]}).objs.size],_,_,H,Xb,
  a.kept (t':=tk) λb o e=>Heap.get?_push_of_some _ e,Ql2 _ lo (hi - lo).toNat,?_,λb hb=>?_,q⟩
 ·have c:lo+((0:Nat):Int)*1=lo:=by simp
  have d:(((hi - lo).toNat:Nat):Int) - ((0:Nat):Int)=Builtin.Range.rangeSize lo hi 1:=by rw[rangeSize_one];split<;>lia
  show Lg _ _ (lo+((0:Nat):Int)*1) ((((hi - lo).toNat:Nat):Int) - ((0:Nat):Int)) 1;rw[c,d];exact Heap.get?_push_size _ rfl
 ·have e:b=(s.heap.push {cls:=.type "range",data:=.fields #[.int lo t,.int hi u,.int 1 v]}).objs.size:=by simpa using hb
  subst e;exact a.Qii (Gm _) (a.Zw.fresh (Gm _))
inductive Qsw(R:It->Hp->Prop)(vs:List V)(H1:Hp):Prop
 |mk (j:Int) (h0:vs=[.int j]) (h1: -(2^62)<=j) (h2:j<2^62) (h3:R (Itr 0 j.toNat) H1):Qsw R vs H1
def Q2g(ta:TA):TI:=λσ H R=>ta σ H λvs H1=>Qsw R vs H1
theorem Us{a:T3}{ta:TA}{p:SX}(f:Gl X "range")(g:X.mg "range"=Gh)(d:PA X [a] ta)(i:Te [a] X.env=[(Gq,eval a X.env)]:=by rfl):PI X tg (.Call (.Name "range" p) [a] [] pos) (Q2g ta):=by
 intro zq s σ H R I h;refine Bd (V2 I f g NP (Ds (Yq (d pos zq s σ H _ I h) λus s1⟨vs,H1,c,l,b⟩=>?_) i Xb));obtain⟨j,e,b,k,q⟩:=b;subst e;cases l with
 |cons r m=>cases m;obtain⟨t,rfl⟩:=r;exact call_range_1 (Qr0 c (by omega) (by omega) b k (by simpa using q))
def Q5a(wi:TI)(g:TG)(tb:TS):TS:=λD σ H=>wi σ H λJ H1=>∃W:Nat->Nat->St->Hp->Prop,(∃m,W 0 m σ H1)/\∀i m σ H,W i m σ H->
 (J.stop i H/\D.nx σ H)\/(J.go i H/\∃N:St->Hp->Prop,(∀a H',N a H'->∃c,c<m/\W (i+1) c a H')/\∀x H',J.yld i H x H'->g x σ H' λb H2=>tb {D with nx:=N,ct:=N,bk:=D.nx} b H2)
def Qck(fp:List Gc)(h:Heap):List (Gc×Eg):=fp.filterMap λb=>(h.get? b).map λo=>(b,o)
theorem Jh{h:Heap}(hb:b∈fp)(e:h.get? b=Ga o):(b,o)∈Qck fp h:=List.mem_filterMap.mpr ⟨b,hb,by rw[e];rfl⟩
theorem Qqj{h:Heap}{p:Gc×Eg}(c:p∈Qck fp h):p.1∈fp/\h.get? p.1=Ga p.2:=by
 obtain⟨b,hb,e⟩:=List.mem_filterMap.mp c;cases q:h.get? b with
 |none=>rw[q]at e;cases e
 |some o=>rw[q]at e;have a:(b,o)=p:=Tj e;subst a;exact⟨hb,q⟩
theorem Inv.pinned(I:Inv X zq σ H s)(h:∀b∈fp,Qas X zq H b)(i:∀b∈fp,∃o,s.heap.get? b=Ga o/\∀v,o.data≠.cell v):Inv X (zq++Qck fp s.heap) σ H s:=
 I.Qoo λp j=>(List.mem_append.mp j).elim (λz=>I.pin p (List.mem_append_right _ z)) λz=>by obtain⟨hb,e⟩:=Qqj z;obtain⟨c,f,g,_⟩:=h p.1 hb;obtain⟨o,a,d⟩:=i p.1 hb;rw[e]at a;cases a;exact⟨e,c,f,g,d⟩
theorem Inv.Ou{pl:List (Gc×Eg)}(I:Inv X (zq++pl) σ H s):Inv X zq σ H s:=I.Qoo λp a=>I.pin p (List.mem_append_right _ (List.mem_append_left _ a))
theorem Yg{iter:T3}{wi:TI}(z:PassesOwn (GY X.prog X.w) X.A X.env X.xe)(hc:X.calm=Gf)(hi:PI X tg iter wi)(hg:PG X tg g)(hb:Z7 X body tb)
  (hs:∀x,foldedSetIterable iter X.env x=pure x:=by intro _;rfl):PS X (.For tg iter body [] pos) (Q5a wi g tb):=by
 intro zq s σ H D I h;refine wpAny_For (Yq (hi zq s σ H _ I h) λv s1 h1=>Yq h1 λaa s2 h2=>?_) hs;obtain⟨it,fp,tn,J,H2,e,Y,T,M,R,W,⟨m0,w0⟩,turn⟩:=h2;subst e;have k:∀{H':Hp},(∀b∈fp,H' b=Gh)->∀b∈fp,Qas X zq H' b:=λhn b hb=>⟨hn b hb,(R b hb).2⟩;refine codeAny_forLoop_any (λn s'=>∃i l H',Inv X zq l H' s'/\tn i s'.heap/\(∀b∈fp,H' b=Gh)/\W i n l H') ?_ m0 ⟨0,σ,H2,Y,M,λb hb=>(R b hb).1,w0⟩;rintro n S ⟨i,p,E,Q,C,y,w3⟩;rcases turn i n p E w3 with⟨stop,qn⟩|⟨go,N,hN,step⟩
 ·refine DY z (Yq (T.done X rfl rfl rfl hc i zq S p E X.xe Q (k y) C stop) λr s4⟨K,Z⟩=>?_);subst K;exact E3 ⟨p,E,Z,qn⟩
 ·refine DY z (Yq (T.item X rfl rfl rfl hc i zq S p E X.xe Q (k y) C go) λr s4⟨u,K,h4⟩=>?_);subst K;refine DY z (Yq h4 λ_ U⟨x,P,I5,r5,y5,t,G⟩=>?_);have F:=I5.pinned (k G) (T.obj _ _ t);refine DY z (Yq (hg _ U p P x u _ F r5 (step x P y5)) λ_ s6⟨O,V,I6,q6⟩=>?_);refine DY z (Yq (hb _ s6 O V _ I6 q6) λf L q=>?_);have again:∀{a:St}{c:Hp},Inv X (zq++Qck fp U.heap) a c L->N a c->∃m,m<n/\∃i l H',Inv X zq l H' L/\tn i L.heap/\(∀b∈fp,H' b=Gh)/\W i m l H':=λ{a c}j B=>by obtain⟨m',hm,w7⟩:=hN a c B;refine⟨m',hm,i+1,a,c,j.Ou,T.keep _ _ _ t λb hb o e=>(j.pin (b,o) (List.mem_append_right _ (List.mem_append_right _ (Jh hb e)))).1,λb hb=>?_,w7⟩;obtain⟨o,e,d⟩:=T.obj _ _ t b hb;exact(j.pin (b,o) (List.mem_append_right _ (List.mem_append_right _ (Jh hb e)))).2.1
  cases f with
  |next=>obtain⟨a,c,j,B⟩:=q;exact again j B
  |cont=>obtain⟨a,c,j,B⟩:=q;exact again j B
  |brk=>obtain⟨a,c,j,q⟩:=q;exact⟨a,c,j.Ou,q⟩
  |ret v=>obtain⟨x7,a,c,j,r7,q⟩:=q;exact⟨x7,a,c,j.Ou,r7,q⟩
end
theorem Xl(Pv:Nat->St->Hp->Prop)(h:Pv 0 σ H)(hl:∀i σ H,i<=xs.length->Pv i σ H->Zd K H a xs)
  (j:∀i x σ H,xs[i]?=Ga x->Pv i σ H->g x σ H λc H2=>tb {D with nx:=Pv (i+1),ct:=Pv (i+1),bk:=D.nx} c H2)(hd:∀σ H,Pv xs.length σ H->D.nx σ H):
  ∃W:Nat->Nat->St->Hp->Prop,(∃m,W 0 m σ H)/\∀i m σ H,W i m σ H->
   ((Itl K a).stop i H/\D.nx σ H)\/((Itl K a).go i H/\∃N:St->Hp->Prop,(∀b H',N b H'->∃f,f<m/\W (i+1) f b H')/\∀x H',(Itl K a).yld i H x H'->g x σ H' λc H2=>tb {D with nx:=N,ct:=N,bk:=D.nx} c H2):=by
 refine⟨λi m σ H=>m=xs.length - i/\i<=xs.length/\Pv i σ H,⟨xs.length,by simp,Gw _,h⟩,?_⟩;rintro i m σ H ⟨rfl,hi,p⟩;have q:=hl i σ H hi p;by_cases d:i<xs.length
 ·refine .inr ⟨⟨xs,xs[i],q,by simp[d]⟩,Pv (i+1),λb H' k=>⟨xs.length - (i+1),by omega,Xb,d,k⟩,λx H' y=>?_⟩;obtain⟨e,y⟩:=y;subst e;exact j i x σ _ (y xs q) p
 ·have e:i=xs.length:=by omega
  subst e;exact .inl ⟨⟨xs,q,Gm _⟩,hd σ H p⟩
theorem Qhg(Pv:Nat->St->Hp->Prop)(h:Pv 0 σ H)(hl:∀i σ H,i<=xs.length->Pv i σ H->Z2 K H a xs)
  (j:∀i x σ H,xs[i]?=Ga x->Pv i σ H->g x σ H λc H2=>tb {D with nx:=Pv (i+1),ct:=Pv (i+1),bk:=D.nx} c H2)(hd:∀σ H,Pv xs.length σ H->D.nx σ H):
  ∃W:Nat->Nat->St->Hp->Prop,(∃m,W 0 m σ H)/\∀i m σ H,W i m σ H->
   ((Itt K a).stop i H/\D.nx σ H)\/((Itt K a).go i H/\∃N:St->Hp->Prop,(∀b H',N b H'->∃f,f<m/\W (i+1) f b H')/\∀x H',(Itt K a).yld i H x H'->g x σ H' λc H2=>tb {D with nx:=N,ct:=N,bk:=D.nx} c H2):=by
 refine⟨λi m σ H=>m=xs.length - i/\i<=xs.length/\Pv i σ H,⟨xs.length,by simp,Gw _,h⟩,?_⟩;rintro i m σ H ⟨rfl,hi,p⟩;have q:=hl i σ H hi p;by_cases d:i<xs.length
 ·refine .inr ⟨⟨xs,xs[i],q,by simp[d]⟩,Pv (i+1),λb H' k=>⟨xs.length - (i+1),by omega,Xb,d,k⟩,λx H' y=>?_⟩;obtain⟨e,y⟩:=y;subst e;exact j i x σ _ (y xs q) p
 ·have e:i=xs.length:=by omega
  subst e;exact .inl ⟨⟨xs,q,Gm _⟩,hd σ H p⟩
theorem Uz{lo:Int}(Pv:Nat->St->Hp->Prop)(f:Pv 0 σ H)
  (h:∀i σ H,i<n->Pv i σ H->g (.int (lo+i)) σ H λc H2=>tb {D with nx:=Pv (i+1),ct:=Pv (i+1),bk:=D.nx} c H2)(hd:∀σ H,Pv n σ H->D.nx σ H):
  ∃W:Nat->Nat->St->Hp->Prop,(∃m,W 0 m σ H)/\∀i m σ H,W i m σ H->
   ((Itr lo n).stop i H/\D.nx σ H)\/((Itr lo n).go i H/\∃N:St->Hp->Prop,(∀b H',N b H'->∃d,d<m/\W (i+1) d b H')/\∀x H',(Itr lo n).yld i H x H'->g x σ H' λc H2=>tb {D with nx:=N,ct:=N,bk:=D.nx} c H2):=by
 refine⟨λi m σ H=>m=n - i/\i<=n/\Pv i σ H,⟨n,by simp,Gw _,f⟩,?_⟩;rintro i m σ H ⟨rfl,hi,p⟩;by_cases a:i<n
 ·refine .inr ⟨a,Pv (i+1),λb H' j=>⟨n - (i+1),by omega,Xb,a,j⟩,λx H' y=>?_⟩;obtain⟨e,y⟩:=y;subst e y;exact h i σ _ a p
 ·have e:i=n:=by omega
  subst e;exact .inl ⟨Gm _,hd σ H p⟩
abbrev R2:=V->V->Hp->VK->Prop
variable{r:R2}
def O6(X:Cx)(f:Value->Value->Bk Value)(r:R2):Prop:=
 ∀(zq:List (Gc×Eg))(s:Gk)(σ:St)(H:Hp)(x y:V)(v u:Value)(Q:VK),Inv X zq σ H s->RelV x v->RelV y u->r x y H Q->
  wpAny (GY X.prog X.w) X.A (f v u) (EP X zq σ Q) X.xe s
def UnR(X:Cx)(f:Value->Bk Value)(r:V->Hp->VK->Prop):Prop:=
 ∀(zq:List (Gc×Eg))(s:Gk)(σ:St)(H:Hp)(x:V)(v:Value)(Q:VK),Inv X zq σ H s->RelV x v->r x H Q->
  wpAny (GY X.prog X.w) X.A (f v) (EP X zq σ Q) X.xe s
def V9(X:Cx)(f:Value)(r:List V->Hp->VK->Prop):Prop:=
 ∀(zq:List (Gc×Eg))(s:Gk)(σ:St)(H:Hp)(xs:List V)(us:List Value)(Q:VK),Inv X zq σ H s->Zv xs us->r xs H Q->
  wpAny (GY X.prog X.w) X.A (call f us) (EP X zq σ Q) X.xe s
def Q4y(X:Cx)(r:V->Hp->(Bool->Hp->Prop)->Prop):Prop:=
 ∀(zq:List (Gc×Eg))(s:Gk)(σ:St)(H:Hp)(x:V)(v:Value)(Q:Bool->Hp->Prop),Inv X zq σ H s->RelV x v->r x H Q->
  wpAny (GY X.prog X.w) X.A (truthy v) (TP X zq σ Q) X.xe s
def tOp(r:R2)(ta tb:TE):TE:=λσ H Q=>ta σ H λx H1=>tb σ H1 λy H2=>r x y H2 Q
def tUn(r:V->Hp->VK->Prop)(ta:TE):TE:=λσ H Q=>ta σ H λx H1=>r x H1 Q
inductive iRI(C:Int->Int->Prop)(g:Int->Int->V)(x:V)(y:V)(H:Hp)(Q:VK):Prop
 |mk (i:_) (j:_) (h0:x=.int i) (h1:y=.int j) (h2:C i j) (h3:Q (g i j) H):iRI C g x y H Q
def rI(C:Int->Int->Prop)(g:Int->Int->V):R2:=λx y H Q=>iRI C g x y H Q
inductive Q3l(g:Int->Int->V)(x:V)(y:V)(H:Hp)(Q:VK):Prop
 |mk (i:_) (j:_) (h0:x=.int i) (h1:y=.int j) (h2:Q (g i j) H):Q3l g x y H Q
def rI0(g:Int->Int->V):R2:=λx y H Q=>Q3l g x y H Q
inductive iRU(g:Int->V)(x:V)(H:Hp)(Q:VK):Prop
 |mk (i:_) (h0:x=.int i) (h1:Q (g i) H):iRU g x H Q
def rU(g:Int->V):V->Hp->VK->Prop:=λx H Q=>iRU g x H Q
section
variable{X:Cx}{a b c:T3}{ta tb tc:TE}{pos:SX}
theorem Q1i(i:PE X a ta)(hb:PE X b tb){R:V->V->Hp->Prop}(I:Inv X zq σ H s)
  (h:ta σ H λx H1=>tb σ H1 λy H2=>R x y H2)
  (j:∀v u s2 x y H2,Inv X zq σ H2 s2->RelV x v->RelV y u->R x y H2->wpAny (GY X.prog X.w) X.A (f v u) Q X.xe s2):
  wpAny (GY X.prog X.w) X.A (eval a X.env) (λv c=>wpAny (GY X.prog X.w) X.A (eval b X.env) (λu d=>wpAny (GY X.prog X.w) X.A (f v u) Q X.xe d) X.xe c) X.xe s:=by
 refine Yq (i zq s σ H _ I h) λv s1⟨x,H1,e,m,k⟩=>?_;refine Yq (hb zq s1 σ H1 _ e k) λu s2⟨y,H2,g,n,l⟩=>?_;exact j v u s2 x y H2 g m n l
theorem Zo{c:Operator}(f:O6 X (binaryOp c) r)(e:PE X a ta)(hb:PE X b tb):PE X (.BinOp a c b pos) (tOp r ta tb):=by intro zq s σ H Q I h;exact wpAny_BinOp (Q1i e hb I h λv u s2 x y H2 d g i q=>f zq s2 σ H2 x y v u Q d g i q)
theorem Qbc{b:UnaryOp}{r:V->Hp->VK->Prop}(e:UnR X (unaryOp b) r)(d:PE X a ta):PE X (.UnaryOp b a pos) (tUn r ta):=by intro zq s σ H Q I h;exact UnaryOp_ (Yq (d zq s σ H _ I h) λv s1⟨x,H1,c,g,f⟩=>e zq s1 σ H1 x v Q c g f)
theorem opI{C:Int->Int->Prop}{g:Int->Int->Int}
  (rule:∀(i j:Int)(t u:Bj)(s:Gk)(Q:Value->Gk->Prop)(E:Value->Gk->Prop),C i j->Q (.int (g i j) s.toks) {s with toks:=s.toks+1}->wpAny (GY X.prog X.w) X.A (f (.int i t) (.int j u)) Q E s):
  O6 X f (rI C λi j=>.int (g i j)):=by
 intro zq s σ H x y v u Q I a b h;obtain⟨i,j,rfl,rfl,hc,q⟩:=h;obtain⟨t,rfl⟩:=a;obtain⟨t',rfl⟩:=b;exact rule i j t t' s _ _ hc ⟨.int (g i j),H,I.tok _,⟨_,Xb⟩,q⟩
theorem Q2l{g:Int->Int->Int}
  (rule:∀(i j:Int)(t u:Bj)(s:Gk)(Q:Value->Gk->Prop)(E:Value->Gk->Prop),Q (.int (g i j) s.toks) {s with toks:=s.toks+1}->wpAny (GY X.prog X.w) X.A (f (.int i t) (.int j u)) Q E s):
  O6 X f (rI0 λi j=>.int (g i j)):=by
 intro zq s σ H x y v u Q I a b h;obtain⟨i,j,rfl,rfl,q⟩:=h;obtain⟨t,rfl⟩:=a;obtain⟨t',rfl⟩:=b;exact rule i j t t' s _ _ ⟨.int (g i j),H,I.tok _,⟨_,Xb⟩,q⟩
theorem Qv4{g:Int->Int->Bool}
  (rule:∀(i j:Int)(t u:Bj)(s:Gk)(Q:Value->Gk->Prop)(E:Value->Gk->Prop),Q (.bool (g i j)) s->wpAny (GY X.prog X.w) X.A (f (.int i t) (.int j u)) Q E s):
  O6 X f (rI0 λi j=>.bl (g i j)):=by
 intro zq s σ H x y v u Q I a b h;obtain⟨i,j,rfl,rfl,q⟩:=h;obtain⟨t,rfl⟩:=a;obtain⟨t',rfl⟩:=b;exact rule i j t t' s _ _ ⟨.bl (g i j),H,I,Xb,q⟩
def Q22(i j:Int):Prop:=0<j/\j<1073741824
def Q5t(i j:Int):Prop:=0<=j/\j<=1000000/\i.natAbs<2^64
def Q1j(i j:Int):Prop:=(-(2^64)<i/\i<2^64)\/(-(2^64)<j/\j<2^64)
theorem Q1j.ok{i j:Int}(h:Q1j i j):IntMulOk i j:=by
 rcases h with⟨h1,h2⟩|⟨h1,h2⟩
 ·exact .of_left (Mm h1 h2)
 ·exact .of_right (Mm h1 h2)
theorem Qaq:O6 X (binaryOp .Add) (rI0 λi j=>.int (i+j)):=Q2l λ_ _ _ _ _ _ _ q=>add_int q
theorem Qc0:O6 X (binaryOp .Sub) (rI0 λi j=>.int (i - j)):=Q2l λ_ _ _ _ _ _ _ q=>sub_int q
theorem Qs7:O6 X (binaryOp .Mult) (rI Q1j λi j=>.int (i*j)):=opI λ_ _ _ _ _ _ _ hc q=>mul_int q hc.ok
theorem Wa:O6 X (binaryOp .FloorDiv) (rI Q22 λi j=>.int (i / j)):=opI λi j _ _ _ _ _ hc q=>by have h1:(0:Int)<j:=hc.1;have h2:j<1073741824:=hc.2;exact floordiv_int (by omega) (by rw[Int.fdiv_eq_ediv_of_nonneg i (by omega)];exact q) (.inl (SR (by omega)))
theorem Xz:O6 X (binaryOp .Mod) (rI (λ_ j=>0<j) λi j=>.int (i % j)):=opI λi j _ _ _ _ _ hc q=>by have h1:(0:Int)<j:=hc;exact mod_int' (by omega) (by rw[Int.fmod_eq_emod_of_nonneg i (by omega)];exact q)
theorem Qts:O6 X (binaryOp .Pow) (rI Q5t λi j=>.int (i^j.toNat)):=opI λ_ _ _ _ _ _ _ hc q=>pow_int_small hc.1 hc.2.1 hc.2.2 q
theorem unI{f:Value->Bk Value}{g:Int->Int}
  (rule:∀(i:Int)(t:Bj)(s:Gk)(Q:Value->Gk->Prop)(E:Value->Gk->Prop),Q (.int (g i) s.toks) {s with toks:=s.toks+1}->wpAny (GY X.prog X.w) X.A (f (.int i t)) Q E s):
  UnR X f (rU λi=>.int (g i)):=by
 intro zq s σ H x v Q I a h;obtain⟨i,rfl,q⟩:=h;obtain⟨t,rfl⟩:=a;exact rule i t s _ _ ⟨.int (g i),H,I.tok _,⟨_,Xb⟩,q⟩
theorem J1:UnR X (unaryOp .USub) (rU λi=>.int (-i)):=unI λ_ _ _ _ _ q=>neg_int q
end
def Q3j:V->V->Bool
 |.non,.non=>Gf|.non,.int _=>Gf|.int _,.non=>Gf|.non,.bl _=>Gf|.bl _,.non=>Gf|.non,.str _=>Gf|.str _,.non=>Gf
 |.int _,.int _=>Gf|.bl _,.bl _=>Gf|.str _,.str _=>Gf|.byt _,.byt _=>Gf
 |.int _,.str _=>Gf|.str _,.int _=>Gf|.bl _,.str _=>Gf|.str _,.bl _=>Gf
 |_,_=>Gq
def rEq:R2:=λx y H Q=>Q3j x y=Gf/\Q (.bl (decide (x=y))) H
def rNe:R2:=λx y H Q=>Q3j x y=Gf/\Q (.bl (!decide (x=y))) H
theorem Vv{i j:Int}:decide (V.int i=V.int j)=(i==j):=by rw[ED];simp
theorem Qt6{i j:Bool}:decide (V.bl i=V.bl j)=(i==j):=by rw[ED];simp
theorem Yh{i j:Ta}:decide (V.str i=V.str j)=(i==j):=by rw[ED];simp
theorem Qm1{i j:Array UInt8}:decide (V.byt i=V.byt j)=(i.toList==j.toList):=by rw[ED];cases i;cases j;simp
section
variable{X:Cx}{a b c:T3}{ta tb tc:TE}{pos:SX}
theorem Z8{Q:VK}{k a:Bool}(I:Inv X zq σ H s)(q:Q (.bl k) H)(e:k=a):EP X zq σ Q (.bool a) s:=by subst e;exact⟨.bl k,H,I,Xb,q⟩
theorem Wu:O6 X (Dm .Eq) rEq:=by
 intro zq s σ H x y v u Q I c a h;obtain⟨b,q⟩:=h;cases x with
 |non=>
  cases c;cases y with
  |non=>cases a;exact FU (Z8 I q (by simp))
  |bl j=>cases a;exact FX (Z8 I q (by simp))
  |int j=>obtain⟨t',rfl⟩:=a;exact Mn (Z8 I q (by simp))
  |str j=>obtain⟨t',rfl⟩:=a;exact Mo (Z8 I q (by simp))
  |_=>exact absurd (show Gq=Gf from b) Gx
 |bl i=>
  cases c;cases y with
  |non=>cases a;exact FZ (Z8 I q (by simp))
  |bl j=>cases a;exact eq_bool (Z8 I q Qt6)
  |str j=>obtain⟨t',rfl⟩:=a;exact Ma (Z8 I q (by simp))
  |_=>exact absurd (show Gq=Gf from b) Gx
 |int i=>
  obtain⟨t,rfl⟩:=c;cases y with
  |non=>cases a;exact Mq (Z8 I q (by simp))
  |int j=>obtain⟨t',rfl⟩:=a;exact eq_int (Z8 I q Vv)
  |str j=>obtain⟨t',rfl⟩:=a;exact Mr (Z8 I q (by simp))
  |_=>exact absurd (show Gq=Gf from b) Gx
 |str i=>
  obtain⟨t,rfl⟩:=c;cases y with
  |non=>cases a;exact Ms (Z8 I q (by simp))
  |bl j=>cases a;exact Mb (Z8 I q (by simp))
  |int j=>obtain⟨t',rfl⟩:=a;exact Mt (Z8 I q (by simp))
  |str j=>obtain⟨t',rfl⟩:=a;exact eq_str (Z8 I q Yh)
  |_=>exact absurd (show Gq=Gf from b) Gx
 |byt i=>
  obtain⟨t,rfl⟩:=c;cases y with
  |byt j=>obtain⟨t',rfl⟩:=a;exact RJ (Z8 I q Qm1)
  |_=>exact absurd (show Gq=Gf from b) Gx
 |_=>cases y<;>exact absurd (show Gq=Gf from b) Gx
theorem Ic:O6 X (Dm .NotEq) rNe:=by
 intro zq s σ H x y v u Q I c a h;obtain⟨b,q⟩:=h;cases x with
 |non=>
  cases c;cases y with
  |non=>cases a;exact Mc (Z8 I q (by simp))
  |bl j=>cases a;exact Md (Z8 I q (by simp))
  |int j=>obtain⟨t',rfl⟩:=a;exact Mu (Z8 I q (by simp))
  |str j=>obtain⟨t',rfl⟩:=a;exact Mv (Z8 I q (by simp))
  |_=>exact absurd (show Gq=Gf from b) Gx
 |bl i=>
  cases c;cases y with
  |non=>cases a;exact Me (Z8 I q (by simp))
  |bl j=>cases a;exact ne_bool (Z8 I q (congrArg not Qt6))
  |str j=>obtain⟨t',rfl⟩:=a;exact Mf (Z8 I q (by simp))
  |_=>exact absurd (show Gq=Gf from b) Gx
 |int i=>
  obtain⟨t,rfl⟩:=c;cases y with
  |non=>cases a;exact Mw (Z8 I q (by simp))
  |int j=>obtain⟨t',rfl⟩:=a;exact ne_int (Z8 I q (congrArg not Vv))
  |str j=>obtain⟨t',rfl⟩:=a;exact Mx (Z8 I q (by simp))
  |_=>exact absurd (show Gq=Gf from b) Gx
 |str i=>
  obtain⟨t,rfl⟩:=c;cases y with
  |non=>cases a;exact My (Z8 I q (by simp))
  |bl j=>cases a;exact Mg (Z8 I q (by simp))
  |int j=>obtain⟨t',rfl⟩:=a;exact Mz (Z8 I q (by simp))
  |str j=>obtain⟨t',rfl⟩:=a;exact ne_str (Z8 I q (congrArg not Yh))
  |_=>exact absurd (show Gq=Gf from b) Gx
 |byt i=>
  obtain⟨t,rfl⟩:=c;cases y with
  |byt j=>obtain⟨t',rfl⟩:=a;exact RK (Z8 I q (congrArg not Qm1))
  |_=>exact absurd (show Gq=Gf from b) Gx
 |_=>cases y<;>exact absurd (show Gq=Gf from b) Gx
theorem R9:O6 X (Dm .Lt) (rI0 λi j=>.bl (decide (i<j))):=Qv4 λ_ _ _ _ _ _ _ q=>lt_int q
theorem Qnu:O6 X (Dm .LtE) (rI0 λi j=>.bl (decide (i<=j))):=Qv4 λ_ _ _ _ _ _ _ q=>le_int q
theorem Qc4:O6 X (Dm .Gt) (rI0 λi j=>.bl (decide (j<i))):=Qv4 λ_ _ _ _ _ _ _ q=>gt_int q
theorem Q10:O6 X (Dm .GtE) (rI0 λi j=>.bl (decide (j<=i))):=Qv4 λ_ _ _ _ _ _ _ q=>ge_int q
theorem Q0y:O6 X (Dm .Is) (λx y H Q=>y=.non/\Q (.bl (decide (x=.non))) H):=by
 intro zq s σ H x y v u Q I a b h;obtain⟨rfl,q⟩:=h;cases b;refine Nr (Z8 I q ?_);cases x<;>first
  |(cases a;rfl)
  |(obtain⟨t,rfl⟩:=a;rfl)
theorem O3:O6 X (Dm .IsNot) (λx y H Q=>y=.non/\Q (.bl (!decide (x=.non))) H):=by
 intro zq s σ H x y v u Q I a b h;obtain⟨rfl,q⟩:=h;cases b;refine FJ (Z8 I q ?_);cases x<;>first
  |(cases a;rfl)
  |(obtain⟨t,rfl⟩:=a;rfl)
theorem Q3(b:T3)(h:op≠.In:=by decide)(h2:op≠.NotIn:=by decide):behindInMarks op b=Gq:=by
 have a:(op==Bc)=Gq:=by cases op<;>first|rfl|exact absurd rfl h
 have c:(op==Nq)=Gq:=by cases op<;>first|rfl|exact absurd rfl h2
 cases b<;>simp[behindInMarks,a,c]
theorem Qv9(f:O6 X (Dm op) r)(d:PE X a ta)(hb:PE X b tb)(e:behindInMarks op b=Gq):PE X (.Compare a [op] [b] pos) (tOp r ta tb):=by intro zq s σ H Q I h;exact wpAny_Compare1 (Q1i d hb I h λv u s2 x y H2 c g i q=>f zq s2 σ H2 x y v u Q c g i q) e
inductive Qrk(Q:Bool->Hp->Prop)(x:V)(H':Hp):Prop
 |mk (k:_) (h0:x=.bl k) (h1:Q k H'):Qrk Q x H'
def Qyf(t:TE):TT:=λσ H Q=>t σ H λx H'=>Qrk Q x H'
theorem Qr(m:O6 X (Dm op) r)(j:PE X a ta)(hb:PE X b tb)(l:behindInMarks op b=Gq):PT X (.Compare a [op] [b] pos) (Qyf (tOp r ta tb)):=by
 intro zq s σ H Q I h;refine La (Yq (j zq s σ H _ I h) λv s1⟨x,H1,f,q,n⟩=>Yq (hb zq s1 σ H1 _ f n) λu s2⟨y,H2,g,t,o⟩=>Yq (m zq s2 σ H2 x y v u _ g q t o) λc A⟨z,d,i,w,k,e,p⟩=>?_) l
 subst e;cases w;exact DZ ⟨d,i,p⟩
inductive Qn4(r':R2)(tc:TE)(σ:St)(Q:VK)(y:V)(z:V)(H3:Hp):Prop
 |mk (k:_) (h0:z=.bl k) (h1:(if k=Gf then tc σ H3 λw' H4=>r' y w' H4 Q else Q (.bl Gq) H3)):Qn4 r' tc σ Q y z H3
def Qzt(r b:R2)(ta tb tc:TE):TE:=λσ H Q=>ta σ H λx H1=>tb σ H1 λy H2=>r x y H2 λz a=>Qn4 b tc σ Q y z a
theorem Qq3{f:CmpOp}{m:R2}(F:O6 X (Dm op) r)(g:O6 X (Dm f) m)(D:PE X a ta)(hb:PE X b tb)(hc:PE X c tc)
  (E:lastMarks [op,f] [b,c]=Gq:=by with_unfolding_all rfl):PT X (.Compare a [op,f] [b,c] pos) (Qyf (Qzt r m ta tb tc)):=by
 intro zq s σ H Q I h;refine isTrue_chain (Yq (D zq s σ H _ I h) λv s1⟨x,H1,q,N,J⟩=>test_link (Yq (hb zq s1 σ H1 _ q J) λu s2⟨y,H2,t,n,K⟩=>Yq (F zq s2 σ H2 x y v u _ t N n K) λd S⟨z,i,j,O,k,e,l⟩=>?_)) E
 subst e;cases O;refine DZ ?_;cases k with
 |false=>obtain⟨V,B,G⟩:=l;cases B;exact ite_ff ⟨i,j,G⟩
 |true=>refine ite_tt (test_last (Yq (hc zq S σ i _ j l) λT s4⟨U,o,w,P,L⟩=>Yq (g zq s4 σ o y U u T _ w n P L) λd' Y⟨Z,p,A,R,W,C,M⟩=>?_));subst C;cases R;exact DZ ⟨p,A,M⟩
def Q3r(K:Gd)(x:V)(H:Hp)(k:Bool):Prop:=
 match x with
 |.non=>k=Gq
 |.bl b=>k=b
 |.int i=>k=(i !=0)
 |.str y=>y.length<=Gj/\k=((y.length:Int) !=0)
 |.byt y=>y.size<=Gj/\k=((y.size:Int) !=0)
 |.ref p=>(∃xs,Zd K H p xs/\k= !xs.isEmpty)\/(∃xs,Z2 K H p xs/\k= !xs.isEmpty)\/∃zw,H p=Ga (.dK zw)/\k= !zw.isEmpty
 |_=>False
theorem Qkz{κ:Type}{zw:List (κ×V)}{vs:List (κ×Value)}(r:KV zw vs):(!vs.isEmpty)= !zw.isEmpty:=by cases r<;>rfl
theorem Qcx{its:List Value}(r:Zv xs its):(!its.toArray.isEmpty)= !xs.isEmpty:=by cases r<;>simp
theorem Rl:(Gj:Nat)<2^63:=by rw[GQ];decide
theorem Qtr:Q4y X (λx H Q=>∃k,Q3r X.K x H k/\Q k H):=by
 intro zq s σ H x v Q I d h;obtain⟨k,e,q⟩:=h;have hl:=Rl;have j:Gj=16777216:=GQ;cases x with
 |non=>cases d;have a:k=Gq:=e;subst a;exact truthy_none ⟨H,I,q⟩
 |bl b=>cases d;have a:k=b:=e;subst a;exact DZ ⟨H,I,q⟩
 |int i=>obtain⟨t,rfl⟩:=d;have a:k=(i !=0):=e;subst a;exact NQ ⟨H,I,q⟩
 |str y=>obtain⟨t,rfl⟩:=d;obtain⟨g,a⟩:y.length<=Gj/\k=((y.length:Int) !=0):=e;subst a;exact NR (by lia) ⟨H,I.tok _,q⟩
 |byt y=>obtain⟨t,rfl⟩:=d;obtain⟨g,a⟩:y.size<=Gj/\k=((y.size:Int) !=0):=e;subst a;exact Nx (by lia) ⟨H,I.tok _,q⟩
 |ref p=>
  cases d;have a:(∃xs,Zd X.K H p xs/\k= !xs.isEmpty)\/(∃xs,Z2 X.K H p xs/\k= !xs.isEmpty)\/∃zw,H p=Ga (.dK zw)/\k= !zw.isEmpty:=e;rcases a with⟨xs,f,a⟩|⟨xs,f,a⟩|⟨zw,f,a⟩
  ·subst a;obtain⟨its,r,pl,hz⟩:=I.list f;have c:=r.length;exact wpAny_truthy_list pl.isList (by simp only[List.size_toArray];lia) ⟨H,I.tok _,by rw[Qcx r];exact q⟩
  ·subst a;obtain⟨its,r,pl,hz⟩:=I.tuple f;have c:=r.length;exact truthy_tuple pl (by simp only[List.size_toArray];lia) ⟨H,I.tok _,by rw[Qcx r];exact q⟩
  ·subst a;obtain⟨hz,hS,vs,r,m⟩:zw.length<=Gj/\(p==T9)=Gq/\∃vs,KV zw vs/\s.heap.DictOf (Ym X.prog X.w) p vs:=I.Zw p _ f;have c:zw.length=vs.length:=Gr r;exact wpAny_truthy_dict hS m (by lia) ⟨H,I.tok _,by rw[Qkz r];exact q⟩
 |_=>exact(show False from e).elim
theorem Qkn(d:PE X a ta)(e:∀b,isTrue a X.env b=(do let v<-b;standAt a.pos;holding [v] (truthy v))):
  PT X a (λσ H Q=>ta σ H λx H'=>∃k,Q3r X.K x H' k/\Q k H'):=by
 intro zq s σ H Q I h;exact M3 (Yq (d zq s σ H _ I h) λv s1⟨x,H1,c,g,f⟩=>Qtr zq s1 σ H1 x v Q c g f) (e _)
theorem Qk4:O6 X (binaryOp .Add) (λx y H Q=>∃i j,x=.str i/\y=.str j/\i.length+j.length<=Gj/\Q (.str (i++j)) H):=by intro zq s σ H x y v u Q I a b h;obtain⟨i,j,rfl,rfl,hz,q⟩:=h;obtain⟨t,rfl⟩:=a;obtain⟨t',rfl⟩:=b;exact add_str (λt' tk=>⟨.str (i++j),H,I.tok _,⟨_,Xb⟩,q⟩) hz
theorem vals1{x:V}(r:Zv [x] us):∃u,us=[u]/\RelV x u:=by
 cases r with
 |cons a b=>cases b;exact⟨_,Xb,a⟩
theorem vals2{x y:V}(r:Zv [x,y] us):∃u a,us=[u,a]/\RelV x u/\RelV y a:=by
 cases r with
 |cons b c=>
  cases c with
  |cons d e=>cases e;exact⟨_,_,Xb,b,d⟩
theorem Qu4:V9 X (.builtin "abs") (λxs H Q=>∃i,xs=[.int i]/\Q (.int (if i<0 then -i else i)) H):=by intro zq s σ H xs us Q I r h;obtain⟨i,rfl,q⟩:=h;obtain⟨u,rfl,t,rfl⟩:=vals1 r;exact call_abs_int λu tk=>⟨.int (if i<0 then -i else i),H,I.tok _,⟨_,Xb⟩,q⟩
theorem Qqa(hc:X.calm=Gf):V9 X (.builtin "min") (λxs H Q=>∃i j,xs=[.int i,.int j]/\Q (.int (if j<i then j else i)) H):=by
 intro zq s σ H xs us Q I r h;obtain⟨i,j,rfl,q⟩:=h;obtain⟨u,b,rfl,⟨t,rfl⟩,⟨t',rfl⟩⟩:=vals2 r;refine min_two_ints (I.ok.hd hc) λh' tk k=>⟨_,H,I.kept k,?_,q⟩;by_cases a:j<i
 ·rw[Gn a,Gn a];exact⟨_,Xb⟩
 ·rw[Gi a,Gi a];exact⟨_,Xb⟩
def Q49(K:Gd)(x:V)(H:Hp)(n:Nat):Prop:=
 match x with
 |.str y=>y.length<=Gj/\n=y.length
 |.byt y=>y.size<=Gj/\n=y.size
 |.ref p=>(∃xs,Zd K H p xs/\n=xs.length)\/∃xs,Z2 K H p xs/\n=xs.length
 |_=>False
theorem Xc:V9 X (.builtin "len") (λxs H Q=>∃x n,xs=[x]/\Q49 X.K x H n/\Q (.int n) H):=by
 intro zq s σ H xs us Q I r h;obtain⟨x,n,rfl,e,q⟩:=h;obtain⟨u,rfl,f⟩:=vals1 r;have hl:=Rl;have i:Gj=16777216:=GQ;cases x with
 |str y=>obtain⟨t,rfl⟩:=f;obtain⟨g,b⟩:y.length<=Gj/\n=y.length:=e;subst b;exact len_str (by omega) ⟨.int _,H,I.tok _,⟨_,Xb⟩,q⟩
 |byt y=>obtain⟨t,rfl⟩:=f;obtain⟨g,b⟩:y.size<=Gj/\n=y.size:=e;subst b;exact N9 (by omega) ⟨.int _,H,I.tok _,⟨_,Xb⟩,q⟩
 |ref p=>
  cases f;have b:(∃xs,Zd X.K H p xs/\n=xs.length)\/∃xs,Z2 X.K H p xs/\n=xs.length:=e;rcases b with⟨xs,c,b⟩|⟨xs,c,b⟩
  ·subst b;obtain⟨its,d,pl,hz⟩:=I.list c;have a:=d.length;exact Lq pl.isList (by simp only[List.size_toArray];omega) ⟨.int xs.length,H,I.tok _,⟨_,by simp only[List.size_toArray];rw[a]⟩,q⟩
  ·subst b;obtain⟨its,d,pl,hz⟩:=I.tuple c;have a:=d.length;exact len_tuple pl (by simp only[List.size_toArray];omega) ⟨.int xs.length,H,I.tok _,⟨_,by simp only[List.size_toArray];rw[a]⟩,q⟩
 |_=>exact(show False from e).elim
end
structure Qmo(h:Heap)(x dx C:Gc)(mA:Ta->Option Value):Prop where
 obj:h.get? x=Ga (DN C dx)
 ns:h.Ns1 dx mA
 ne:dx≠x
theorem Qo0{h:Heap}{dx:Gc}{mA:Ta->Option Value}(n:h.Ns1 dx mA):∃od,h.get? dx=Ga od/\∀name,Sg name od=Ga (mA name):=by
 obtain⟨o,es,ep,g,hd,d,_,f⟩:=n;refine⟨o,g,λname=>?_⟩;have e:=f name;unfold nsFind findBy at e;rw[<-Array.find?_toList]at e;unfold Sg;rw[hd];dsimp only;split
 ·rename_i y q
  rw[q]at e;exact congrArg Ga e
 ·rename_i q
  rw[q]at e;have a:es.toList.any (·.refKey)=Gq:=by rw[List.any_eq_false];intro y i;obtain⟨z,t,b⟩:=d y (Array.mem_toList_iff.mp i);simp[RL,b]
  have c:¬es.toList.any (·.refKey)=Gf:=by rw[a];exact Gx
  rw[Gi c];exact congrArg Ga e
theorem Qmo.look{h:Heap}{x dx:Gc}{mA:Ta->Option Value}(I:Qmo h x dx C mA):∃od,Be h x (DN C dx) C (Ga od)/\∀name,Sg name od=Ga (mA name):=
 let⟨od,ho,hl⟩:=Qo0 I.ns
 ⟨od,⟨I.obj,Xb,Xb,ho⟩,hl⟩
section
variable{prog:Gg}{w:Gs}{A:TL}{E:Value->Gk->Prop}{s:Gk}{K:Gd}{x dx C f:Gc}{mA:Ta->Option Value}{name:Ta}{v:Value}
theorem Qvp{a:Bool}(X:K.In s.heap)(I:Qmo s.heap x dx C mA)(d:Dp K C name=Gf)(e:Dx K C=Gf)
  (c:GJ K (.ref C) name=Ga Gh)(f:mA name=Ga v)(b:Fk v=Gf)(h:Q v {s with toks:=s.toks+1}):
  wpAny (GY prog w) A (getAttr (.ref x) name a) Q E s:=by
 obtain⟨od,J,hl⟩:=I.look;exact Rs X J (E8 d).1 (NG e c rfl (by rw[hl,f])) b h
theorem Qtv{Q:Value×List Value->Gk->Prop}(X:K.In s.heap)(I:Qmo s.heap x dx C mA)(a:Dp K C name=Gf)
  (b:GJ K (.ref C) name=Ga (Ga (.ref f)))(c:Ti K (.ref f)=Gf)(d:mA name=Gh)(h:Q (.ref f,[.ref x]) s):
  wpAny (GY prog w) A (getMethod (.ref x) name pl) Q E s:=by
 obtain⟨od,J,hl⟩:=I.look;exact RA X J (E8 a).1 (E8 a).2 b (Sh.mp c) (by show(Sg name od).map (·.isSome)=Ga Gq;rw[hl,d];rfl) h
theorem Qwb{ns:List Ta}{Q:Unit->Gk->Prop}(X:K.In s.heap)(I:Qmo s.heap x dx C mA)
  (n:GJ K (.ref C) "__setattr__"=Ga (Ga (.builtin "object.__setattr__")))(m:DM K C=Gf)(o:SY K C name=Ga Gh)(l:Dx K C=Gf)
  (hw:LU mA ns)(hsz:ns.length<=Gj)
  (h:∀h',Qmo h' x dx C (λy=>if y=name then Ga v else mA y)->Heap.SameBut dx s.heap h'->Q () {s with heap:=h',toks:=s.toks+2}):
  wpAny (GY prog w) A (setAttr (.ref x) name v) Q E s:=by
 obtain⟨od,J,hl⟩:=I.look;refine RB X J n (RM (s:={s with toks:=s.toks+1}) (r:=Gh) X J m o λb=>?_);obtain⟨q,hc,f⟩:=RN l;have p:s.heap.get? x=Ga ⟨.ref C,Ga dx,.plain,#[]⟩:=I.obj;refine Gb (Ge (Gb (Gb (wpAny_loadPart p (Gb (NS (s:={s with toks:=s.toks+1}) (NH X hc) ?_))))));rw[f];refine Ge (a:=Ga dx) (Gb (Ge (Gb ?_)));refine wpAny_nsSet1 (s:={s with toks:=s.toks+1}) I.ns λh' c d=>?_;obtain⟨t,k,j,i,g,e⟩:=c.count (RC name v hw);refine Gb (wpAny_lookBehind i (by rw[g];exact pastItsLine_dict (Tt e (by rw[List.length_cons];omega))) ?_);exact Ge (h _ ⟨(d.2 _ (Gp I.ne)).trans I.obj,c,I.ne⟩ d)
theorem Qut{R:M7->Gk->Prop}{vs:List Value}(X:K.In s.heap)(b:DX K C=Gf)
  (hi:GJ K (.ref C) "__init__"=Ga (Ga (.ref f)))(a:Bf K (.ref f)=Ga (.type "function"))
  (h:codeAny (GY prog w) (A.under (.builtin "type.__call__" ⟨.ref C::vs,kw⟩)) (.call (.ref f) ⟨.ref (s.heap.objs.size+1)::vs,kw⟩) (RO (s.heap.objs.size+1) R)
   {s with heap:=(s.heap.push Dk).push (DN C s.heap.objs.size)}):
  codeAny (GY prog w) A (.call (.ref C) ⟨vs,kw⟩) R s:=by
 obtain⟨c,g,d,t,os⟩:=s;exact RD (RP X b) (Ny X hi) (λself=>RZ X self a) (.inl Xb) h
end
def Yi(f:Ta)(v:V):List (Ta×V)->List (Ta×V)
 |[]=>[(f,v)]
 |(g,x)::r=>if g=f then(g,v)::r else(g,x)::Yi f v r
theorem Qbm(f g:Ta)(v:V):∀fs:List (Ta×V),(Yi f v fs).lookup g=if g=f then Ga v else fs.lookup g
 |[]=>by
  show List.lookup g [(f,v)]=_;by_cases h:g=f
  ·have hb:(g==f)=Gf:=Sh.mpr h;simp only[List.lookup,hb,Gn h]
  ·have hb:(g==f)=Gq:=DA.mpr h;simp only[List.lookup,hb,Gi h]
 |(k,x)::r=>by
  have b:=Qbm f g v r;rw[show Yi f v ((k,x)::r)=(if k=f then(k,v)::r else(k,x)::Yi f v r)from rfl];by_cases a:k=f
  ·rw[Gn a];by_cases h:g=k
   ·have hb:(g==k)=Gf:=Sh.mpr h;simp only[List.lookup,hb,Gn (h.trans a)]
   ·have hb:(g==k)=Gq:=DA.mpr h;simp only[List.lookup,hb,Gi (λe:g=f=>h (e.trans a.symm))]
  ·rw[Gi a];by_cases h:g=k
   ·have hb:(g==k)=Gf:=Sh.mpr h;simp only[List.lookup,hb,Gi (λe:g=f=>a (h.symm.trans e))]
   ·have hb:(g==k)=Gq:=DA.mpr h;simp only[List.lookup,hb];exact b
theorem Qal(f:Ta)(v:V):∀fs:List (Ta×V),f∈(Yi f v fs).map (·.1)/\∀g,g∈fs.map (·.1)->g∈(Yi f v fs).map (·.1)
 |[]=>⟨by simp[Yi],λg h=>by simp at h⟩
 |(k,x)::r=>by
  obtain⟨i1,i2⟩:=Qal f v r;rw[show Yi f v ((k,x)::r)=(if k=f then(k,v)::r else(k,x)::Yi f v r)from rfl];by_cases a:k=f
  ·rw[Gn a];subst a;exact⟨by simp,λg h=>by simpa using h⟩
  ·rw[Gi a];refine⟨?_,λg h=>?_⟩
   ·rw[List.map_cons];exact List.mem_cons_of_mem _ i1
   ·rw[List.map_cons]at h⊢;rcases List.mem_cons.mp h with e|e
    ·exact List.mem_cons.mpr (.inl e)
    ·exact List.mem_cons_of_mem _ (i2 g e)
theorem Qbr(f:Ta)(v:V):∀fs:List (Ta×V),(Yi f v fs).length<=fs.length+1
 |[]=>by simp[Yi]
 |(k,x)::r=>by
  have b:=Qbr f v r;rw[show Yi f v ((k,x)::r)=(if k=f then(k,v)::r else(k,x)::Yi f v r)from rfl];by_cases a:k=f
  ·rw[Gn a,List.length_cons,List.length_cons];lia
  ·rw[Gi a,List.length_cons,List.length_cons];lia
theorem Ia.some_of{o:Option Value}(r:Ia (Ga v) o):∃u,o=Ga u/\RelV v u:=by
 cases o with
 |none=>exact(show False from r).elim
 |some u=>exact⟨u,Xb,r⟩
theorem Ia.none_of{o:Option Value}(r:Ia Gh o):o=Gh:=by
 cases o with
 |none=>rfl
 |some u=>exact(show False from r).elim
theorem Qow(r:RelV v u):Fk u=Gf:=by
 cases v with
 |non=>cases(show u=Value.none from r);rfl
 |bl b=>cases(show u=Value.bool b from r);rfl
 |int i=>obtain⟨t,e⟩:=(show∃t,u=Value.int i t from r);cases e;rfl
 |str x=>obtain⟨t,e⟩:=(show∃t,u=Value.str x t from r);cases e;rfl
 |byt b=>obtain⟨t,e⟩:=(show∃t,u=Value.bytes b t from r);cases e;rfl
 |flt b=>obtain⟨t,e⟩:=(show∃t,u=Value.float b t from r);cases e;rfl
 |ref a=>cases(show u=Value.ref a from r);rfl
 |ty n=>cases(show u=Value.type n from r);rfl
section
variable{P:Gg}{w:Gs}{H H':Hp}{h h':Heap}{a C dx:Gc}{fs fs':List (Ta×V)}
theorem Qb6(Zw:Re P w H h)(e:H a=Ga (.ins C dx fs)):∃mA,Qmo h a dx C mA/\(∀f,Ia (fs.lookup f) (mA f))/\LU mA (fs.map (·.1))/\fs.length<=1000/\H dx=Ga (.own a):=by obtain⟨d,z,ne,ob,mA,n,r,q⟩:=(show Z3 P w H h a (.ins C dx fs)from Zw a _ e);exact⟨mA,⟨ob,n,ne⟩,r,q,z,d⟩
end
structure Cls(K:Gd)(C:Gc):Prop where
 pg:Dp K C Eo=Gf
 hd:Dx K C=Gf
 po:DM K C=Gf
 sa:GJ K (.ref C) "__setattr__"=Ga (Ga (.builtin "object.__setattr__"))
theorem Cls.get(c:Cls K C)(f:Ta):Dp K C f=Gf:=c.pg
def Yp(K:Gd)(C:Gc)(f:Ta):Prop:=GJ K (.ref C) f=Ga Gh
theorem Yp.Q2e{f:Ta}(n:Yp K C f):SY K C f=Ga Gh:=by unfold SY;rw[show GJ K (.ref C) f=Ga Gh from n];rfl
structure Z9(K:Gd)(C:Gc)(m:Ta)(f:Gc):Prop where
 at_:GJ K (.ref C) m=Ga (Ga (.ref f))
 fn:Ti K (.ref f)=Gf
 kp:TY K (.ref f)=Gf
section
variable{X:Cx}{zq:List (Gc×Eg)}{σ:St}{H:Hp}{s:Gk}{a C dx:Gc}{fs:List (Ta×V)}{f:Ta}{v:V}{A:TL}{E:Value->Gk->Prop}
theorem Qlt{b:Bool}(I:Inv X zq σ H s)(e:H a=Ga (.ins C dx fs))(c:Cls X.K C)(n:Yp X.K C f)(l:fs.lookup f=Ga v)
  (h:∀u s',Inv X zq σ H s'->RelV v u->Q u s'):wpAny (GY X.prog X.w) A (getAttr (.ref a) f b) Q E s:=by
 obtain⟨mA,O,r,_,_,_⟩:=Qb6 I.Zw e;obtain⟨u,g,d⟩:=Ia.some_of (v:=v) (o:=mA f) (by rw[<-l];exact r f);exact Qvp I.Jt O (c.get f) c.hd n g (Qow d) (h u _ (I.tok _) d)
theorem Ru{m:Ta}{g:Gc}{Q:Value×List Value->Gk->Prop}(I:Inv X zq σ H s)(e:H a=Ga (.ins C dx fs))(c:Cls X.K C)(k:Z9 X.K C m g)(l:fs.lookup m=Gh)
  (h:Q (.ref g,[.ref a]) s):wpAny (GY X.prog X.w) A (getMethod (.ref a) m pl) Q E s:=by
 obtain⟨mA,O,r,_,_,_⟩:=Qb6 I.Zw e;have b:mA m=Gh:=Ia.none_of (by rw[<-l];exact r m);exact Qtv I.Jt O (c.get m) k.at_ k.fn b h
theorem Qkt{y:V}{Q:Unit->Gk->Prop}(I:Inv X zq σ H s)(e:H a=Ga (.ins C dx fs))(c:Cls X.K C)(n:Yp X.K C f)(hl:fs.length<1000)(k:RelV y u)
  (h:∀s',Inv X zq σ (zj H a (.ins C dx (Yi f y fs))) s'->Q () s'):wpAny (GY X.prog X.w) A (setAttr (.ref a) f u) Q E s:=by
 obtain⟨mA,O,r,wi,_,i⟩:=Qb6 I.Zw e;have hz:(fs.map (·.1)).length<=Gj:=by rw[List.length_map,GQ];omega
 refine Qwb I.Jt O c.sa c.po n.Q2e c.hd wi hz λh' d l=>h _ ?_;have hd:∃o,h'.get? dx=Ga o:=let⟨o,_,_,e',_⟩:=d.ns;⟨o,e'⟩;refine I.write (x:=a) (e:=dx) (by rw[e];exact TC) (.inr i) (λb q hb z=>(l.2 b hb).trans z) hd ?_;refine⟨by rw[Qf O.ne];exact i,?_,O.ne,d.obj,_,d.ns,λg=>?_,λg j=>?_⟩
 ·have:=Qbr f y fs;omega
 ·show Ia ((Yi f y fs).lookup g) (if g=f then Ga u else mA g);rw[Qbm];by_cases q:g=f
  ·rw[Gn q,Gn q];exact k
  ·rw[Gi q,Gi q];exact r g
 ·by_cases q:g=f
  ·rw[q];exact(Qal f y fs).1
  ·refine(Qal f y fs).2 g (wi g λz=>j ?_);show(if g=f then Ga u else mA g)=Gh;rw[Gi q];exact z
theorem Inv.made(I:Inv X zq σ H s):Inv X zq σ (zj (zj H s.heap.objs.size (.own (s.heap.objs.size+1))) (s.heap.objs.size+1) (.ins C s.heap.objs.size []))
  {s with heap:=(s.heap.push Dk).push (DN C s.heap.objs.size)}:=by
 have c:(s.heap.push Dk).get? s.heap.objs.size=Ga Dk:=Heap.get?_push_size s.heap rfl;have f:((s.heap.push Dk).push (DN C s.heap.objs.size)).get? (s.heap.objs.size+1)=Ga (DN C s.heap.objs.size):=by have:=Heap.get?_push_size (s.heap.push Dk) (o:=DN C s.heap.objs.size) rfl;rwa[Heap.size_push]at this
 have g:(s.heap.push Dk).Ns s.heap.objs.size (λ_=>Gh):=⟨Dk,#[],_,c,Xb,(λe h=>absurd h (by simp)),λ_=>rfl⟩;have d:=I.laid (a:=s.heap.objs.size) (o:=.own (s.heap.objs.size+1)) (h':=s.heap.push Dk) (t':=s.toks) (λb u q=>Heap.get?_push_of_some _ q) (Gm _) ⟨_,c⟩;refine d.laid (a:=s.heap.objs.size+1) (o:=.ins C s.heap.objs.size []) (t':=s.toks) (λb u q=>Heap.get?_push_of_some _ q) (Sa (Heap.size_push _ _)) ?_;have ne:s.heap.objs.size≠s.heap.objs.size+1:=Td (DC _);refine⟨by rw[Qf ne,Qb],Gw _,ne,f,λ_=>Gh,(Heap.Ns1.of_empty g).at λo q=>Heap.get?_push_of_some _ q,λ_=>TC,λy i=>absurd rfl i⟩
theorem Qw4{prog:Gg}{env:LR}{f:Ta}{s:Gk}(hb:attributeBase e f env (eval e env)=eval e env)
  (h:wpAny (GY prog w) A (eval e env) (λo a=>wpAny (GY prog w) A (getAttr o f Gf) Q E a) E s):wpAny (GY prog w) A (eval (.Attribute e f pos) env) Q E s:=
 Attribute_any_ h (by rw[arm_eval_Attribute,hb])
end
inductive Qyc(K:Gd)(f:Ta)(Q:VK)(x:V)(H1:Hp):Prop
 |mk (a:_) (C:_) (dx:_) (fs:_) (v:_) (h0:x=.ref a) (h1:H1 a=Ga (.ins C dx fs)) (h2:Cls K C) (h3:Yp K C f) (h4:fs.lookup f=Ga v) (h5:Q v H1):Qyc K f Q x H1
def Qwa(K:Gd)(ta:TE)(f:Ta):TE:=λσ H Q=>ta σ H λx H1=>Qyc K f Q x H1
inductive Qyp(K:Gd)(f:Ta)(D:Ends)(σ:St)(y:V)(x:V)(H2:Hp):Prop
 |mk (a:_) (C:_) (dx:_) (fs:_) (h0:x=.ref a) (h1:H2 a=Ga (.ins C dx fs)) (h2:Cls K C) (h3:Yp K C f) (h4:fs.length<1000) (h5:D.nx σ (zj H2 a (.ins C dx (Yi f y fs)))):Qyp K f D σ y x H2
def Q5l(K:Gd)(ta tv:TE)(f:Ta):TS:=λD σ H=>tv σ H λy H1=>ta σ H1 λx H2=>Qyp K f D σ y x H2
section
variable{X:Cx}{o e value:T3}{f:Ta}{pos pos' tpos:SX}{ta tv:TE}
theorem Qn(g:PE X e ta)(hb:attributeBase e f X.env (eval e X.env)=eval e X.env):PE X (.Attribute e f pos) (Qwa X.K ta f):=by intro zq s σ H Q I h;refine Qw4 hb (Yq (g zq s σ H _ I h) λu s1⟨x,H1,b,j,a,C,dx,fs,v,ex,ea,c,n,l,q⟩=>?_);subst ex;obtain rfl:u=Value.ref a:=j;exact Qlt b ea c n l λk s2 d i=>⟨v,H1,d,i,q⟩
theorem Yw(g:PE X o ta)(j:PE X value tv)(i:swapsWith value (Ga (.Attribute o f pos')) pos.line X.env=pure Gq):PS X (.Assign [.Attribute o f pos'] value pos) (Q5l X.K ta tv f):=by intro zq s σ H D I h;refine plainObj_wpAny_Assign_Attribute (Yq (j zq s σ H _ I h) λu s1⟨y,H1,b,p,q⟩=>Yq (g zq s1 σ H1 _ b q) λov s2⟨x,H2,d,m,a,C,dx,fs,ex,ea,c,n,l,k⟩=>?_) i;subst ex;obtain rfl:ov=Value.ref a:=m;exact Qkt d ea c n l p λr e=>⟨σ,_,e,k⟩
theorem Qzc{m:Ta}{apos:SX}{args:List T3}(d:PE X e te)(I:Inv X zq σ H s)
  (h:te σ H λx H1=>∃a C dx fs g,x=.ref a/\H1 a=Ga (.ins C dx fs)/\Cls X.K C/\Z9 X.K C m g/\fs.lookup m=Gh/\
   ∀s1,Inv X zq σ H1 s1->wpAny (GY X.prog X.w) X.A (callWith pos (.ref g) [.ref a] (DQ pos (Te args X.env)) (backToKw pos (keywordEach [] X.env))) Q X.xe s1)
  (i:eval (.Call (.Attribute e m apos) args [] pos) X.env=(do
   let ov<-eval e X.env
   standAt apos.atName
   let(f,first)<-holding [ov] (getMethod ov m pl)
   callWith pos f first (DQ pos (Te args X.env)) (backToKw pos (keywordEach [] X.env)))):
  wpAny (GY X.prog X.w) X.A (eval (.Call (.Attribute e m apos) args [] pos) X.env) Q X.xe s:=by
 refine EN (pl:=pl) (Yq (d zq s σ H _ I h) λu s1⟨x,H1,b,j,a,C,dx,fs,g,ex,ea,c,k,l,q⟩=>?_) i;subst ex;obtain rfl:u=Value.ref a:=j;exact Ru b ea c k l (q s1 b)
end
section
variable{X:Cx}{zq:List (Gc×Eg)}{σ:St}{H:Hp}{s:Gk}{A:TL}{E:Value->Gk->Prop}{Q:Value->Gk->Prop}{c:Value}{b:Bool}
inductive I9(K:Gd)(H:Hp):V->Value->Prop where
 |non:I9 K H .non (.type "NoneType")
 |bl (x:Bool):I9 K H (.bl x) (.type "bool")
 |int (i:Int):I9 K H (.int i) (.type "int")
 |str (x:Ta):I9 K H (.str x) (.type "str")
 |flt (x:UInt64):I9 K H (.flt x) (.type "float")
 |lst {a:Gc} {xs:List V} (e:H a=Ga (.lst xs)):I9 K H (.ref a) (.type "list")
 |frz {a:Gc} {o:Eg} {xs:List V} (e:H a=Ga (.frz o (.lst xs))):I9 K H (.ref a) (.type "list")
 |tup {a:Gc} {xs:List V} (e:H a=Ga (.tup xs)):I9 K H (.ref a) (.type "tuple")
 |dK {a:Gc} {zw:List (Xv×V)} (e:H a=Ga (.dK zw)):I9 K H (.ref a) (.type "dict")
 |dT {a:Gc} {zw:List (List Xv×V)} (e:H a=Ga (.dT zw)):I9 K H (.ref a) (.type "dict")
 |ins {a C dx:Gc} {fs:List (Ta×V)} (e:H a=Ga (.ins C dx fs)) (cl:Cls K C) (ha:GJ K (.ref C) "__class__"=Ga (Ga (.builtin "object.__class__")))
   (hn:RE K (.builtin "object.__class__") "__get__"=Ga (Ga (.builtin "getset_descriptor.__get__"))) (htk:Ba K (.builtin "object.__class__")=Ga Gf)
   (hm:Bh K C (.type "object")=Ga Gf):I9 K H (.ref a) (.ref C)
theorem Qpp{x:V}{t:Value}(I:Inv X zq σ H s)(d:RelV x u)(ty:I9 X.K H x t)(e:Tf X.K t c=Ga b)(h:∀tk,Q (.bool b) {s with toks:=tk}):
  wpAny (GY X.prog X.w) A (call (.builtin "isinstance") [u,c]) Q E s:=by
 cases ty with
 |non=>cases(show u=Value.none from d);exact De LW I.Jt TC e nofun h
 |bl y=>cases(show u=Value.bool y from d);exact De LX I.Jt TC e nofun h
 |int i=>obtain⟨t,q⟩:=(show∃t,u=Value.int i t from d);cases q;exact De Fl I.Jt TC e nofun h
 |str y=>obtain⟨t,q⟩:=(show∃t,u=Value.str y t from d);cases q;exact De Fn I.Jt TC e nofun h
 |flt y=>obtain⟨t,q⟩:=(show∃t,u=Value.float y t from d);cases q;exact De LI I.Jt TC e nofun h
 |@lst a xs ea=>cases(show u=Value.ref a from d);obtain⟨_,_,n,_,h1⟩:=(show Z3 X.prog X.w H s.heap a (.lst xs)from I.Zw a _ ea);exact De EH I.Jt ⟨_,h1,Xb⟩ e nofun h
 |@frz a ob xs ea=>cases(show u=Value.ref a from d);obtain⟨_,_,_,n,_,h1⟩:=(show Z3 X.prog X.w H s.heap a (.frz ob (.lst xs))from I.Zw a _ ea);exact De EH I.Jt ⟨_,h1,Xb⟩ e nofun h
 |@tup a xs ea=>cases(show u=Value.ref a from d);obtain⟨_,_,_,p⟩:=(show Z3 X.prog X.w H s.heap a (.tup xs)from I.Zw a _ ea);obtain⟨o,h1,h2,_⟩:=p;exact De LJ I.Jt ⟨o,h1,h2⟩ e nofun h
 |@dK a zw ea=>cases(show u=Value.ref a from d);obtain⟨_,_,vs,_,p⟩:=(show Z3 X.prog X.w H s.heap a (.dK zw)from I.Zw a _ ea);obtain⟨o,es,ep,h1,h2,_⟩:=p;exact De EI I.Jt ⟨o,h1,h2.1⟩ e nofun h
 |@dT a zw ea=>cases(show u=Value.ref a from d);obtain⟨_,_,xs,_,o,es,ep,h1,h2,_⟩:=(show Z3 X.prog X.w H s.heap a (.dT zw)from I.Zw a _ ea);exact De EI I.Jt ⟨o,h1,h2.1⟩ e nofun h
 |@ins a C dx fs ea cl g k f j=>cases(show u=Value.ref a from d);obtain⟨mA,O,_⟩:=Qb6 I.Zw ea;obtain⟨od,J,_⟩:=O.look;exact De (RQ (cl.get _) cl.hd g k f j) I.Jt J e nofun h
end
structure Yb(k:Nat)(A:TL):Prop where
 hd:A.handled=Gh
 dp:A.depth+3*k+5<recursionLimit
 un:A.units+16*k+200<DR
variable{Q:VK}
theorem Yb.mono{j:Nat}(r:Yb k A)(h:j<=k):Yb j A:=⟨r.hd,by have:=r.dp;lia,by have:=r.un;lia⟩
theorem Yb.deeper{k:Nat}{A:TL}(r:Yb (k+1) A)(env:LR):Yb k (A.deeper env):=
 ⟨r.hd,by have:=r.dp;show A.depth+1+3*k+5<_;lia,by have:=r.un;show A.units+3+16*k+200<_;lia⟩
theorem Qkw:(A.under (.builtin "type.__call__" ⟨.ref C::us,kw⟩)).depth=A.depth+1:=by first|rfl|simp[LY,Code.weight,Code.isCreation,Code.isGuard,Code.isCaller,Nz,LZ,guardIds]
theorem Qmd:(A.under (.builtin "type.__call__" ⟨.ref C::us,kw⟩)).units=A.units+1:=by first|rfl|simp[LY,Code.cUnits,Nz,LZ]
theorem Yb.make(r:Yb (k+1) A)(C:Gc)(us:List Value)(a:List (Ta×Value)):Yb k (A.under (.builtin "type.__call__" ⟨.ref C::us,a⟩)):=
 ⟨r.hd,by have:=r.dp;rw[Qkw];omega,by have:=r.un;rw[Qmd];omega⟩
theorem Yb.depth{k:Nat}{A:TL}(r:Yb k A):A.depth<recursionLimit:=by have:=r.dp;omega
theorem Yb.units{k:Nat}{A:TL}(r:Yb k A):A.units+64<DR:=by have:=r.un;lia
def Qp7:TA:=λ_ H Q=>Q [] H
def Qe7(ta:TE)(a:TA):TA:=λσ H Q=>ta σ H λx H1=>a σ H1 λxs H2=>Q (x::xs) H2
section
variable{X:Cx}{e:T3}{es:List T3}{te:TE}{t:TA}{pos:SX}
theorem Qe:PA X [] Qp7:=λ_ _ _ _ H Q I h=>EJ ⟨[],H,I,.nil,h⟩
theorem Qa(c:PE X e te)(d:PA X es t)(f:Te (e::es) X.env=(Gq,eval e X.env)::Te es X.env:=by rfl):PA X (e::es) (Qe7 te t):=by intro pos zq s σ H Q I h;rw[f];show wpAny _ _ (spliced ((Gq,eval e X.env)::DQ pos (Te es X.env))) _ _ s;refine Si (Yq (c zq s σ H _ I h) λu s1⟨x,H1,a,j,g⟩=>?_);exact Yq (d pos zq s1 σ H1 _ a g) λus s2⟨xs,H2,b,k,i⟩=>⟨x::xs,H2,b,.cons j k,i⟩
def Q4f(t:TA):TE:=λσ H Q=>t σ H λxs H1=>xs.length<=Gj/\∀p,H1 p=Gh->Q (.ref p) (zj H1 p (.tup xs))
def Q4w(t:TA):TE:=λσ H Q=>t σ H λxs H1=>xs.length<=Gj/\∀p,H1 p=Gh->Q (.ref p) (zj H1 p (.lst xs))
theorem Zb{f}(h:PA X es t):PE X (.Tuple es f pos) (Q4f t):=by intro zq s σ H Q I d;refine wpAny_Tuple_spliced (Yq (h pos zq s σ H _ I d) λus s1⟨xs,H1,a,r,z,q⟩=>⟨by rw[<-r.length];exact z,?_⟩);have c:H1 s1.heap.objs.size=Gh:=a.Zw.fresh (Gm _);refine⟨.ref s1.heap.objs.size,zj H1 s1.heap.objs.size (.tup xs),a.laid (t':=s1.toks) (λb u e=>Heap.get?_push_of_some _ e) (Gm _) ?_,Xb,q _ c⟩;exact⟨z,us,r,⟨_,Heap.get?_push_size _ Xb,Xb,_,Xb⟩⟩
theorem Zt(h:PA X es t):PE X (.List es pos) (Q4w t):=by intro zq s σ H Q I d;refine wpAny_List_spliced (Yq (h pos zq s σ H _ I d) λus s1⟨xs,H1,a,r,z,q⟩=>⟨by rw[<-r.length];exact z,?_⟩);have c:H1 s1.heap.objs.size=Gh:=a.Zw.fresh (Gm _);refine⟨.ref s1.heap.objs.size,zj H1 s1.heap.objs.size (.lst xs),a.laid (t':=s1.toks) (λb u e=>Heap.get?_push_of_some _ e) (Gm _) ?_,Xb,q _ c⟩;exact⟨z,us,0,r,Heap.get?_push_size _ Xb⟩
end
abbrev Sp:=List V->Hp->VK->XK->Prop
abbrev CXT:=List LR->Hp->Gk->XK->Value->Gk->Prop
structure Qlu(P:Gg)(w:Gs)(K:Gd)(mg:Ta->Option Value)(base:Heap)(A:TL)(outer:List LR)(s:Gk)(H:Hp):Prop where
 frames:A.frames=Ga outer
 mod:Mod K mg base
 bs:∀b o,base.get? b=Ga o->s.heap.get? b=Ga o/\H b=Gh
 bsz:base.objs.size<=s.heap.objs.size
 Qbu:s.heap.FunFrames base outer
 frf:∀b∈frs outer,H b=Gh
 Zw:Re P w H s.heap
 bare:Ss s.gens
def CE(outer:List LR)(P:Gg)(w:Gs)(H:Hp)(s:Gk)(Q:VK)(u:Value)(s':Gk):Prop:=
 ∃v H',s'.os=s.os/\Ss s'.gens/\Un (frs outer) [] H H' s.heap s'.heap/\Re P w H' s'.heap/\RelV v u/\Q v H'
def CR(CX:CXT)(outer:List LR)(P:Gg)(w:Gs)(H:Hp)(s:Gk)(Q:VK)(E:XK)(r:M7)(s':Gk):Prop:=
 match r with
 |.ok (.ret u)=>CE outer P w H s Q u s'
 |.ok _=>False
 |.error e=>CX outer H s E e s'
structure Qs(P:Gg)(w:Gs)(K:Gd)(mg:Ta->Option Value)(base:Heap)(CX:CXT)(k:Nat)(f:Gc)(fd:Ts)(ps:List Ta)(sp:Sp):Prop where
 len:∀vs H Q E,sp vs H Q E->vs.length=ps.length
 run:∀(A:TL)(outer:List LR)(s:Gk)(H:Hp)(args:Args)(us:List Value)(vs:List V)(Q:VK)(E:XK),Yb k A->Qlu P w K mg base A outer s H->L1 s fd args (ps.zip us)->Zv vs us->sp vs H Q E->
  codeAny (GY P w) A (.call (.ref f) args) (CR CX outer P w H s Q E) s
theorem Qlu.make{base:Heap}{outer:List LR}(e:Qlu P w K mg base A outer s H)(C:Gc)(us:List Value)(a:List (Ta×Value)):
  Qlu P w K mg base (A.under (.builtin "type.__call__" ⟨.ref C::us,a⟩)) outer s H:=⟨by first|exact e.frames|(simpa[LY,Code.envs,LZ,pushEnvs]using e.frames),e.mod,e.bs,e.bsz,e.Qbu,e.frf,e.Zw,e.bare⟩
section
variable{X:Cx}{zq:List (Gc×Eg)}{σ:St}{H:Hp}{s s':Gk}
theorem Inv.Q24(I:Inv X zq σ H s):Qlu X.prog X.w X.K X.mg X.base X.A X.stack s H:=
 ⟨I.ok.frames,I.ok.mod,I.bs,Tt I.ok.bsz I.sz,I.stack,I.Qn7,I.Zw,I.bare⟩
theorem Inv.after(I:Inv X zq σ H s)(h:CE X.stack X.prog X.w H s Q u s'):EP X zq σ Q u s':=by obtain⟨v,H',os,bare,un,Zw,r,q⟩:=h;obtain⟨c,g,d,t,a⟩:=s';obtain rfl:a=s.os:=os;exact⟨v,H',I.call (h':=c) (g':=g) (d':=d) (t':=t) (ch:=[]) un Zw bare (λb z=>absurd z (by simp)),r,q⟩
end
def Q19(sp:Sp)(dvs:List V)(E:XK)(t:TA):TE:=λσ H Q=>t σ H λvs H1=>sp (vs++dvs) H1 Q E
inductive Qub(C:Gc)(m:Ta)(sp:Sp)(dvs:List V)(E:XK)(t:TA)(σ:St)(Q:VK)(x:V)(H1:Hp):Prop
 |mk (a:_) (dx:_) (fs:_) (h0:x=.ref a) (h1:H1 a=Ga (.ins C dx fs)) (h2:fs.lookup m=Gh) (h3:t σ H1 λvs H2=>sp (x::(vs++dvs)) H2 Q E):Qub C m sp dvs E t σ Q x H1
def Qjt(C:Gc)(m:Ta)(sp:Sp)(dvs:List V)(E:XK)(ta:TE)(t:TA):TE:=λσ H Q=>ta σ H λx H1=>Qub C m sp dvs E t σ Q x H1
def Qy4(C:Gc)(sp:Sp)(dvs:List V)(E:XK)(t:TA):TE:=λσ H Q=>t σ H λvs H1=>∀x dx,H1 x=Gh->H1 dx=Gh->dx≠x->
 sp (.ref x::(vs++dvs)) (zj (zj H1 dx (.own x)) x (.ins C dx [])) (λv H2=>v=.non/\Q (.ref x) H2) E
def Binds(K:Gd)(fd:Ts)(ps:List Ta)(ds:List Value):Prop:=
 ∀(s:Gk)(us:List Value),K.In s.heap->(us++ds).length=ps.length->L1 s fd ⟨us,[]⟩ (ps.zip (us++ds))
theorem Binds.all{fd:Ts}(h:∀us:List Value,us.length=ps.length->bindArgs fd ⟨us,[]⟩=pure (ps.zip us)):Binds K fd ps []:=λs us _ hl=>by rw[List.append_nil]at hl⊢;exact .of_eq (h us hl)
def Ij(CX:CXT)(X:Cx)(E:XK):Prop:=∀(zq:List (Gc×Eg))(σ:St)(H:Hp)(s:Gk)(e:Value)(s':Gk),Inv X zq σ H s->CX X.stack H s E e s'->X.xe e s'
section
variable{X:Cx}{CX:CXT}{k:Nat}{f C:Gc}{fd:Ts}{ps:List Ta}{sp:Sp}{dvs:List V}{ds:List Value}{E:XK}{x m:Ta}{p pos apos:SX}{e o:T3}{es:List T3}{ta:TE}{t:TA}
theorem Qmj(F:Qs X.prog X.w X.K X.mg X.base CX k f fd ps sp)(d:Yb k X.A)(hb:Binds X.K fd ps ds)(hd:Zv dvs ds)(g:Ij CX X E)
  (I:Inv X zq σ H s)(r:Zv vs us)(h:sp (vs++dvs) H Q E):wpAny (GY X.prog X.w) X.A (call (.ref f) us) (EP X zq σ Q) X.xe s:=by
 have b:Zv (vs++dvs) (us++ds):=r.append hd;have hl:(us++ds).length=ps.length:=by rw[<-b.length];exact F.len _ _ _ _ h
 refine NT (SS (F.run X.A X.stack s H ⟨us,[]⟩ (us++ds) (vs++dvs) Q E d I.Q24 (hb s us I.Jt hl) b h) λr s' a=>?_);cases r with
 |error e=>exact g zq σ H s e s' I a
 |ok c=>
  cases c with
  |ret u=>exact I.after a
  |next=>exact False.elim a
  |brk=>exact False.elim a
  |cont=>exact False.elim a
theorem Z1(F:Qs X.prog X.w X.K X.mg X.base CX k f fd ps sp)(m:Yb k X.A)(i:Gl X x)(l:X.mg x=Ga (.ref f))(j:TY X.K (.ref f)=Gf)(hb:Binds X.K fd ps ds)(hd:Zv dvs ds)(n:Ij CX X E)
  (d:PA X (e::es) t)(a:(x==("__debug__":Ta))=Gq:=by decide)(g:Te (e::es) X.env=(Gq,eval e X.env)::Te es X.env:=by rfl)(b:(DQ pos (Te es X.env)).any (·.1)=Gq:=by rfl):
  PE X (.Call (.Name x p) (e::es) [] pos) (Q19 sp dvs E t):=by
 intro zq s σ H Q I h;refine Db (Qb4 I i l ?_ a);refine Sj (h₀:=X.base) I.ok.mod.kin j (Yq (d pos zq s σ H _ I h) λus s1⟨vs,H1,c,r,q⟩=>⟨c.Jt,?_⟩) g b;exact Qmj F m hb hd n c r q
theorem Q9(p:PE X o ta)(c:Cls X.K C)(j:Z9 X.K C m f)(F:Qs X.prog X.w X.K X.mg X.base CX k f fd ps sp)(v:Yb k X.A)(hb:Binds X.K fd ps ds)(hd:Zv dvs ds)(z:Ij CX X E)(n:PA X (e::es) t)
  (d:Te (e::es) X.env=(Gq,eval e X.env)::Te es X.env:=by rfl)(b:(DQ pos (Te es X.env)).any (·.1)=Gq:=by rfl)
  (y:eval (.Call (.Attribute o m apos) (e::es) [] pos) X.env=(do
   let ov<-eval o X.env
   standAt apos.atName
   let(f,first)<-holding [ov] (getMethod ov m pl)
   callWith pos f first (DQ pos (Te (e::es) X.env)) (backToKw pos (keywordEach [] X.env))):=by rfl):
  PE X (.Call (.Attribute o m apos) (e::es) [] pos) (Qjt C m sp dvs E ta t):=by
 intro zq s σ H Q I h;refine EN (pl:=pl) (Yq (p zq s σ H _ I h) λu s1⟨x,H1,g,D,a,dx,fs,ex,ea,l,q⟩=>?_) y;subst ex;obtain rfl:u=Value.ref a:=D;refine Ru g ea c j l ?_;refine Sj (first:=[.ref a]) (h₀:=X.base) I.ok.mod.kin j.kp (Yq (n pos zq s1 σ H1 _ g q) λus s2⟨vs,H2,i,r,B⟩=>⟨i.Jt,?_⟩) d b;exact Qmj (us:=.ref a::us) (vs:=.ref a::vs) F v hb hd z i (.cons rfl r) B
theorem Qjp(e:PE X o ta)(c:Cls X.K C)(d:Z9 X.K C m f)(F:Qs X.prog X.w X.K X.mg X.base CX k f fd ps sp)(g:Yb k X.A)(hb:Binds X.K fd ps ds)(hd:Zv dvs ds)(j:Ij CX X E)
  (i:eval (.Call (.Attribute o m apos) [] [] pos) X.env=(do
   let ov<-eval o X.env
   standAt apos.atName
   let(f,first)<-holding [ov] (getMethod ov m pl)
   callWith pos f first (DQ pos (Te [] X.env)) (backToKw pos (keywordEach [] X.env))):=by rfl):
  PE X (.Call (.Attribute o m apos) [] [] pos) (Qjt C m sp dvs E ta Qp7):=by
 intro zq s σ H Q I h;refine EN (pl:=pl) (Yq (e zq s σ H _ I h) λu s1⟨x,H1,b,n,a,dx,fs,ex,ea,l,q⟩=>?_) i;subst ex;obtain rfl:u=Value.ref a:=n;refine Ru b ea c d l ?_;exact Ls (first:=[.ref a]) b.Jt d.kp (Qmj (us:=[.ref a]) (vs:=[.ref a]) F g hb hd j b (.cons rfl .nil) q)
structure Mk(K:Gd)(C f:Gc):Prop where
 makes:DX K C=Gf
 init:GJ K (.ref C) "__init__"=Ga (Ga (.ref f))
 fn:Ti K (.ref f)=Gf
 kp:TY K (.ref C)=Gf
theorem Qjn(M:Mk X.K C f)(F:Qs X.prog X.w X.K X.mg X.base CX k f fd ps sp)(j:Yb (k+1) X.A)(hb:Binds X.K fd ps ds)(hd:Zv dvs ds)
  (l:Ij CX X E)(I:Inv X zq σ H s)(r:Zv vs us)
  (h:∀x dx,H x=Gh->H dx=Gh->dx≠x->sp (.ref x::(vs++dvs)) (zj (zj H dx (.own x)) x (.ins C dx [])) (λv H2=>v=.non/\Q (.ref x) H2) E):
  wpAny (GY X.prog X.w) X.A (call (.ref C) us) (EP X zq σ Q) X.xe s:=by
 have c:=h (s.heap.objs.size+1) s.heap.objs.size (I.Zw.fresh (EF _)) (I.Zw.fresh (Gm _)) (Td (DC _));have b:=Inv.made (C:=C) I;have d:Zv (V.ref (s.heap.objs.size+1)::(vs++dvs)) (Value.ref (s.heap.objs.size+1)::(us++ds)):=.cons rfl (r.append hd);have hl:(Value.ref (s.heap.objs.size+1)::us++ds).length=ps.length:=by have e:=d.length;rw[F.len _ _ _ _ c]at e;exact e.symm
 refine NT (Qut (f:=f) I.Jt M.makes M.init (Sh.mp M.fn) (SS (F.run _ X.stack _ _ ⟨Value.ref (s.heap.objs.size+1)::us,[]⟩ (Value.ref (s.heap.objs.size+1)::(us++ds)) _ _ E (j.make C us [])
  (b.Q24.make C us []) (hb _ (Value.ref (s.heap.objs.size+1)::us) b.Jt hl) d c) λr s' a=>?_))
 cases r with
 |error e=>exact l zq σ _ _ e s' b a
 |ok i=>
  cases i with
  |ret u=>obtain⟨v,H',g,rv,ev,m⟩:=b.after a;subst ev;exact⟨rv,⟨V.ref (s.heap.objs.size+1),H',g,Xb,m⟩⟩
  |next=>exact False.elim a
  |brk=>exact False.elim a
  |cont=>exact False.elim a
theorem Qg4(M:Mk X.K C f)(F:Qs X.prog X.w X.K X.mg X.base CX k f fd ps sp)(l:Yb (k+1) X.A)(i:Gl X x)(j:X.mg x=Ga (.ref C))(hb:Binds X.K fd ps ds)(hd:Zv dvs ds)(m:Ij CX X E)
  (d:PA X (e::es) t)(a:(x==("__debug__":Ta))=Gq:=by decide)(g:Te (e::es) X.env=(Gq,eval e X.env)::Te es X.env:=by rfl)(b:(DQ pos (Te es X.env)).any (·.1)=Gq:=by rfl):
  PE X (.Call (.Name x p) (e::es) [] pos) (Qy4 C sp dvs E t):=by
 intro zq s σ H Q I h;refine Db (Qb4 I i j ?_ a);refine Sj (h₀:=X.base) I.ok.mod.kin M.kp (Yq (d pos zq s σ H _ I h) λus s1⟨vs,H1,c,r,q⟩=>⟨c.Jt,?_⟩) g b;exact Qjn M F l hb hd m c r q
theorem Qc9(M:Mk X.K C f)(F:Qs X.prog X.w X.K X.mg X.base CX k f fd ps sp)(d:Yb (k+1) X.A)(b:Gl X x)(c:X.mg x=Ga (.ref C))(hb:Binds X.K fd ps ds)(hd:Zv dvs ds)(e:Ij CX X E)
  (a:(x==("__debug__":Ta))=Gq:=by decide):PE X (.Call (.Name x p) [] [] pos) (Qy4 C sp dvs E Qp7):=by
 intro zq s σ H Q I h;refine Db (Qb4 I b c ?_ a);exact Ls I.Jt M.kp (Qjn (us:=[]) M F d hb hd e I .nil h)
end
structure Qx(N P:List Ta)(sc:SH):Prop where
 kind:sc.kind=.function
 co:sc.isCoroutine=Gq
 gen:sc.isGenerator=Gq
 nd:N.Nodup
 pre:N.take P.length=P
 par:∀x∈P,sc.names.lookup x=Ga .local\/sc.names.lookup x=Ga .cell
 Q0x:∀y∈sc.names,y.2≠.free
theorem Qgf{kindOf:Ta->Option EY}{x:Ta}:∀{binds:List (Ta×Value)}{m:Ta->Option Value},(∀v,(x,v)∉binds)->bindL kindOf binds m x=m x
 |[],_,_=>rfl
 |(n,v)::r,m,h=>by
  unfold bindL;rw[Qgf λw hw=>h w (List.mem_cons_of_mem _ hw)];split
  ·have:x≠n:=by rintro rfl;exact h v List.mem_cons_self
   simp[this]
  ·rfl
theorem Qgh{kindOf:Ta->Option EY}{x:Ta}:∀{binds:List (Ta×Value)}{m:Ta->Option Value},(∀v,(x,v)∉binds)->bindC kindOf binds m x=m x
 |[],_,_=>rfl
 |(n,v)::r,m,h=>by
  unfold bindC;rw[Qgh λw hw=>h w (List.mem_cons_of_mem _ hw)];split
  ·rfl
  ·have:x≠n:=by rintro rfl;exact h v List.mem_cons_self
   simp[this]
theorem Qf0{kindOf:Ta->Option EY}{x:Ta}{v:Value}:∀{P:List Ta}{vs:List Value}{i:Nat}{m:Ta->Option Value},P.Nodup->P[i]?=Ga x->vs[i]?=Ga v->kindOf x=Ga .local->
  bindL kindOf (P.zip vs) m x=Ga v
 |[],_,_,_,_,h,_,_=>by simp at h
 |_::_,[],_,_,_,_,h,_=>by simp at h
 |p::P,w::vs,0,m,nd,h1,h2,a=>by simp at h1 h2;subst h1;subst h2;show bindL kindOf ((p,w)::P.zip vs) m p=_;unfold bindL;rw[Qgf λv b=>(List.nodup_cons.mp nd).1 (List.of_mem_zip b).1,Gn a];simp
 |p::P,w::vs,i+1,m,nd,h1,h2,a=>by show bindL kindOf ((p,w)::P.zip vs) m x=_;unfold bindL;exact Qf0 (i:=i) (List.nodup_cons.mp nd).2 (by simpa using h1) (by simpa using h2) a
theorem Qf8{kindOf:Ta->Option EY}{x:Ta}{v:Value}:∀{P:List Ta}{vs:List Value}{i:Nat}{m:Ta->Option Value},P.Nodup->P[i]?=Ga x->vs[i]?=Ga v->kindOf x≠Ga .local->
  bindC kindOf (P.zip vs) m x=Ga v
 |[],_,_,_,_,h,_,_=>by simp at h
 |_::_,[],_,_,_,_,h,_=>by simp at h
 |p::P,w::vs,0,m,nd,h1,h2,a=>by simp at h1 h2;subst h1;subst h2;show bindC kindOf ((p,w)::P.zip vs) m p=_;unfold bindC;rw[Qgh λv b=>(List.nodup_cons.mp nd).1 (List.of_mem_zip b).1,Gi a];simp
 |p::P,w::vs,i+1,m,nd,h1,h2,a=>by show bindC kindOf ((p,w)::P.zip vs) m x=_;unfold bindC;exact Qf8 (i:=i) (List.nodup_cons.mp nd).2 (by simpa using h1) (by simpa using h2) a
def start(N:List Ta)(vs:List V):St:=vs.map Ga++List.replicate (N.length - vs.length) Gh
def Qkf(CX:CXT)(P:Gg)(w:Gs)(K:Gd)(mg:Ta->Option Value)(base:Heap)(N:List Ta)(qual:Ta)(scope:SH)(f:Gc)(b:Value)(A:TL)(outer:List LR)(s:Gk)(H:Hp)(E:XK):Cx where
 prog:=P
 w:=w
 K:=K
 mg:=mg
 base:=base
 A:=A.deeper (envOfC qual scope s.heap.objs.size f b)
 N:=N
 s₀:=s
 H₀:=H
 env:=envOfC qual scope s.heap.objs.size f b
 outer:=outer
 stack:=envOfC qual scope s.heap.objs.size f b::outer
 ex:=[]
 calm:=Gf
 fn:=λ_=>Gf
 pn:=[]
 xe:=λe s'=>wpAny (GY P w) (A.deeper (envOfC qual scope s.heap.objs.size f b)) (leaving (envOfC qual scope s.heap.objs.size f b) e) (λ_ a=>CX outer H s E e a) (λc a=>CX outer H s E c a) s'
theorem Qiv{a:SH}(h:a.names.lookup x=Ga .cell):∃c,(cellsFrom n a.names []).lookup x=Ga c:=by have q:=SU a.names n [] (.inl h);exact SA.mp q
theorem Qph{CX:CXT}{base:Heap}{qual:Ta}{scope:SH}{f:Gc}{o:Value}{outer:List LR}{s1:Gk}{E:XK}
  (S:Qx N ps scope)(hd:A.handled=Gh)(d:Qlu P w K mg base A outer s H)(hl:vs.length=ps.length)(r:Zv vs us)
  (x:InCallC s s.heap.objs.size (bindL (envOfC qual scope s.heap.objs.size f o).kindOf (ps.zip us) λ_=>Gh) (cellsFrom (s.heap.objs.size+1) scope.names []) (bindC (envOfC qual scope s.heap.objs.size f o).kindOf (ps.zip us) λ_=>Gh) s1):
  Inv (Qkf CX P w K mg base N qual scope f o A outer s H E) [] (start N vs) H s1:=by
 have D:ps.length<=N.length:=by have:=congrArg List.length S.pre;rw[List.length_take]at this;lia
 obtain⟨h1,tk,rfl,t⟩:=x.done;have j:∀b:Gc,b∉(Qkf CX P w K mg base N qual scope f o A outer s H E).ex:=λb z=>absurd (show b∈([]:List Gc)from z) (by simp);refine⟨⟨d.mod,S.kind,Xb,Xb,Gm _,λy z c h1 h2=>?_,λy g=>?_,λy c _ h=>?_,λ_=>hd,Around.frames_deeper d.frames,.inr ⟨Xb,Xb⟩,λb z=>absurd z (j b),d.bs,d.bsz,λb _ _=>j b,λb z=>absurd z (j b),d.Qbu,d.frf⟩,
  Xb,d.bare,Un.kept t,⟨_,x.toInCall.ns,λi y v h1 h2 F=>?_⟩,λy c h=>⟨_,x.cell y c h⟩,d.Zw.fresh (Gm _),λy c h=>?_,λp l=>absurd (show p∈([]:List (Gc×Eg))from l) (by simp),d.Zw.kept t,?_⟩
 ·exact name_of_addr x.apart (Dj h1) (Dj h2)
 ·have g:scope.names.lookup y=Ga .cell\/scope.names.lookup y=Ga .free:=g;rcases g with g|g
  ·exact Qiv g
  ·exact absurd rfl (S.Q0x _ (Dj g))
 ·exact E9 (x.above y c (Dj h))
 ·have hi:i<vs.length:=by
   unfold start at h2;by_cases hi:i<vs.length
   ·exact hi
   ·rw[List.getElem?_append_right (by simpa using hi)]at h2;rw[List.getElem?_replicate]at h2;split at h2<;>cases h2
  have C:vs[i]?=Ga v:=by
   unfold start at h2;rw[List.getElem?_append_left (by simpa using hi),List.getElem?_map]at h2;cases e:vs[i]? with
   |none=>rw[e]at h2;cases h2
   |some a=>rw[e]at h2;cases h2;rfl
  obtain⟨u,B,rv⟩:=r.get C;have l:ps[i]?=Ga y:=by rw[<-S.pre,List.getElem?_take_of_lt (by lia)];exact h1
  have m:ps.Nodup:=by rw[<-S.pre];exact S.nd.sublist (List.take_sublist _ _)
  refine⟨u,rv,?_⟩;rcases S.par y (List.mem_of_getElem? l)with k|k
  ·exact .inl ⟨k,Qf0 m l B k⟩
  ·obtain⟨c,e⟩:=Qiv (n:=s.heap.objs.size+1) k;refine .inr ⟨.inl k,c,e,?_⟩;have q:=x.cell y c e;rw[Qf8 m l B (by show scope.names.lookup y≠_;rw[k];decide)]at q;exact q
 ·exact d.Zw.fresh (E9 (x.above y c (Dj h)))
 ·unfold start;show _=N.length;rw[List.length_append,List.length_map,List.length_replicate];lia
theorem Q3x{CX:CXT}{base:Heap}{f:Gc}{name qual:Ta}{a:Arguments}{scope:SH}{z kV doc pm cdv ct oc:Value}{an od:Option Gc}
  {osl:Array (Option Value)}{sp:Sp}(lk:K.lookup f=Ga ⟨oc,od,.func (Dw name qual a body scope z kV doc pm an cdv ct),osl⟩)(l:Sd K cdv qual=Gf)(S:Qx N ps scope)
  (len:∀vs H Q E,sp vs H Q E->vs.length=ps.length)
  (d:∀(A:TL)(outer:List LR)(s:Gk)(H:Hp)(vs:List V)(Q:VK)(E:XK),Yb k (A.deeper (envOfC qual scope s.heap.objs.size f cdv))->sp vs H Q E->
   ∃t,Z7 (Qkf CX P w K mg base N qual scope f cdv A outer s H E) body t/\t {nx:=λ_ H'=>Q .non H',rt:=Q} (start N vs) H):
  Qs P w K mg base CX (k+1) f (Dw name qual a body scope z kV doc pm an cdv ct) ps sp:=by
 refine⟨len,λA outer s H args us vs Q E m i hb r j=>?_⟩;have hl:=len _ _ _ _ j;have KX:K.In s.heap:=i.mod.kin.keeps λb o e=>(i.bs b o e).1;have p:s.heap.NoLimit:=i.mod.nolimit.keeps λb o e=>(i.bs b o e).1;have g:∀y∈ps.zip us,scope.names.lookup y.1=Ga .local\/(scope.names.lookup y.1=Ga .cell/\((cellsFrom (s.heap.objs.size+1) scope.names []).lookup y.1).isSome=Gf):=λ⟨n,v⟩G=>by
  rcases S.par n (List.of_mem_zip G).1 with q|q
  ·exact .inl q
  ·exact .inr ⟨q,SU _ _ _ (.inl q)⟩
 refine codeAny_call_function m.depth (KX _ _ lk) rfl S.co S.gen rfl (NU KX l) (hb _ _ _ _ ?_);refine wpAny_newFunctionEnv_cells S.kind g λenv C s1 x=>?_;subst C;refine⟨p.keeps x.toInCall.keep,codeAny_func ?_⟩;obtain⟨t,F,D⟩:=d A outer s H vs Q E (m.deeper _) j;have I:Inv (Qkf CX P w K mg base N qual scope f cdv A outer s H E) [] (start N vs) H s1:=Qph S m.hd i hl r x;refine DD (F [] s1 (start N vs) H _ I D) (λB s' h=>?_) λe s' h=>h;have fin:∀{c:St}{H':Hp}{v:V}{u:Value},Inv (Qkf CX P w K mg base N qual scope f cdv A outer s H E) [] c H' s'->RelV v u->Q v H'->CE outer P w H s Q u s':=
  λ{c H' v u}J rv q=>⟨v,H',J.os,J.bare,J.base,J.Zw,rv,q⟩
 cases B with
 |ret u=>obtain⟨v,c,H',J,rv,q⟩:=h;exact fin J rv q
 |next=>obtain⟨c,H',J,q⟩:=h;exact fin (v:=V.non) (u:=Value.none) J rfl q
 |brk=>obtain⟨_,_,_,q⟩:=h;exact False.elim q
 |cont=>obtain⟨_,_,_,q⟩:=h;exact False.elim q
section
variable{X:Cx}{x:Ta}{p pos:SX}{e:T3}{es:List T3}{t:TA}{id T:String}{r:List V->Hp->VK->Prop}
def tCB(r:List V->Hp->VK->Prop)(t:TA):TE:=λσ H Q=>t σ H λvs H1=>r vs H1 Q
theorem Qp(hc:V9 X (.builtin id) r)(g:Gl X x)(i:X.mg x=Gh)(k:bootBuiltins x=Ga (.builtin id))(d:PA X (e::es) t)(j:x≠"__name__":=by decide)(a:(x==("__debug__":Ta))=Gq:=by decide)
  (f:Te (e::es) X.env=(Gq,eval e X.env)::Te es X.env:=by rfl)(b:(DQ pos (Te es X.env)).any (·.1)=Gq:=by rfl):PE X (.Call (.Name x p) (e::es) [] pos) (tCB r t):=by
 intro zq s σ H Q I h;refine Db (V2 I g i k ?_ j a);exact Fo (Yq (d pos zq s σ H _ I h) λus s1⟨vs,H1,c,m,l⟩=>hc zq s1 σ H1 vs us Q c m l) f b
theorem Xr(hc:V9 X (.type T) r)(g:Gl X x)(i:X.mg x=Gh)(k:bootBuiltins x=Ga (.type T))(d:PA X (e::es) t)(j:x≠"__name__":=by decide)(a:(x==("__debug__":Ta))=Gq:=by decide)
  (f:Te (e::es) X.env=(Gq,eval e X.env)::Te es X.env:=by rfl)(b:(DQ pos (Te es X.env)).any (·.1)=Gq:=by rfl):PE X (.Call (.Name x p) (e::es) [] pos) (tCB r t):=by
 intro zq s σ H Q I h;refine Db (V2 I g i k ?_ j a);exact Ds (Yq (d pos zq s σ H _ I h) λus s1⟨vs,H1,c,m,l⟩=>hc zq s1 σ H1 vs us Q c m l) f b
end
end L2
namespace HT
open PySem PyProof.Rows
section
variable{prog:Gg}{w:Gs}{A:TL}{E:Value->Gk->Prop}{s:Gk}
def Wn(n d:Nat):Option Int->Nat
 |none=>d
 |some v=>if v<0 then(v+(n:Int)).toNat else min v.toNat n
theorem Oi(n d:Nat):Wn n d Gh=d:=rfl
theorem Oy(n d k:Nat):Wn n d (Ga (k:Int))=min k n:=by show(if(k:Int)<0 then((k:Int)+(n:Int)).toNat else min (k:Int).toNat n)=min k n;rw[Gi (by lia),Dl]
theorem Q1b(n d:Nat)(hd:d<=n)(o:Option Int):Wn n d o<=n:=by
 cases o with
 |none=>exact hd
 |some v=>
  show(if v<0 then(v+(n:Int)).toNat else min v.toNat n)<=n;by_cases a:v<0
  ·rw[Gn a];lia
  ·rw[Gi a];exact Fp _ _
theorem Qn6(v:Int)(n d:Nat):(if v<0 then max (v+(n:Int)) 0 else min v (n:Int))=((Wn n d (Ga v):Nat):Int):=by
 show(if v<0 then max (v+(n:Int)) 0 else min v (n:Int))=(((if v<0 then(v+(n:Int)).toNat else min v.toNat n):Nat):Int);by_cases a:v<0
 ·simp only[Gn a];lia
 ·simp only[Gi a];lia
theorem Ql9(lo hi:Option Int)(n:Nat):Builtin.Slice.sliceAdjust lo hi 1 (n:Int)=(((Wn n 0 lo:Nat):Int),((Wn n n hi:Nat):Int)):=by
 have h1:¬((1:Int)<0):=by omega
 unfold Builtin.Slice.sliceAdjust;simp only[h1,Dq];refine L4 ?_ ?_
 ·cases lo with
  |none=>rfl
  |some v=>exact Qn6 v n 0
 ·cases hi with
  |none=>rfl
  |some v=>exact Qn6 v n n
theorem Qmt(i j:Nat):Builtin.Slice.slicePlaces (i:Int) (j:Int) 1=j - i:=by
 unfold Builtin.Slice.slicePlaces;have h1:(1:Int)>0:=by lia
 simp only[h1,Su,M8];split<;>lia
theorem Qcn{v:Value}{o:Option Int}{Q:Option Int->Gk->Prop}(p:LK v o)(h:Q o s):wpAny (GY prog w) A (Builtin.Slice.slicePartIndex v) Q E s:=by
 cases p with
 |none=>exact FK h
 |int i t=>exact slicePart_int h
theorem Qa0{sl:Gc}{c d:Value}{lo hi:Option Int}{n:Nat}{Q:Int×Int×Nat->Gk->Prop}(f:s.heap.IsSliceOf sl c d .none)(pl:LK c lo)(g:LK d hi)
  (h:Q (((Wn n 0 lo:Nat):Int),1,Wn n n hi - Wn n 0 lo) s):wpAny (GY prog w) A (Builtin.Slice.sliceApplied (.ref sl) (pure (n:Int))) Q E s:=by
 obtain⟨os,b,e,a⟩:=id f;unfold Builtin.Slice.sliceApplied Builtin.Slice.sliceFields;refine Gb (Gb (TF b a (x:=c) rfl (Gb (TF b a (x:=d) rfl (Gb (TF b a (x:=.none) rfl (Ge ?_)))))));refine Gb (FK ?_);show wpAny _ _ (if((1:Int)==0)=Gf then _ else _) _ _ s;rw[Gi (by decide)];refine Gb (Qcn pl (Gb (Qcn g (Gb (Ge ?_)))));show wpAny _ _ (match Builtin.Slice.sliceAdjust lo hi 1 (n:Int)with|(lo,hi)=>pure (lo,(1:Int),Builtin.Slice.slicePlaces lo hi 1)) _ _ s;rw[Ql9 lo hi n];show wpAny _ _ (pure (((Wn n 0 lo:Nat):Int),(1:Int),Builtin.Slice.slicePlaces ((Wn n 0 lo:Nat):Int) ((Wn n n hi:Nat):Int) 1)) _ _ s;rw[Qmt];exact Ge h
theorem Qtp(xs:Array Value)(i k:Nat):((List.range k).filterMap λ(m:Nat)=>xs[((i:Int)+(m:Int)*1).toNat]?).toArray=((xs.toList.drop i).take k).toArray:=by
 have e:(λ(m:Nat)=>xs[((i:Int)+(m:Int)*1).toNat]?)=λm=>xs[i+m]?:=by
  funext m
  have:((i:Int)+(m:Int)*1).toNat=i+m:=by lia
  rw[this]
 rw[e];have:=pick_run xs i k;rw[List.filterMap_map]at this;have a:((λx=>xs[x]?)∘λx=>i+x)=λm=>xs[i+m]?:=rfl;rw[a]at this;rw[this]
theorem O1{t sl:Gc}{a:Array Value}{j k:Value}{lo hi:Option Int}{Q:Value->Gk->Prop}(c:IsTup s.heap t a)(i:s.heap.IsSliceOf sl j k .none)(pl:LK j lo)(n:LK k hi)
  (hw:¬(Wn a.size 0 lo=0/\Wn a.size a.size hi=a.size))
  (h:Q (.ref s.heap.objs.size) {s with heap:=s.heap.push {cls:=.type "tuple",data:=.seq ((a.toList.drop (Wn a.size 0 lo)).take (Wn a.size a.size hi - Wn a.size 0 lo)).toArray}})
  (hsz:a.size<=Gj):wpAny (GY prog w) A (getItem (.ref t) (.ref sl)) Q E s:=by
 have b:sizeOk (.seq ((a.toList.drop (Wn a.size 0 lo)).take (Wn a.size a.size hi - Wn a.size 0 lo)).toArray):=by show((a.toList.drop (Wn a.size 0 lo)).take (Wn a.size a.size hi - Wn a.size 0 lo)).toArray.size<=Gj;rw[List.size_toArray,List.length_take,List.length_drop,TB];omega
 have o:Wn a.size a.size hi<=a.size:=Q1b _ _ (Gm _) hi;obtain⟨os,g,e,l⟩:=id i;have d:s.TypeIs (.ref sl) "slice":=⟨os,g,e⟩;unfold getItem;try with_reducible refine T4 ?_
 first|refine Gb (Ge ?_)|skip
 refine Gb (wpAny_sequenceKey c.typeIs (by decide) ?_);refine Gb (TR (name:=Dy "__getitem__") c.typeIs Eb
  (Tv Eb c.typeIs entry_tuple_getitem ?_ (args_tuple_getitem _ _)))
 show wpAny _ _ (Builtin.Tuple.tupleItemsOf (.ref t)>>=_) _ _ s;refine Gb (tupleItemsOf_ c ?_);refine Gb (M9 d ?_);rw[Gn (by decide)];refine Gb (Qa0 i pl n ?_);have f:¬((((Wn a.size 0 lo:Nat):Int)==0&&(1:Int)==1&&(Wn a.size a.size hi - Wn a.size 0 lo)==a.size)=Gf):=by intro q;rw[Tn,Tn]at q;have p:((Wn a.size 0 lo:Nat):Int)=0:=eq_of_beq q.1.1;have r:Wn a.size a.size hi - Wn a.size 0 lo=a.size:=eq_of_beq q.2;exact hw ⟨by omega,by omega⟩
 show wpAny _ _ (if(((Wn a.size 0 lo:Nat):Int)==0&&(1:Int)==1&&(Wn a.size a.size hi - Wn a.size 0 lo)==a.size)=Gf then _ else _) _ _ s;rw[Gi f,Qtp];first
  |exact Gb (m:=Builtin.Tuple.tupleExact _) (Tw (Ge ⟨_,Xb,Ge h⟩) b)
  |exact Gb (m:=Builtin.Tuple.tupleExact _) (Tw (Gb (Ge (Ge ⟨_,Xb,Ge h⟩))) b)
  |exact Gb (Gb (m:=Builtin.Tuple.tupleExact _) (Tw (Ge (Ge ⟨_,Xb,Ge h⟩)) b))
  |exact Gb (Gb (m:=Builtin.Tuple.tupleExact _) (Tw (Ge ⟨_,Xb,Ge h⟩) b))
end
end HT
namespace L2
open PySem PySem.Spec PyProof.Rows
variable{n t':Nat}{α:Type}{H H':Hp}{s:Gk}{u:Value}{y:V}{P:Gg}{w:Gs}{zw:List (List Xv×V)}{xs:List (List Xv×Gc×Value)}{b a:Gc}{Q:Value->Gk->Prop}
abbrev TO:=St->Hp->(Option Int->Hp->Prop)->Prop
def PO(X:Cx)(e:Option T3)(t:TO):Prop:=
 ∀(zq:List (Gc×Eg))(s:Gk)(σ:St)(H:Hp)(Q:Option Int->Hp->Prop),Inv X zq σ H s->t σ H Q->
  wpAny (GY X.prog X.w) X.A (evalPart e X.env) (λu s'=>∃o H',Inv X zq σ H' s'/\LK u o/\Q o H') X.xe s
def Qvv:TO:=λ_ H Q=>Q Gh H
inductive Qs0(Q:Option Int->Hp->Prop)(x:V)(H1:Hp):Prop
 |mk (i:_) (h0:x=.int i) (h1:Q (Ga i) H1):Qs0 Q x H1
def Q16(t:TE):TO:=λσ H Q=>t σ H λx H1=>Qs0 Q x H1
section
variable{X:Cx}{e:T3}{te:TE}{lo hi:Option T3}{tl th:TO}{pos p2:SX}
theorem Xx:PO X Gh Qvv:=by intro zq s σ H Q I h;rw[MA];exact Ge ⟨Gh,H,I,.none,h⟩
theorem Yy(h:PE X e te):PO X (Ga e) (Q16 te):=by intro zq s σ H Q I hw;rw[evalPart_some];refine Yq (h zq s σ H _ I hw) λu s1⟨x,H1,a,c,b⟩=>?_;obtain⟨i,rfl,q⟩:=b;obtain⟨t,rfl⟩:=c;exact⟨Ga i,H1,a,.int i t,q⟩
def SlR(X:Cx)(r:V->Option Int->Option Int->Hp->VK->Prop):Prop:=
 ∀(zq:List (Gc×Eg))(s:Gk)(σ:St)(H:Hp)(x:V)(v a b:Value)(lo hi:Option Int)(sl:Gc)(Q:VK),Inv X zq σ H s->RelV x v->s.heap.IsSliceOf sl a b .none->LK a lo->LK b hi->r x lo hi H Q->
  ∃T id,typeLookup (.type T) "__getitem__"=pure (Ga (.builtin id))/\s.TypeIs v T/\wpAny (GY X.prog X.w) X.A (getItem v (.ref sl)) (EP X zq σ Q) X.xe s
def tSl(r:V->Option Int->Option Int->Hp->VK->Prop)(te:TE)(tl th:TO):TE:=λσ H Q=>te σ H λx H1=>tl σ H1 λl H2=>th σ H2 λu a=>r x l u a Q
theorem Yu{r:V->Option Int->Option Int->Hp->VK->Prop}(p:SlR X r)(n:PE X e te)(hl:PO X lo tl)(y:PO X hi th):PE X (.Subscript e (.Slice lo hi Gh p2) pos) (tSl r te tl th):=by intro zq s σ H Q I h;refine FL (Yq (n zq s σ H _ I h) λv s1⟨x,H1,g,E,B⟩=>?_);refine wpAny_Slice (Yq (hl zq s1 σ H1 _ g B) λc s2⟨l,H2,i,pl,C⟩=>Yq (y zq s2 σ H2 _ i C) λd a⟨u,f,j,z,D⟩=>?_);rw[MA];refine Ge ?_;have k:Inv X zq σ f {a with heap:=a.heap.push {cls:=.type "slice",data:=.fields #[c,d,.none]}}:=j.kept (t':=a.toks) λb ob q=>Heap.get?_push_of_some _ q;obtain⟨T,id,m,t,o⟩:=p zq {a with heap:=a.heap.push {cls:=.type "slice",data:=.fields #[c,d,.none]}} σ f x v c d l u a.heap.objs.size Q k E (Heap.IsSliceOf.new ..) pl z D;show wpAny (GY X.prog X.w) X.A (subscriptTail e (.Slice lo hi Gh p2) v (.ref a.heap.objs.size)) (EP X zq σ Q) X.xe {a with heap:=a.heap.push {cls:=.type "slice",data:=.fields #[c,d,.none]}};exact tail_any (ops:=[.ref a.heap.objs.size,v]) t m o (by with_unfolding_all rfl)
def U9(xs:List V)(lo hi:Option Int):List V:=(xs.drop (HT.Wn xs.length 0 lo)).take (HT.Wn xs.length xs.length hi - HT.Wn xs.length 0 lo)
theorem Qbq(xs:List V)(lo hi:Option Int):(U9 xs lo hi).length<=xs.length:=by unfold U9;rw[List.length_take,List.length_drop];omega
inductive Qyl(K:Gd)(x:V)(lo:Option Int)(hi:Option Int)(H:Hp)(Q:VK):Prop
 |mk (a:_) (xs:_) (h0:x=.ref a) (h1:Z2 K H a xs) (h2:¬(HT.Wn xs.length 0 lo=0/\HT.Wn xs.length xs.length hi=xs.length)) (h3:∀p,H p=Gh->Q (.ref p) (zj H p (.tup (U9 xs lo hi)))):Qyl K x lo hi H Q
def Q2k(K:Gd):V->Option Int->Option Int->Hp->VK->Prop:=λx lo hi H Q=>Qyl K x lo hi H Q
theorem Rz:SlR X (Q2k X.K):=by
 intro zq s σ H x v j k lo hi sl Q I i e pl g h;obtain⟨a,xs,rfl,f,hw,q⟩:=h;cases i;obtain⟨its,r,d,hz⟩:=I.tuple f;have c:its.toArray.size=xs.length:=by rw[List.size_toArray];exact r.length.symm
 refine⟨"tuple",_,Eb.lookup,d.typeIs,?_⟩;refine HT.O1 d e pl g (by rw[c];exact hw) ?_ (by rw[c];exact hz);rw[c];refine⟨.ref s.heap.objs.size,_,I.laid (t':=s.toks) (o:=.tup (U9 xs lo hi)) (λb ob q=>Heap.get?_push_of_some _ q) (Gm _) ?_,Xb,q _ (I.Zw.fresh (Gm _))⟩;exact⟨Tt (Qbq xs lo hi) hz,_,(r.drop (HT.Wn xs.length 0 lo)).take (HT.Wn xs.length xs.length hi - HT.Wn xs.length 0 lo),RS _ _⟩
end
def ixN(n:Nat)(i:Int):Option Nat:=if 0<=i then(if i<n then Ga i.toNat else Gh)else if -(n:Int)<=i then Ga (i+n).toNat else Gh
def atI{α:Type}(xs:List α)(i:Int):Option α:=(ixN xs.length i).bind λj=>xs[j]?
theorem Qx1{i:Int}{j:Nat}(h:ixN n i=Ga j):seqIndex? i n=Ga j/\j<n/\ -(n:Int)<=i/\i<n:=by
 unfold ixN at h;by_cases a:0<=i
 ·rw[Gn a]at h;by_cases h1:i<n
  ·rw[Gn h1]at h;have e:i.toNat=j:=Tj h;exact⟨by rw[NA a h1,e],by lia,by lia,h1⟩
  ·rw[Gi h1]at h;cases h
 ·rw[Gi a]at h;by_cases h1: -(n:Int)<=i
  ·rw[Gn h1]at h;have e:(i+n).toNat=j:=Tj h;exact⟨by rw[Nb (by lia) h1,e],by lia,h1,by lia⟩
  ·rw[Gi h1]at h;cases h
theorem Qgr{xs:List α}{i:Int}{v:α}(h:atI xs i=Ga v):∃j,seqIndex? i xs.length=Ga j/\xs[j]?=Ga v/\j<xs.length/\ -(xs.length:Int)<=i/\i<xs.length:=by
 unfold atI at h;cases e:ixN xs.length i with
 |none=>rw[e]at h;cases h
 |some j=>rw[e]at h;obtain⟨h1,h2,a,b⟩:=Qx1 e;exact⟨j,h1,h,h2,a,b⟩
theorem Qz{xs:List α}{j:Nat}{v:α}(h:xs[j]?=Ga v):atI xs (j:Int)=Ga v:=by
 have a:j<xs.length:=(List.getElem?_eq_some_iff.mp h).1;have e:ixN xs.length (j:Int)=Ga j:=by unfold ixN;rw[Gn (by lia),Gn (by lia)];simp
 unfold atI;rw[e];exact h
def Qvy(b:T3):Prop:=∀o i,subscripted b Gq o i=operate [o,i] (getItem o i)
def IxR(X:Cx)(r:R2):Prop:=
 ∀(value a:T3)(zq:List (Gc×Eg))(s:Gk)(σ:St)(H:Hp)(x y:V)(v u:Value)(Q:VK),Inv X zq σ H s->RelV x v->RelV y u->r x y H Q->
  subscripted a Gq v u=operate [v,u] (getItem v u)->wpAny (GY X.prog X.w) X.A (subscriptTail value a v u) (EP X zq σ Q) X.xe s
def MtR(X:Cx)(id:String)(r:V->List V->Hp->VK->Prop):Prop:=
 ∀(zq:List (Gc×Eg))(s:Gk)(σ:St)(H:Hp)(x:V)(xs:List V)(v:Value)(us:List Value)(Q:VK),Inv X zq σ H s->RelV x v->Zv xs us->r x xs H Q->
  wpAny (GY X.prog X.w) X.A (call (.builtin id) (v::us)) (EP X zq σ Q) X.xe s
section
variable{X:Cx}{a b:T3}{ta tb:TE}{pos:SX}
theorem IxR.or{r c:R2}(h:IxR X r)(h':IxR X c):IxR X (λx y H Q=>r x y H Q\/c x y H Q):=by
 intro value a zq s σ H x y v u Q I d e q b;rcases q with q|q
 ·exact h value a zq s σ H x y v u Q I d e q b
 ·exact h' value a zq s σ H x y v u Q I d e q b
theorem Qo{r:R2}(e:IxR X r)(d:PE X a ta)(hb:PE X b tb)(f:Qvy b:=by exactλ_ _=>rfl):PE X (.Subscript a b pos) (tOp r ta tb):=by intro zq s σ H Q I h;exact FL (Q1i d hb I h λv u s2 x y H2 c g i q=>e a b zq s2 σ H2 x y v u Q c g i q (f _ _))
inductive Qx8(K:Gd)(x:V)(y:V)(H:Hp)(Q:VK):Prop
 |mk (p:_) (xs:_) (i:_) (v:_) (h0:x=.ref p) (h1:y=.int i) (h2:Zd K H p xs) (h3:atI xs i=Ga v) (h4:Q v H):Qx8 K x y H Q
def Q3k(K:Gd):R2:=λx y H Q=>Qx8 K x y H Q
inductive Qyg(K:Gd)(x:V)(y:V)(H:Hp)(Q:VK):Prop
 |mk (p:_) (xs:_) (i:_) (v:_) (h0:x=.ref p) (h1:y=.int i) (h2:Z2 K H p xs) (h3:atI xs i=Ga v) (h4:Q v H):Qyg K x y H Q
def Qxk(K:Gd):R2:=λx y H Q=>Qyg K x y H Q
inductive Qzj(x:V)(y:V)(H:Hp)(Q:VK):Prop
 |mk (z:_) (i:_) (c:_) (h0:x=.str z) (h1:y=.int i) (h2:z.length<=Gj) (h3:atI z.cps.toList i=Ga c) (h4:Q (.str ⟨#[c]⟩) H):Qzj x y H Q
def Q2i:R2:=λx y H Q=>Qzj x y H Q
theorem Zh:IxR X (Q3k X.K):=by
 intro value c zq s σ H x y v u Q I n o h f;obtain⟨p,xs,i,z,rfl,rfl,m,l,q⟩:=h;cases n;obtain⟨t,rfl⟩:=o;obtain⟨its,r,pl,hz⟩:=I.list m;obtain⟨j,h1,h2,A,g,k⟩:=Qgr l;obtain⟨w,d,b⟩:=r.get h2;have hl:=r.length;have B:=Rl;have fin:EP X zq σ Q w s:=⟨z,H,I,b,q⟩;by_cases e:0<=i
 ·have a:i.toNat=j:=by rw[NA e k]at h1;exact Tj h1
  exact item_listR pl.isList e (by lia) (by rw[a];simpa using d) fin f
 ·have a:(i+(its.toArray.size:Int)).toNat=j:=by rw[Nb (by lia) g]at h1;rw[List.size_toArray,<-hl];exact Tj h1
  exact EK (x:=w) pl.isList.typeIs slot_list_getitem.lookup
   (wpAny_getItem_list_neg (Q:=λr s'=>r=w/\EP X zq σ Q r s') pl.isList (by lia) (by rw[List.size_toArray]<;>lia) (by lia) (by rw[a];simpa using d) ⟨Xb,fin⟩) f
theorem Q5:IxR X (Qxk X.K):=by
 intro value b zq s σ H x y v u Q I g k h f;obtain⟨p,xs,i,z,rfl,rfl,e,d,q⟩:=h;cases g;obtain⟨t,rfl⟩:=k;obtain⟨its,r,pl,hz⟩:=I.tuple e;obtain⟨j,h1,h2,l,m,n⟩:=Qgr d;obtain⟨w,c,a⟩:=r.get h2;have hl:=r.length;have o:=Rl;have fin:EP X zq σ Q w s:=⟨z,H,I,a,q⟩;exact EK (x:=w) pl.typeIs slot_tuple_getitem.lookup
  (getItem_tuple (j:=j) (Q:=λr s'=>r=w/\EP X zq σ Q r s') pl (by omega) (by omega) (by rw[List.size_toArray,<-hl];exact h1) (by simpa using c) ⟨Xb,fin⟩) f
theorem Qre:IxR X Q2i:=by
 intro value a zq s σ H x y v u Q I l m h k;obtain⟨z,i,c,rfl,rfl,hz,g,q⟩:=h;obtain⟨t,rfl⟩:=l;obtain⟨t',rfl⟩:=m;obtain⟨j,h1,h2,n,e,f⟩:=Qgr g;have hl:z.cps.toList.length=z.length:=by simp[Str.length]
 rw[hl]at h1 e f;have o:=Rl;exact tail_any (NV s z t) slot_str_getitem.lookup (getItem_str (c:=c) (by have b:decide (i< -(2^63:Int))=Gq:=Gz (by lia);have d:decide (i>=2^63)=Gq:=Gz (by lia);rw[b,d,MC]) (by rw[h1];simpa using h2) ⟨.str ⟨#[c]⟩,H,I.tok _,⟨_,Xb⟩,q⟩) k
def rIx(K:Gd):R2:=λx y H Q=>Q3k K x y H Q\/Qxk K x y H Q\/Q2i x y H Q
theorem Qug:IxR X (rIx X.K):=Zh.or (Q5.or Qre)
theorem Qg3(lo hi:Option Int)(n:Nat):(sliceBounds lo hi Gh n).1=((HT.Wn n 0 lo:Nat):Int)/\(sliceBounds lo hi Gh n).2.1=((HT.Wn n n hi:Nat):Int)/\(sliceBounds lo hi Gh n).2.2=1:=by
 refine⟨?_,?_,Xb⟩
 ·cases lo with
  |none=>simp[sliceBounds,HT.Wn]
  |some i=>
   simp only[sliceBounds,HT.Wn,Fq,show(1:Int)>0 by decide,Su];by_cases h:i<0
   ·simp only[h,Su]<;>lia
   ·simp only[h,Dq]<;>lia
 ·cases hi with
  |none=>simp[sliceBounds,HT.Wn]
  |some i=>
   simp only[sliceBounds,HT.Wn,Fq,show(1:Int)>0 by decide,Su];by_cases h:i<0
   ·simp only[h,Su]<;>lia
   ·simp only[h,Dq]<;>lia
theorem Qeq(its:List Value)(lo hi:Option Int):slicePick its.toArray lo hi Gh=((its.drop (HT.Wn its.length 0 lo)).take (HT.Wn its.length its.length hi - HT.Wn its.length 0 lo)).toArray:=by obtain⟨h1,h2,a⟩:=Qg3 lo hi its.toArray.size;unfold slicePick;rw[h1,h2,a];simp only[sliceRange_one,pick_run,List.size_toArray]<;>rfl
inductive Qzd(K:Gd)(x:V)(lo:Option Int)(hi:Option Int)(H:Hp)(Q:VK):Prop
 |mk (a:_) (xs:_) (h0:x=.ref a) (h1:Zd K H a xs) (h2:∀p,H p=Gh->Q (.ref p) (zj H p (.lst (U9 xs lo hi)))):Qzd K x lo hi H Q
def Q48(K:Gd):V->Option Int->Option Int->Hp->VK->Prop:=λx lo hi H Q=>Qzd K x lo hi H Q
theorem Vw:SlR X (Q48 X.K):=by intro zq s σ H x v j k lo hi sl Q I i e pl g h;obtain⟨a,xs,rfl,f,q⟩:=h;cases i;obtain⟨its,r,d,hz⟩:=I.list f;have c:=r.length;refine⟨"list",_,slot_list_getitem.lookup,d.isList.typeIs,?_⟩;refine wpAny_getItem_list_slice d.isList e pl g .none (by simp) ?_ (by rw[List.size_toArray]<;>lia);rw[Qeq,<-c];refine⟨.ref s.heap.objs.size,_,I.laid (t':=s.toks) (o:=.lst (U9 xs lo hi)) (λb ob q=>Heap.get?_push_of_some _ q) (Gm _) ?_,Xb,q _ (I.Zw.fresh (Gm _))⟩;exact⟨Tt (Qbq xs lo hi) hz,_,0,(r.drop (HT.Wn xs.length 0 lo)).take (HT.Wn xs.length xs.length hi - HT.Wn xs.length 0 lo),Heap.get?_push_size _ Xb⟩
theorem Zc:V9 X (.builtin "len") (λxs H Q=>∃p ys,xs=[.ref p]/\(Zd X.K H p ys\/Z2 X.K H p ys)/\Q (.int ys.length) H):=by
 intro zq s σ H xs us Q I r h;obtain⟨p,ys,rfl,b,q⟩:=h;obtain⟨u,rfl,d⟩:=vals1 r;cases d;have e:=Rl;rcases b with b|b
 ·obtain⟨its,c,pl,hz⟩:=I.list b;have a:=c.length;exact Lq pl.isList (by simp only[List.size_toArray]<;>lia) ⟨.int ys.length,H,I.tok _,⟨s.toks+1,by rw[List.size_toArray,a]⟩,q⟩
 ·obtain⟨its,c,pl,hz⟩:=I.tuple b;have a:=c.length;exact len_tuple pl (by simp only[List.size_toArray]<;>lia) ⟨.int ys.length,H,I.tok _,⟨s.toks+1,by rw[List.size_toArray,a]⟩,q⟩
theorem Vy:V9 X (.type "list") (λxs H Q=>∃p ys,xs=[.ref p]/\(Zd X.K H p ys\/Z2 X.K H p ys)/\∀l,H l=Gh->Q (.ref l) (zj H l (.lst ys))):=by
 intro zq s σ H xs us Q I r h;obtain⟨p,ys,rfl,f,q⟩:=h;obtain⟨u,rfl,i⟩:=vals1 r;cases i;have fin:∀(its:List Value),Zv ys its->ys.length<=Gj->∀(h':Heap)(a:Nat),(∀b o',s.heap.get? b=Ga o'->h'.get? b=Ga o')->
   h'.get? s.heap.objs.size=Ga {cls:=.type "list",dict:=Gh,data:=.seq its.toArray a,slots:=#[]}->EP X zq σ Q (.ref s.heap.objs.size) {s with heap:=h'}:=λits c hz h' a kp e=>
  ⟨.ref s.heap.objs.size,_,I.laid (t':=s.toks) kp (Gm _) (show Z3 X.prog X.w _ h' _ (.lst ys)from⟨hz,its,a,c,e⟩),Xb,q _ (I.Zw.fresh (Gm _))⟩
 rcases f with f|f
 ·obtain⟨its,c,pl,hz⟩:=I.list f;have d:=c.length;obtain⟨o,g,hc,n,hd⟩:=pl.isList;exact MD p (.inl Xb) g hc hd (λh' a kp e=>fin its c hz h' a kp e) (by simp only[List.size_toArray]<;>omega)
 ·obtain⟨its,c,pl,hz⟩:=I.tuple f;have d:=c.length;obtain⟨o,g,hc,n,hd⟩:=pl;exact MD p (.inr Xb) g hc hd (λh' a kp e=>fin its c hz h' a kp e) (by simp only[List.size_toArray]<;>omega)
theorem Vh:V9 X (.type "tuple") (λxs H Q=>∃p ys,xs=[.ref p]/\((Zd X.K H p ys/\∀l,H l=Gh->Q (.ref l) (zj H l (.tup ys)))\/(Z2 X.K H p ys/\Q (.ref p) H))):=by
 intro zq s σ H xs us Q I r h;obtain⟨p,ys,rfl,h⟩:=h;obtain⟨u,rfl,i⟩:=vals1 r;cases i;rcases h with⟨a,q⟩|⟨a,q⟩
 ·obtain⟨its,c,pl,hz⟩:=I.list a;have f:=c.length;refine call_tuple_list pl.isList (λh' kp=>?_) (by simp only[List.size_toArray]<;>omega);have d:Inv X zq σ H {s with heap:=h'}:=I.kept (t':=s.toks) kp;have g:Inv X zq σ (zj H h'.objs.size (.tup ys)) {s with heap:=h'.push {cls:=.type "tuple",data:=.seq its.toArray}}:=
   d.laid (t':=s.toks) (λb o e=>Heap.get?_push_of_some _ e) (Gm _) (show Z3 X.prog X.w _ _ _ (.tup ys)from⟨hz,its,c,RS _ _⟩)
  exact⟨.ref h'.objs.size,_,g,Xb,q _ (d.Zw.fresh (Gm _))⟩
 ·obtain⟨its,c,pl,hz⟩:=I.tuple a;exact call_tuple_same pl ⟨.ref p,H,I,Xb,q⟩
def tyV(K:Gd)(T:String)(x:V)(H:Hp):Prop:=match x with
 |.str _=>T="str"
 |.int _=>T="int"
 |.ref p=>(T="list"/\∃xs,Zd K H p xs)\/(T="tuple"/\∃o,K.lookup p=Ga o/\o.cls=.type "tuple"/\o.dict=Gh)\/
   (T="dict"/\((∃zw,H p=Ga (.dK zw))\/∃zw,H p=Ga (.dT zw)))\/(T="set"/\∃S n,H p=Ga (.set S n))
 |_=>False
theorem Qu1{zq:List (Gc×Eg)}{σ:St}{T:String}{x:V}{v:Value}(I:Inv X zq σ H s)(r:RelV x v)(ty:tyV X.K T x H):
  s.TypeIs v T/\∀a,v=.ref a->∃ob,s.heap.get? a=Ga ob/\ob.dict=Gh:=by
 cases x with
 |str z=>obtain⟨t,rfl⟩:=r;cases(show T="str"from ty);exact⟨NV s z t,λ_ e=>nomatch e⟩
 |int i=>obtain⟨t,rfl⟩:=r;cases(show T="int"from ty);exact⟨typeIs_int s i t,λ_ e=>nomatch e⟩
 |ref p=>
  cases r;rcases ty with⟨rfl,xs,f⟩|⟨rfl,o,b,hc,hd⟩|⟨rfl,b⟩|⟨rfl,S,n,b⟩
  ·obtain⟨its,_,pl,_⟩:=I.list f;refine⟨pl.isList.typeIs,λa e=>?_⟩;cases e;obtain⟨o,n,e,c,hd,_⟩:=pl;exact⟨o,e,hd⟩
  ·refine⟨⟨o,I.Jt p o b,hc⟩,λa e=>?_⟩;cases e;exact⟨o,I.Jt _ o b,hd⟩
  ·have z:∃o,s.heap.get? p=Ga o/\o.ExactDict:=by
    rcases b with⟨zw,b⟩|⟨zw,b⟩
    ·obtain⟨_,_,_,_,o,_,_,e,ex,_⟩:=I.Zw p _ b;exact⟨o,e,ex⟩
    ·obtain⟨_,_,_,_,o,_,_,e,ex,_⟩:=I.Zw p _ b;exact⟨o,e,ex⟩
   obtain⟨o,e,ex⟩:=z;refine⟨⟨o,e,ex.1⟩,λa d=>?_⟩;cases d;exact⟨o,e,ex.2.1⟩
  ·obtain⟨o,_,_,_,e,ex,_⟩:=I.Zw p _ b;refine⟨⟨o,e,ex.1⟩,λa d=>?_⟩;cases d;exact⟨o,e,ex.2.1⟩
 |_=>exact False.elim ty
def Q45(K:Gd)(T:String)(r:V->List V->Hp->VK->Prop)(to:TE):TE:=λσ H Q=>to σ H λx H1=>tyV K T x H1/\r x [] H1 Q
def tBM(K:Gd)(T:String)(r:V->List V->Hp->VK->Prop)(to:TE)(t:TA):TE:=λσ H Q=>to σ H λx H1=>tyV K T x H1/\t σ H1 λxs H2=>r x xs H2 Q
variable{o e:T3}{es:List T3}{to:TE}{t:TA}{name:Ta}{apos cpos:SX}{T id:String}{r:V->List V->Hp->VK->Prop}
theorem Qd8(i:NW T)(slot:Slot T name id)(c:typeOf (.builtin id)=pure (.type "method_descriptor"))(f:MtR X id r)(g:PE X o to)
  (a:attributeBase o name X.env (eval o X.env)=eval o X.env:=by rfl)(b:(apos.endLine==cpos.line)=Gf:=by rfl):PE X (.Call (.Attribute o name apos) [] [] cpos) (Q45 X.K T r to):=by
 intro zq s σ H Q I h;refine SI a b (Yq (g zq s σ H _ I h) λv s1⟨x,H1,d,e,ty,j⟩=>?_);obtain⟨h1,h2⟩:=Qu1 d e ty;exact⟨T,id,i,slot,c,h1,h2,Ei rfl (Lu (f zq s1 σ H1 x [] v [] Q d e .nil j))⟩
theorem Xw(q:NW T)(slot:Slot T name id)(f:typeOf (.builtin id)=pure (.type "method_descriptor"))(m:MtR X id r)(n:PE X o to)(l:PA X (e::es) t)
  (b:attributeBase o name X.env (eval o X.env)=eval o X.env:=by rfl)
  (d:((DQ cpos (Te (e::es) X.env)).all (λx=>!x.1)&&(backToKw cpos (keywordEach [] X.env)).all (λx=>x.1.isSome)
   &&decide ((e::es).length+([]:List L6).length+(if([]:List L6).isEmpty then 0 else 1)<30))=Gf:=by rfl)
  (c:(apos.endLine==cpos.line)=Gf:=by rfl)(p:Te (e::es) X.env=(Gq,eval e X.env)::Te es X.env:=by rfl)(a:(DQ cpos (Te es X.env)).any (·.1)=Gq:=by rfl):
  PE X (.Call (.Attribute o name apos) (e::es) [] cpos) (tBM X.K T r to t):=by
 intro zq s σ H Q I h;refine SV b d c rfl (Yq (n zq s σ H _ I h) λv s1⟨x,H1,g,j,ty,u⟩=>?_);obtain⟨h1,h2⟩:=Qu1 g j ty;refine⟨T,id,q,slot,f,h1,h2,?_⟩;have i:=l cpos zq s1 σ H1 _ g u;rw[p]at i⊢;refine Ei (by show(Gq||(DQ cpos (Te es X.env)).any (·.1))=Gq;rw[a]<;>rfl) (Lh ?_);exact Yq i λus s2⟨vs,H2,k,y,w⟩=>m zq s2 σ H2 x vs v us Q k j y w
end
def MtM(X:Cx)(id:String)(r:V->List V->Hp->VK->Prop):Prop:=
 ∀(zq:List (Gc×Eg))(s:Gk)(σ:St)(H:Hp)(x:V)(xs:List V)(v:Value)(us:List Value)(Q:VK),Inv X zq σ H s->RelV x v->Zv xs us->r x xs H Q->
  wpAny (GY X.prog X.w) X.A (call (.builtin id) (v::us)) (EP X zq σ Q) X.xe s
theorem Zv.one:∀{x:V}{us:List Value},Zv [x] us->∃u,us=[u]/\RelV x u:=by intro x us h;cases h with|cons r h=>cases h;exact⟨_,Xb,r⟩
theorem Zv.zero:∀{us:List Value},Zv [] us->us=[]
 |_,.nil=>rfl
theorem Zv.dropLast{xs:List V}{us:List Value}(h:Zv xs us):Zv xs.dropLast us.dropLast:=by
 induction h with
 |nil=>exact .nil
 |cons r t a=>
  cases t with
  |nil=>exact .nil
  |cons q t'=>exact .cons r a
theorem Qk3(l:List α):l.eraseIdx (l.length - 1)=l.dropLast:=by
 induction l with
 |nil=>rfl
 |cons a r c=>
  cases r with
  |nil=>rfl
  |cons b r=>
   have e:(a::b::r).length - 1=((b::r).length - 1)+1:=by have h1:(a::b::r).length=r.length+2:=rfl;have h2:(b::r).length=r.length+1:=rfl;lia
   rw[e,List.eraseIdx_cons_succ,c];all_goals rfl
section
variable{X:Cx}{zq:List (Gc×Eg)}{σ:St}{H:Hp}{s:Gk}{l b:Gc}{xs ys zs:List V}
theorem Inv.Qwc{its its':List Value}{f:Array Value->Array Value}(I:Inv X zq σ H s)(a:H l=Ga (.lst xs))
  (e:s.heap.get? l=Ga {cls:=.type "list",data:=.seq its.toArray n})(b:f its.toArray=its'.toArray)(d:Zv ys its')(hz:ys.length<=Gj):
  Inv X zq σ (zj H l (.lst ys)) {s with heap:=s.heap.update l (Eu f),toks:=t'}:=by
 have q:=RT e f;rw[b]at q;refine I.write (x:=l) (e:=l) (by rw[a];exact trivial) (.inl Xb) (λg u hb c=>(Heap.get?_update_other s.heap (Eu f) (Gp hb)).trans c) ⟨_,q⟩ ?_;exact⟨hz,its',_,d,q⟩
theorem Inv.Q3y{its:List Value}(I:Inv X zq σ H s)(a:Zv ys its)(hz:ys.length<=Gj):
  Inv X zq σ (zj H s.heap.objs.size (.lst ys)) {s with heap:=s.heap.push {cls:=.type "list",data:=.seq its.toArray},toks:=t'}:=
 I.laid (λ_ _ q=>Heap.get?_push_of_some _ q) (Gm _) ⟨hz,its,0,a,Heap.get?_push_size _ Xb⟩
theorem Inv.fresh(I:Inv X zq σ H s):H s.heap.objs.size=Gh:=I.Zw.fresh (Gm _)
theorem Inv.Qmc(I:Inv X zq σ H s)(a:H l=Ga (.lst xs)):xs.length<=Gj/\∃(its:List Value)(n:Nat),Zv xs its/\xs.length=its.length/\s.heap.get? l=Ga {cls:=.type "list",data:=.seq its.toArray n}:=by obtain⟨z,its,n,r,e⟩:=I.Zw l _ a;exact⟨z,its,n,r,r.length,e⟩
theorem Qqw(h:n<=Gj):Builtin.List.listTooLong n=Gq:=by unfold Builtin.List.listTooLong;exact Gz (by lia)
end
section
variable{X:Cx}
inductive Qh3(x:V)(vs:List V)(H:Hp)(Q:VK):Prop
 |mk (l:_) (xs:_) (y:_) (h0:x=.ref l) (h1:vs=[y]) (h2:H l=Ga (.lst xs)) (h3:xs.length<Gj) (h4:Q .non (zj H l (.lst (xs++[y])))):Qh3 x vs H Q
def Qx6:V->List V->Hp->VK->Prop:=λx vs H Q=>Qh3 x vs H Q
theorem Z0:MtM X "list.append" Qx6:=by intro zq s σ H x vs v us Q I c rv h;obtain⟨l,xs,y,rfl,rfl,a,hz,q⟩:=h;cases c;obtain⟨u,rfl,b⟩:=rv.one;obtain⟨z,its,n,r,hl,e⟩:=I.Qmc a;refine LL F.slot_list_append ⟨_,e,Xb⟩ F.entry_list_append (F.args_list_append_2 _ _) (L8 l its.toArray n u (by rw[List.size_toArray];omega)) ⟨e,?_⟩;refine⟨.non,_,I.Qwc (its':=its++[u]) a e (by simp) (r.append (.cons b .nil)) ?_,Xb,q⟩;rw[List.length_append,List.length_singleton];omega
inductive Qkd(x:V)(vs:List V)(H:Hp)(Q:VK):Prop
 |mk (l:_) (b:_) (xs:_) (zs:_) (h0:x=.ref l) (h1:vs=[.ref b]) (h2:H l=Ga (.lst xs)) (h3:H b=Ga (.lst zs)) (h4:xs.length+zs.length<=Gj) (h5:Q .non (zj H l (.lst (xs++zs)))):Qkd x vs H Q
def Qvt:V->List V->Hp->VK->Prop:=λx vs H Q=>Qkd x vs H Q
theorem Qa3:MtM X "list.extend" Qvt:=by
 intro zq s σ H x vs v us Q I m rv h;obtain⟨l,b,xs,zs,rfl,rfl,d,g,hz,q⟩:=h;cases m;obtain⟨u,rfl,k⟩:=rv.one;cases k;obtain⟨z,its,n,r,hl,e⟩:=I.Qmc d;obtain⟨o,a,n2,j,i,f⟩:=I.Qmc g;have hsz:its.toArray.size+a.toArray.size<=Gj:=by rw[List.size_toArray,List.size_toArray];lia
 have c:¬(!its.toArray.isEmpty&&Builtin.List.listTooLong (its.toArray.size+a.toArray.size))=Gf:=by rw[Qqw hsz,Bool.and_false];exact Gx
 refine LL F.slot_list_extend ⟨_,e,Xb⟩ F.entry_list_extend (F.args_list_extend_2 _ _)
  (L9 l its.toArray n b a.toArray n2 c (by rw[List.size_toArray];lia) (by lia)) ⟨e,f,?_⟩
 refine⟨.non,_,I.Qwc (its':=its++a) d e (by simp) (r.append j) ?_,Xb,q⟩;rw[List.length_append];lia
inductive Qyy(x:V)(vs:List V)(H:Hp)(Q:VK):Prop
 |mk (l:_) (xs:_) (y:_) (h0:x=.ref l) (h1:vs=[]) (h2:H l=Ga (.lst xs)) (h3:xs[xs.length - 1]?=Ga y) (h4:Q y (zj H l (.lst xs.dropLast))):Qyy x vs H Q
def Q4s:V->List V->Hp->VK->Prop:=λx vs H Q=>Qyy x vs H Q
theorem Qdy:MtM X "list.pop" Q4s:=by
 intro zq s σ H x vs v us Q I i rv h;obtain⟨l,xs,y,rfl,rfl,c,f,q⟩:=h;cases i;have a:=rv.zero;subst a;obtain⟨z,its,n,r,hl,e⟩:=I.Qmc c;obtain⟨u,d,g⟩:=r.get f;have b:its.toArray[its.toArray.size - 1]?=Ga u:=by show its.toArray[its.length - 1]?=Ga u;rw[<-T8,<-hl];exact d
 refine LL F.slot_list_pop ⟨_,e,Xb⟩ F.entry_list_pop (F.args_list_pop_1 _) (Nc l its.toArray n u b (by rw[List.size_toArray];omega)) ⟨e,?_⟩;refine⟨y,_,I.Qwc (its':=its.dropLast) c e ?_ r.dropLast ?_,g,q⟩
 ·show its.toArray.eraseIdxIfInBounds (its.toArray.size - 1)=its.dropLast.toArray;rw[List.size_toArray,List.eraseIdxIfInBounds_toArray,Qk3]
 ·rw[List.length_dropLast];omega
inductive Qza(x:V)(y:V)(H:Hp)(Q:VK):Prop
 |mk (l:_) (b:_) (xs:_) (zs:_) (h0:x=.ref l) (h1:y=.ref b) (h2:H l=Ga (.lst xs)) (h3:H b=Ga (.lst zs)) (h4:xs.length+zs.length<=Gj) (h5:∀p,H p=Gh->Q (.ref p) (zj H p (.lst (xs++zs)))):Qza x y H Q
def Q5q:R2:=λx y H Q=>Qza x y H Q
theorem Ul:O6 X (binaryOp .Add) Q5q:=by
 intro zq s σ H x y v u Q I j k h;obtain⟨l,b,xs,zs,rfl,rfl,f,d,hz,q⟩:=h;cases j;cases k;obtain⟨z,its,n,r,hl,e⟩:=I.Qmc f;obtain⟨m,a,n2,i,g,c⟩:=I.Qmc d;refine RU e c ?_ (by rw[List.size_toArray,List.size_toArray];omega);have ea:its.toArray++a.toArray=(its++a).toArray:=by simp
 rw[ea];exact⟨.ref _,_,I.Q3y (t':=s.toks) (r.append i) (by rw[List.length_append];omega),Xb,q _ I.fresh⟩
end
section
variable{κ:Type}[DecidableEq κ]
def Y2(zw:List (κ×V))(k:κ):Option V:=(zw.find? λa=>decide (a.1=k)).map (·.2)
def W9(zw:List (κ×V))(k:κ)(v:V):List (κ×V):=
 if(zw.any λa=>decide (a.1=k))=Gf then zw.map (λa=>if a.1=k then(a.1,v)else a)else zw++[(k,v)]
theorem Qdj{k:κ}:Y2 ([]:List (κ×V)) k=Gh:=rfl
theorem Xo{p:κ×V}{r:List (κ×V)}{k:κ}(e:p.1=k):Y2 (p::r) k=Ga p.2:=by simp[Y2,List.find?_cons,e]
theorem Xi{p:κ×V}{r:List (κ×V)}{k:κ}(e:¬p.1=k):Y2 (p::r) k=Y2 r k:=by simp[Y2,List.find?_cons,e]
theorem U4(k:κ):∀zw:List (κ×V),(zw.any λa=>decide (a.1=k))=(Y2 zw k).isSome
 |[]=>rfl
 |p::r=>by
  rw[List.any_cons];by_cases e:p.1=k
  ·simp only[Xo e,GX e,Bool.true_or,LM]
  ·rw[Xi e,Gz e,Bool.false_or];exact U4 k r
theorem Qh5(k j:κ)(y:V):∀zw:List (κ×V),Y2 (zw.map λa=>if a.1=k then(a.1,y)else a) j=(Y2 zw j).map λx=>if j=k then y else x
 |[]=>rfl
 |p::r=>by
  have b:=Qh5 k j y r;rw[List.map_cons];by_cases h:p.1=k
  ·rw[Gn h];by_cases e:p.1=j
   ·rw[Xo (p:=(p.1,y)) e,Xo e,TZ,Gn (e.symm.trans h)]
   ·rw[Xi (p:=(p.1,y)) e,Xi e,b]
  ·rw[Gi h];by_cases e:p.1=j
   ·rw[Xo (p:=p) e,Xo e,TZ,Gi (λz=>h (e.trans z))]
   ·rw[Xi (p:=p) e,Xi e,b]
theorem Qan(k j:κ)(y:V):∀zw:List (κ×V),Y2 zw k=Gh->Y2 (zw++[(k,y)]) j=if j=k then Ga y else Y2 zw j
 |[],_=>by
  by_cases e:k=j
  ·rw[Gn e.symm];exact Xo (p:=(k,y)) e
  ·rw[Gi (λz=>e z.symm)];exact Xi (p:=(k,y)) e
 |p::r,a=>by
  rw[List.cons_append];have b:¬p.1=k:=λz=>by rw[Xo z]at a;cases a
  rw[Xi b]at a;have c:=Qan k j y r a;by_cases e:p.1=j
  ·rw[Xo e,Xo e,Gi (λz=>b (e.trans z))]
  ·rw[Xi e,Xi e,c]
theorem Qed(zw:List (κ×V))(k j:κ)(y:V):Y2 (W9 zw k y) j=if j=k then Ga y else Y2 zw j:=by
 unfold W9;by_cases a:(zw.any λc=>decide (c.1=k))=Gf
 ·rw[Gn a,Qh5];rw[U4]at a;by_cases e:j=k
  ·obtain⟨x,b⟩:=SA.mp a;rw[Gn e,e,b,TZ,Gn rfl]
  ·rw[Gi e];cases Y2 zw j with
   |none=>rfl
   |some x=>rw[TZ,Gi e]
 ·rw[Gi a];refine Qan k j y zw ?_;rw[U4]at a;cases q:Y2 zw k with
  |none=>rfl
  |some x=>rw[q]at a;exact(a Xb).elim
theorem Wm(zw:List (κ×V))(k:κ)(v:V):(W9 zw k v).length<=zw.length+1:=by
 unfold W9;split
 ·rw[List.length_map];omega
 ·rw[List.length_append,List.length_cons,List.length_nil];omega
theorem Qq5{zw:List (κ×V)}{k:κ}(v:V)(h:Y2 zw k=Gh):W9 zw k v=zw++[(k,v)]:=by unfold W9;rw[U4,h];exact Gi (by decide)
theorem Ia.Wk{o:Option V}{u:Option Value}(r:Ia o u):o.isSome=u.isSome:=by
 cases o with
 |none=>cases u with
  |none=>rfl
  |some _=>exact(show False from r).elim
 |some _=>cases u with
  |none=>exact(show False from r).elim
  |some _=>rfl
theorem KV.val{zw:List (κ×V)}{vs:List (κ×Value)}(r:KV zw vs)(k:κ):Ia (Y2 zw k) (valueAt vs k):=by
 unfold KV at r;induction r with
 |nil=>exact TC
 |@cons p q ps c h t d=>
  obtain⟨h1,h2⟩:=h;by_cases e:p.1=k
  ·have a:q.1=k:=h1.symm.trans e;have b:valueAt (q::c) k=Ga q.2:=by simp[valueAt,List.find?_cons,a]
   rw[Xo e,b];exact h2
  ·have a:¬q.1=k:=λz=>e (h1.trans z);have b:valueAt (q::c) k=valueAt c k:=by simp[valueAt,List.find?_cons,a]
   rw[Xi e,b];exact d
theorem KV.any{zw:List (κ×V)}{vs:List (κ×Value)}(r:KV zw vs)(k:κ):(zw.any λa=>decide (a.1=k))=vs.any λa=>decide (a.1=k):=by
 unfold KV at r;induction r with
 |nil=>rfl
 |cons h t b=>rw[List.any_cons,List.any_cons,b,h.1]
theorem KV.Qzv{zw:List (κ×V)}{vs:List (κ×Value)}(r:KV zw vs)(k:κ)(c:RelV y u):
  KV (zw.map λa=>if a.1=k then(a.1,y)else a) (vs.map λa=>if a.1=k then(a.1,u)else a):=by
 unfold KV at r⊢;induction r with
 |nil=>exact .nil
 |@cons p q ps d h t b=>
  rw[List.map_cons,List.map_cons];refine .cons ?_ b;obtain⟨h1,h2⟩:=h;by_cases e:p.1=k
  ·rw[Gn e,Gn (h1.symm.trans e)];exact⟨h1,c⟩
  ·rw[Gi e,Gi (λz=>e (h1.trans z))];exact⟨h1,h2⟩
theorem KV.put{zw:List (κ×V)}{vs:List (κ×Value)}(r:KV zw vs)(k:κ)(a:RelV y u):KV (W9 zw k y) (stored vs k u):=by
 unfold W9 stored;rw[r.any k];by_cases e:(vs.any λb=>decide (b.1=k))=Gf
 ·rw[Gn e,Gn e];exact r.Qzv k a
 ·rw[Gi e,Gi e];exact DI r ⟨Xb,a⟩
theorem KV.length{zw:List (κ×V)}{vs:List (κ×Value)}(r:KV zw vs):zw.length=vs.length:=Gr r
end
theorem Qgc{k:Xv}(r:RelV (kV k) u):(Ym P w).is k u=Gf:=by
 cases k with
 |inl i=>obtain⟨t,e⟩:=(show∃t,u=Value.int i t from r);subst e;exact Qh4 P w i t
 |inr x=>obtain⟨t,e⟩:=(show∃t,u=Value.str x t from r);subst e;exact Qim P w x t
theorem Qfi{P:Gg}{w:Gs}:∀{a:List Xv}{us:List Value},Zv (a.map kV) us->ItemsAre (Ym P w) a us
 |[],_,r=>by rw[List.map_nil]at r;cases r;exact .nil
 |k::a,_,r=>by
  rw[List.map_cons]at r;cases r with
  |cons h t=>exact .cons (Qgc h) (Qfi t)
abbrev KT(H:Hp):List (List Xv×V)->List (List Xv×Gc×Value)->Prop:=Paired λp q=>p.1=q.1/\H q.2.1=Ga (.tup (p.1.map kV))/\RelV p.2 q.2.2
theorem KT.val(r:KT H zw xs)(k:List Xv):Ia (Y2 zw k) ((atKey xs k).map (·.2)):=by
 induction r with
 |nil=>exact TC
 |@cons p q ps c h t d=>
  obtain⟨h1,_,h2⟩:=h;by_cases e:p.1=k
  ·have a:q.1=k:=h1.symm.trans e;have b:atKey (q::c) k=Ga q.2:=by simp[atKey,List.find?_cons,a]
   rw[Xo e,b];exact h2
  ·have a:¬q.1=k:=λz=>e (h1.trans z);have b:atKey (q::c) k=atKey c k:=by simp[atKey,List.find?_cons,a]
   rw[Xi e,b];exact d
theorem KT.Qzv(r:KT H zw xs)(k:List Xv)(d:RelV y u):
  KT H (zw.map λa=>if a.1=k then(a.1,y)else a) (xs.map (putAt k u)):=by
 induction r with
 |nil=>exact .nil
 |@cons p q ps f h t c=>
  rw[List.map_cons,List.map_cons];refine .cons ?_ c;obtain⟨h1,h2,b⟩:=h;unfold putAt;by_cases e:p.1=k
  ·rw[Gn e,Gn (h1.symm.trans e)];exact⟨h1,h2,d⟩
  ·rw[Gi e,Gi (λz=>e (h1.trans z))];exact⟨h1,h2,b⟩
theorem KT.put(r:KT H zw xs)(k:List Xv)(hb:H b=Ga (.tup (k.map kV)))(a:RelV y u):
  KT H (W9 zw k y) (storedH xs k b u):=by
 have e:(zw.any λc=>decide (c.1=k))=(atKey xs k).isSome:=by rw[U4,(r.val k).Wk,D0]
 unfold W9 storedH;rw[e];by_cases q:(atKey xs k).isSome=Gf
 ·rw[Gn q,Gn q];exact r.Qzv k a
 ·rw[Gi q,Gi q];exact DI r ⟨Xb,hb,a⟩
theorem KT.keeps(r:KT H zw xs)(a:∀b ys,H b=Ga (.tup ys)->H' b=Ga (.tup ys)):KT H' zw xs:=
 Paired.Ya r λ_ _ z=>⟨z.1,a _ _ z.2.1,z.2.2⟩
section
variable{P:Gg}{w:Gs}{H:Hp}{h:Heap}{a:Gc}
theorem Qzg{u:HO}(ok:Re P w H h)(e:Rd H a u):Z3 P w H h a u:=e.ok ok
theorem Qf6{zw:List (Xv×V)}(ok:Re P w H h)(e:Rd H a (.dK zw)):zw.length<=Gj/\(a==T9)=Gq/\∃vs,KV zw vs/\h.DictOf (Ym P w) a vs:=
 show Z3 P w H h a (.dK zw)from Qzg ok e
theorem Qot{zw:List (Xv×V)}(ok:Re P w H h)(e:H a=Ga (.dK zw)):zw.length<=Gj/\(a==T9)=Gq/\∃vs,KV zw vs/\h.DictOf (Ym P w) a vs:=Qf6 ok (.inl e)
theorem Qai{b:List Xv}(ok:Re P w H h)(e:H a=Ga (.tup (b.map kV))):(tupleKind (Ym P w)).is h b a:=by obtain⟨_,its,r,o,h1,h2,n,c⟩:=(show Z3 P w H h a (.tup (b.map kV))from ok a _ e);exact⟨o,its.toArray,n,h1,h2,c,by simpa using Qfi r⟩
theorem Qkb(ok:Re P w H h)(e:Rd H a (.dT zw)):zw.length<=Gj/\(a==T9)=Gq/\
  ∃xs,KT H zw xs/\h.DictOfH (tupleKind (Ym P w)) a xs:=by
 obtain⟨z,y,xs,r,o,es,ep,h1,h2,d,f,g⟩:=(show Z3 P w H h a (.dT zw)from Qzg ok e);refine⟨z,y,xs,r,o,es,ep,h1,h2,d,f,λx b=>?_,g⟩;have all:∀{l:List (List Xv×V)}{m:List (List Xv×Gc×Value)},KT H l m->∀x∈m,(tupleKind (Ym P w)).is h x.1 x.2.1:=by
  intro l m q;induction q with
  |nil=>intro x b;exact nomatch b
  |@cons p q ps j c t i=>
   intro x b;rcases List.mem_cons.mp b with e|b
   ·subst e;exact Qai ok (by rw[<-c.1];exact c.2.1)
   ·exact i x b
 exact all r x b
theorem Qyx(ok:Re P w H h)(e:H a=Ga (.dT zw)):zw.length<=Gj/\(a==T9)=Gq/\
  ∃xs,KT H zw xs/\h.DictOfH (tupleKind (Ym P w)) a xs:=Qkb ok (.inl e)
end
def Wx(H:Hp)(a:Gc)(y:V)(r:Option V):Prop:=
 (∃zw k,Rd H a (.dK zw)/\y=kV k/\r=Y2 zw k)\/∃zw k b,Rd H a (.dT zw)/\y=.ref b/\H b=Ga (.tup (k.map kV))/\r=Y2 zw k
def I8(H:Hp)(a:Gc)(y v:V)(H':Hp):Prop:=
 (∃zw k,H a=Ga (.dK zw)/\y=kV k/\zw.length<Gj/\H'=zj H a (.dK (W9 zw k v)))\/
 ∃zw k b,H a=Ga (.dT zw)/\y=.ref b/\H b=Ga (.tup (k.map kV))/\zw.length<Gj/\H'=zj H a (.dT (W9 zw k v))
theorem Wx.k{H:Hp}{a:Gc}{zw:List (Xv×V)}{k:Xv}(e:H a=Ga (.dK zw)):Wx H a (kV k) (Y2 zw k):=.inl ⟨zw,k,.inl e,Xb,Xb⟩
theorem Wx.t{k:List Xv}(e:H a=Ga (.dT zw))(c:H b=Ga (.tup (k.map kV))):Wx H a (.ref b) (Y2 zw k):=.inr ⟨zw,k,b,.inl e,Xb,c,Xb⟩
theorem I8.k{H:Hp}{a:Gc}{zw:List (Xv×V)}{k:Xv}{v:V}(e:H a=Ga (.dK zw))(hl:zw.length<Gj):I8 H a (kV k) v (zj H a (.dK (W9 zw k v))):=.inl ⟨zw,k,e,Xb,hl,Xb⟩
theorem I8.t{k:List Xv}{v:V}(e:H a=Ga (.dT zw))(c:H b=Ga (.tup (k.map kV)))(hl:zw.length<Gj):
  I8 H a (.ref b) v (zj H a (.dT (W9 zw k v))):=.inr ⟨zw,k,b,e,Xb,c,hl,Xb⟩
section
variable{X:Cx}{zq:List (Gc×Eg)}{σ:St}{H:Hp}{s:Gk}{a:Gc}{y v:V}{u r:Value}{o:Option V}{A:TL}{E:Value->Gk->Prop}
theorem Inv.big(I:Inv X zq σ H s):T9<s.heap.objs.size:=by have h:T5<s.heap.objs.size:=(I.mod.glob.keeps I.bk).lt;exact Nf (by decide) h
theorem Qpg(r:A.units+1<DR)(I:Inv X zq σ H s)(g:Wx H a y (Ga v))(m:RelV y u)(h:∀d s',Inv X zq σ H s'->RelV v d->Q d s'):
  wpAny (GY X.prog X.w) A (getItem (.ref a) u) Q E s:=by
 rcases g with⟨zw,k,e,i,l⟩|⟨zw,k,b,e,i,n,l⟩
 ·subst i;obtain⟨z,hd,vs,rel,f⟩:=Qf6 I.Zw e;obtain⟨d,hw,c⟩:=Ia.some_of (v:=v) (o:=valueAt vs k) (by rw[l];exact rel.val k);exact wpAny_getItem_of (Qgc m) f.mapOf hw (h d _ (I.tok _) c)
 ·subst i;cases(show u=Value.ref b from m);obtain⟨z,hd,xs,rel,f⟩:=Qkb I.Zw e;obtain⟨d,hw,c⟩:=Ia.some_of (v:=v) (o:=(atKey xs k).map (·.2)) (by rw[l];exact rel.val k);obtain⟨p,q,j⟩:=EL.mp hw;refine LN (Ej r) (Qai I.Zw n) f q ?_;rw[j];exact h d _ (I.tok _) c
theorem Q4q(j:A.units+1<DR)(I:Inv X zq σ H s)(g:Wx H a y o)(f:RelV y u)(h:∀s',Inv X zq σ H s'->Q (.bool o.isSome) s'):
  wpAny (GY X.prog X.w) A (Dm .In u (.ref a)) Q E s:=by
 rcases g with⟨zw,k,e,d,l⟩|⟨zw,k,b,e,d,i,l⟩
 ·subst d;obtain⟨z,hd,vs,rel,c⟩:=Qf6 I.Zw e;refine wpAny_in_of (Qgc f) hd c.mapOf ?_;rw[<-(rel.val k).Wk,<-l];exact h _ (I.tok _)
 ·subst d;cases(show u=Value.ref b from f);obtain⟨z,hd,xs,rel,c⟩:=Qkb I.Zw e;refine ME (Ej j) (Qai I.Zw i) hd c ?_;have q:=(rel.val k).Wk;rw[D0]at q;rw[<-q,<-l];exact h _ (I.tok _)
theorem Qv0(j:A.units+1<DR)(I:Inv X zq σ H s)(g:Wx H a y o)(f:RelV y u)(h:∀s',Inv X zq σ H s'->Q (.bool (!o.isSome)) s'):
  wpAny (GY X.prog X.w) A (Dm .NotIn u (.ref a)) Q E s:=by
 rcases g with⟨zw,k,e,d,l⟩|⟨zw,k,b,e,d,i,l⟩
 ·subst d;obtain⟨z,hd,vs,rel,c⟩:=Qf6 I.Zw e;refine wpAny_notIn_of (Qgc f) hd c.mapOf ?_;rw[<-(rel.val k).Wk,<-l];exact h _ (I.tok _)
 ·subst d;cases(show u=Value.ref b from f);obtain⟨z,hd,xs,rel,c⟩:=Qkb I.Zw e;refine Fs (Ej j) (Qai I.Zw i) hd c ?_;have q:=(rel.val k).Wk;rw[D0]at q;rw[<-q,<-l];exact h _ (I.tok _)
theorem Ir{h':Heap}{ob:HO}(I:Inv X zq σ H s)(mu:Mut (H a))(d:Heap.SameBut a s.heap h')(c:∃q,h'.get? a=Ga q)(new:Z3 X.prog X.w (zj H a ob) h' a ob):
  Inv X zq σ (zj H a ob) {s with heap:=h',toks:=t'}:=
 I.write (x:=a) (e:=a) mu (.inl Xb) (λb q hb z=>(d.2 b hb).trans z) c new
theorem Qto{h':Heap}{zw:List (Xv×V)}{vs:List (Xv×Value)}(z:zw.length<=Gj)(hd:(a==T9)=Gq)(rel:KV zw vs)(b:h'.DictOf (Ym P w) a vs):
  Z3 P w H' h' a (.dK zw):=⟨z,hd,vs,rel,b⟩
theorem Qpc{Q:Unit->Gk->Prop}(F:A.units+1<DR)(I:Inv X zq σ H s)(g:I8 H a y v H')(t:RelV y u)(rv:RelV v r)(h:∀s',Inv X zq σ H' s'->Q () s'):
  wpAny (GY X.prog X.w) A (setItem (.ref a) u r) Q E s:=by
 rcases g with⟨zw,k,e,m,l,j⟩|⟨zw,k,b,e,m,o,l,j⟩
 ·subst m j;obtain⟨z,hd,vs,rel,i⟩:=Qot I.Zw e;have hz:vs.length<=Gj:=by rw[<-rel.length];exact z
  have hl:(W9 zw k v).length<=Gj:=by have:=Wm zw k v;omega
  refine wpAny_setItem_pairs (hsz:=hz) (Qgc t) i λh' d n=>h _ ?_;have D:∃q,h'.get? a=Ga q:=let⟨q,_,_,f,_⟩:=d;⟨q,f⟩;exact Ir I (by rw[e];exact TC) n D (Qto hl hd (rel.put k rv) d)
 ·subst m j;cases(show u=Value.ref b from t);obtain⟨z,hd,xs,rel,i⟩:=Qyx I.Zw e;have hz:xs.length<=Gj:=by rw[<-Gr rel];exact z
  have hl:(W9 zw k v).length<=Gj:=by have:=Wm zw k v;omega
  refine LO (hsz:=hz) (Ej F) (Qai I.Zw o) i λh' d n=>h _ ?_;obtain⟨q,es,ep,f,h2,x,B,_,C⟩:=d;refine Ir I (by rw[e];exact TC) n ⟨q,f⟩ ⟨hl,hd,_,(rel.put k o rv).keeps λc ys p=>?_,q,es,ep,f,h2,x,B,C⟩;rw[Qf (Zi p e nofun)];exact p
end
section
variable{X:Cx}{zq:List (Gc×Eg)}{σ:St}{H:Hp}{s:Gk}{a:Gc}{zw:List (Xv×V)}{k:Xv}{u:Value}{A:TL}{E:Value->Gk->Prop}
theorem Q11(I:Inv X zq σ H s)(e:Rd H a (.dK zw))(h:∀t s',Inv X zq σ H s'->Q (.int zw.length t) s'):wpAny (GY X.prog X.w) A (call (.builtin "len") [.ref a]) Q E s:=by obtain⟨z,hd,vs,rel,b⟩:=Qf6 I.Zw e;refine call_len_dict hd b (by rw[<-rel.length];rw[GQ]at z;lia) ?_;rw[<-rel.length];exact h _ _ (I.tok _)
end
def Q3p(i:T3):Prop:=∀ov a,subscripted i Gq ov a=operate [ov,a] (getItem ov a)
theorem Qwo{prog:Gg}{A:TL}{E:Value->Gk->Prop}{env:LR}{value a:T3}{pos:SX}{T id:String}
  (hl:typeLookup (.type T) "__getitem__"=pure (Ga (.builtin id)))(j:Q3p a)
  (h:wpAny (GY prog w) A (eval value env) (λo d=>wpAny (GY prog w) A (eval a env) (λi b=>b.TypeIs o T/\wpAny (GY prog w) A (getItem o i) Q E b) E d) E s):
  wpAny (GY prog w) A (eval (.Subscript value a pos) env) Q E s:=by
 refine FL (DD h (λo d h₁=>DD h₁ (λi b c=>?_) λ_ _ x=>x) λ_ _ x=>x);obtain⟨g,c⟩:=c;unfold subscriptTail;refine Gb ?_;rw[getitemInPython_of_ne g.not_modules];refine Gb (DO g hl ?_);have fin:wpAny (GY prog w) A (subscripted a Gq o i) (λr e=>wpAny (GY prog w) A (letTemporaryGo value o r>>=λ_=>pure r) Q E e) E b:=by rw[j o i];exact wpAny_operating (DD c (λr e f=>Gb (wpAny_letTemporaryGo (Ge f))) λ_ _ x=>x)
 first
  |exact Ge (Gb fin)
  |exact Gb (Ge (Gb fin))
  |exact Gb fin
theorem Qke{X:Cx}{zq:List (Gc×Eg)}{σ:St}{o:Option V}(I:Inv X zq σ H s)(g:Wx H a y o):s.TypeIs (.ref a) "dict":=by
 rcases g with⟨zw,k,e,_,_⟩|⟨zw,k,b,e,_,_,_⟩
 ·obtain⟨_,_,vs,_,c⟩:=Qf6 I.Zw e;exact c.typeIs
 ·obtain⟨_,_,xs,_,c⟩:=Qkb I.Zw e;exact c.typeIs
inductive Quu(Q:VK)(x:V)(y:V)(H2:Hp):Prop
 |mk (a:_) (v:_) (h0:x=.ref a) (h1:Wx H2 a y (Ga v)) (h2:Q v H2):Quu Q x y H2
def Qi6(td ty:TE):TE:=λσ H Q=>td σ H λx H1=>ty σ H1 λy H2=>Quu Q x y H2
inductive Qyq(Q:VK)(y:V)(x:V)(H2:Hp):Prop
 |mk (a:_) (o:_) (h0:x=.ref a) (h1:Wx H2 a y o) (h2:Q (.bl o.isSome) H2):Qyq Q y x H2
def Q43(ty td:TE):TE:=λσ H Q=>ty σ H λy H1=>td σ H1 λx H2=>Qyq Q y x H2
inductive Qjd(Q:VK)(y:V)(x:V)(H2:Hp):Prop
 |mk (a:_) (o:_) (h0:x=.ref a) (h1:Wx H2 a y o) (h2:Q (.bl (!o.isSome)) H2):Qjd Q y x H2
def Qw8(ty td:TE):TE:=λσ H Q=>ty σ H λy H1=>td σ H1 λx H2=>Qjd Q y x H2
inductive Quk(D:Ends)(σ:St)(v:V)(x:V)(y:V)(H3:Hp):Prop
 |mk (a:_) (H4:_) (h0:x=.ref a) (h1:I8 H3 a y v H4) (h2:D.nx σ H4):Quk D σ v x y H3
def Qzf(td ty tv:TE):TS:=λD σ H=>tv σ H λv H1=>td σ H1 λx H2=>ty σ H2 λy a=>Quk D σ v x y a
section
variable{X:Cx}{o i e value:T3}{pos pos' tpos:SX}{td ty tv:TE}
theorem Zr(k:X.A.units+1<DR)(f:PE X o td)(hi:PE X i ty)(j:Q3p i):PE X (.Subscript o i pos) (Qi6 td ty):=by intro zq s σ H Q I h;refine Qwo Sn.lookup j (Yq (f zq s σ H _ I h) λu s1⟨x,H1,d,n,l⟩=>Yq (hi zq s1 σ H1 _ d l) λq s2⟨y,H2,c,p,a,v,ex,g,m⟩=>?_);subst ex;obtain rfl:u=Value.ref a:=n;exact⟨Qke c g,Qpg k c g p λt r e b=>⟨v,H2,e,b,m⟩⟩
theorem Qmm(f:X.A.units+1<DR)(hi:PE X i ty)(e:PE X o td):PC X .In i o (Q43 ty td):=by intro zq s σ H Q I h;refine Yq (hi zq s σ H _ I h) λn s1⟨y,H1,b,m,j⟩=>Yq (e zq s1 σ H1 _ b j) λu s2⟨x,H2,c,l,a,ov,ex,g,k⟩=>?_;subst ex;obtain rfl:u=Value.ref a:=l;exact Q4q f c g m λp d=>⟨.bl ov.isSome,H2,d,Xb,k⟩
theorem Qp2(f:X.A.units+1<DR)(hi:PE X i ty)(e:PE X o td):PC X .NotIn i o (Qw8 ty td):=by intro zq s σ H Q I h;refine Yq (hi zq s σ H _ I h) λn s1⟨y,H1,b,m,j⟩=>Yq (e zq s1 σ H1 _ b j) λu s2⟨x,H2,c,l,a,ov,ex,g,k⟩=>?_;subst ex;obtain rfl:u=Value.ref a:=l;exact Qv0 f c g m λp d=>⟨.bl (!ov.isSome),H2,d,Xb,k⟩
theorem Wo(l:X.A.units+1<DR)(j:PE X o td)(hi:PE X i ty)(m:PE X value tv)(k:swapsWith value (Ga (.Subscript o i pos')) pos.line X.env=pure Gq):
  PS X (.Assign [.Subscript o i pos'] value pos) (Qzf td ty tv):=by
 intro zq s σ H D I h;refine wpAny_Assign_Subscript (Yq (m zq s σ H _ I h) λr s1⟨v,H1,c,rv,n⟩=>Yq (j zq s1 σ H1 _ c n) λu s2⟨x,H2,d,t,p⟩=>Yq (hi zq s2 σ H2 _ d p) λB C⟨y,z,e,w,a,b,ex,g,q⟩=>?_) k;subst ex;obtain rfl:u=Value.ref a:=t;exact Qpc l e g w rv λs4 f=>⟨σ,b,f,q⟩
end
theorem Qq8(h:Heap)(hb:T9<h.objs.size):Z3 P w H (h.push {cls:=.type "dict",data:=.dict #[]}) h.objs.size (.dK []):=
 ⟨Gw _,DA.mpr (Gp (Td hb)),[],.nil,Heap.DictOf.new h⟩
theorem Qu3(h:Heap)(hb:T9<h.objs.size):Z3 P w H (h.push {cls:=.type "dict",data:=.dict #[]}) h.objs.size (.dT []):=
 ⟨Gw _,DA.mpr (Gp (Td hb)),[],.nil,_,#[],0,Heap.get?_push_size _ Xb,⟨Xb,Xb,Xb⟩,Xb,Xb,List.nodup_nil⟩
def Qz7:TE:=λ_ H Q=>∀p,H p=Gh->Q (.ref p) (zj H p (.dK []))
def Qzz:TE:=λ_ H Q=>∀p,H p=Gh->Q (.ref p) (zj H p (.dT []))
section
variable{X:Cx}{pos:SX}
theorem U7:PE X (.Dict [] [] pos) Qz7:=λzq s σ H Q I h=>SJ ⟨.ref s.heap.objs.size,_,I.laid (a:=s.heap.objs.size) (o:=.dK []) (t':=s.toks) (λ_ _ q=>Heap.get?_push_of_some _ q) (Gm _) (Qq8 s.heap I.big),Xb,h _ (I.Zw.fresh (Gm _))⟩
theorem Of:PE X (.Dict [] [] pos) Qzz:=λzq s σ H Q I h=>SJ ⟨.ref s.heap.objs.size,_,I.laid (a:=s.heap.objs.size) (o:=.dT []) (t':=s.toks) (λ_ _ q=>Heap.get?_push_of_some _ q) (Gm _) (Qu3 s.heap I.big),Xb,h _ (I.Zw.fresh (Gm _))⟩
end
structure M2(X:Cx)(o:T3)(m:Ta)(apos:SX)(e f:T3)(cpos:SX):Prop where
 base:attributeBase o m X.env (eval o X.env)=eval o X.env
 few:((DQ cpos (Te [e,f] X.env)).all (λx=>!x.1)&&(backToKw cpos (keywordEach [] X.env)).all (λx=>x.1.isSome)
  &&decide (([e,f]:List T3).length+([]:List L6).length+(if([]:List L6).isEmpty then 0 else 1)<30))=Gf
 line:(apos.endLine==cpos.line)=Gf
 trees:DQ cpos (Te [e,f] X.env)=[(Gq,eval e X.env),(Gq,eval f X.env)]
end L2
namespace Att
open PySem PySem.W PySem.Calls PyProof.Rows
theorem Qby{P:M1}{h:Heap}:∀(ns:List Int)(vs:List Value),WellAll P h vs (ns.map RV)->SW vs ns:=by
 intro ns;induction ns with
 |nil=>intro vs w;rw[List.map_nil]at w;cases w;exact .nil
 |cons n ns c=>
  intro vs w;rw[List.map_cons]at w;cases w with
  |cons a b=>cases a;exact .cons _ _ (c _ b)
theorem Qp6{l:MY}{n:Nat}(o:l.most=Ga n){P:M1}{h:Heap}{args:List WData}{c:List Value}
  (b:l.row.toRowW.claim.pre args=Gf)(k:WellAll P h c args):
  ∃a vs ns,c=[Value.ref a]/\args=[WData.list (ns.map RV)]/\h.get? a=Ga {cls:=.type "list",data:=.seq vs.toArray}/\SW vs ns/\ns.length<=n:=by
 have j:WShape.hasAll [] args [.list .int]=Gf:=(NX b).1;have hc:l.pre.holds [] {args:=args}=Gf:=(NX b).2;obtain⟨d,r,rfl,h1,h2⟩:=hasAllW_cons j;obtain rfl:=hasAllW_nil h2;obtain⟨xs,rfl,m⟩:=hasW_list h1;obtain⟨ns,rfl⟩:=items_int m;have f:ns.length<=n:=by
  unfold Bn at hc;have g:(WTm.not (.lt (.lit (.int (n:Int))) (.len (.arg 0)))).holds [] {args:=[.list (ns.map .int)]}=Gf:=by have g:=(holds_andW hc).1;rw[o]at g;exact g
  have i:=condW_of g (w_not (w_lt w_lit (w_len_list (w_arg Xb))));rw[List.length_map]at i;refine Ft λq=>?_;have s:(n:Int)<((ns.length:Nat):Int):=by omega
  first
   |(rw[GX s]at i;exact absurd i (by decide))
   |(simp at i;omega)
 cases k with
 |cons t u=>
  cases u;cases t with
  |list p e=>exact⟨_,_,ns,Xb,Xb,p,Qby ns _ e,f⟩
theorem Qov(l:MY)(args:List WData):l.row.toRowW.claim.post args (.bool Gf) args=Gf:=
 postW_of (r:=l.row.toRowW) (X:=(Gf==Gf))
  (show NY [] (.bool Gf) .bool=Gf by first|rfl|decide|simp[NY,WShape.arms,WShape.armsAll])
  (show(WTm.eq .res (.lit (.bool Gf))).value [] {args:=args,res:=Ga (.bool Gf),after:=args}=Ga (.bool (Gf==Gf))from w_eq_bool (w_res Xb) w_lit) rfl
theorem Qkc{l:MY}{n:Nat}{q:Gg}{c:List Ta}{v:(Ta->Option Value)->Heap->Prop}{x:Gs->Heap->Prop}{d:MZ}
  (I:l.most=Ga n)(p:d.params.defaults=[])
  (call:∀(w:Gs)(s₀ b:Gk)(mg u:Ta->Option Value)(g:Gc)(o:Eg)(pm k doc:Value)(a:Gc)(vs:List Value)(ns:List Int),
   Ground q c [] v w s₀ mg u b.heap->x w b.heap->
   b.heap.get? g=Ga o->o.data=.func (docDef d.name d.params d.body d.scope pm k doc)->b.heap.CodeRec k d.name->mg d.name=Ga (.ref g)->
   b.heap.get? a=Ga {cls:=.type "list",data:=.seq vs.toArray}->SW vs ns->ns.length<=n->b.gens=#[]->
   codeAny (GY l.prog w) callerA (.call (.ref g) ⟨[.ref a],[]⟩) (λr s'=>r=.ok (.ret (.bool Gf))/\OldK b.heap s'.heap/\s'.os=b.os/\Ss s'.gens) b):
  WalkO q c v x l.row.toRowW d [] (λf vs=>SM f vs):=by
 intro w s₀ b mg u G Y g o pm k doc B kV J hd m y s E args A M j z L t F;obtain rfl:B=.none:=Dflts.none y p;obtain rfl:kV=.none:=Dflts.noKw y;obtain⟨a,vs,ns,rfl,rfl,i,e,h⟩:=Qp6 I j t;refine enter_call (SS (call w s₀ b mg u g o pm k doc a vs ns G Y J (fd_plain hd) m s i e h E) λr s' K=>?_);obtain⟨rfl,h2,C,D⟩:=K;exact⟨.inl ⟨.bool Gf,.bool Gf,[],Xb,λ_=>rfl,.bool Gf,Qov l _,λ_=>⟨List.Pairwise.nil,λ_ H=>(nomatch H)⟩⟩,h2,C,D⟩
end Att
namespace L2
open PySem PySem.Spec PyProof.Rows
variable{k:Nat}{fd:Ts}{x qual:Ta}{st:T6}{f:Gc}{A B:Prop}{H:Hp}
theorem Qge:∀{vs:List Value}{ns:List Int},SW vs ns->Zv (ns.map V.int) vs
 |_,_,.nil=>.nil
 |_,_,.cons n t h=>.cons ⟨t,Xb⟩ (Qge h)
def Q0u(H:Hp):Prop:=∀b,H b=Gh\/∃o xs,H b=Ga (.frz o (.lst xs))
theorem Qq4{P:Gg}{w:Gs}{K:Gd}{mg M:Ta->Option Value}{CX:CXT}{E a:Gc}{sp:Sp}{c:Gk}{vs:List Value}{ns:List Int}
  (KX:K.In c.heap)(t:c.heap.Ns T5 mg)(hb:c.heap.Ns builtinsNs M)(I:∀x:Ta,x≠"__name__"->M x=bootBuiltins x)(p:c.heap.NoLimit)(Z:c.gens=#[])
  (C:c.heap.get? a=Ga {cls:=.type "list",data:=.seq vs.toArray})(hi:SW vs ns)(hl:ns.length<=Gj)(hr:Yb k callerA)
  (F:∀base:Heap,K.In base->base.Ns T5 mg->Qs P w K mg base CX k E fd [x] sp)(j:∀(s:Gk)(u:Value),L1 s fd ⟨[u],[]⟩ [(x,u)])
  (L:∀H:Hp,Q0u H->Zd K H a (ns.map V.int)->sp [.ref a] H (λv _=>v=.bl Gf) λ_ _ _=>False)
  (G:∀H e s',CX [] H c (λ_ _ _=>False) e s'->False):
  codeAny (GY P w) callerA (.call (.ref E) ⟨[.ref a],[]⟩) (λr s'=>r=.ok (.ret (.bool Gf))/\OldK c.heap s'.heap/\s'.os=c.os/\Ss s'.gens) c:=by
 have rv:=Qge hi;have A:=hi.length;have i:∀H:Hp,Q0u H->Zd K H a (ns.map V.int)->Re P w H c.heap->(∀b,H b≠Gh->b=a)->(H a≠Gh->K.lookup a=Gh)->
   codeAny (GY P w) callerA (.call (.ref E) ⟨[.ref a],[]⟩) (λr s'=>r=.ok (.ret (.bool Gf))/\OldK c.heap s'.heap/\s'.os=c.os/\Ss s'.gens) c:=by
  intro H R hS Zw Q X;have f:∀{b:Gc}{o:Eg},c.heap.get? b=Ga o->H b=Gh->(Qhm c.heap H).get? b=Ga o:=λe n=>Qso e n;have N:∀{b:Gc}{o:Eg}{es:Array Ep}{ep:Nat},c.heap.get? b=Ga o->o.data=.dict es ep->H b=Gh:=λ{b o es ep}e d=>by
   cases q:H b with
   |none=>rfl
   |some u=>have D:b=a:=Q b (by rw[q];simp);subst D;rw[C]at e;cases e;have d':Bg vs.toArray _=Data.dict es ep:=d;cases d'
  have g:∀{b:Gc}{m:Ta->Option Value},c.heap.Ns b m->(Qhm c.heap H).Ns b m:=λ{b m}⟨o,es,ep,e,d,r⟩=>⟨o,es,ep,f e (N e d),d,r⟩;have l:K.In (Qhm c.heap H):=λb o e=>f (KX b o e) (by
   cases q:H b with
   |none=>rfl
   |some u=>have D:b=a:=Q b (by rw[q];simp);subst D;rw[X (by rw[q];simp)]at e;cases e)
  have Y:Mod K mg (Qhm c.heap H):=⟨l,g t,⟨M,g hb,I⟩,let⟨mc,h1,h2⟩:=p;⟨mc,g h1,h2⟩⟩;have S:Qlu P w K mg (Qhm c.heap H) callerA [] c H:=⟨Xb,Y,λb o e=>Qvu e,Sa (Qoz _ _),trivial,λb hb=>absurd (show b∈([]:List Gc)from hb) (by simp),Zw,.of_eq Z⟩;refine SS ((F _ l (g t)).run callerA [] c H ⟨[.ref a],[]⟩ [.ref a] [.ref a] _ _ hr S (j c (.ref a)) (.cons rfl .nil) (L H R hS)) λr s' h=>?_;cases r with
  |error e=>exact(G H e s' h).elim
  |ok U=>
   cases U with
   |next=>exact False.elim h
   |brk=>exact False.elim h
   |cont=>exact False.elim h
   |ret u=>
    obtain⟨v,H',os,bare,un,y,r',q⟩:=h;have q':v=.bl Gf:=q;subst q';obtain rfl:u=Value.bool Gf:=r';refine⟨Xb,OldK.of_keep λb o e=>?_,os,bare⟩;cases q:H b with
    |none=>exact un.keep b o e q (by intro z;exact absurd (show b∈([]:List Gc)from z) (by simp)) (by simp)
    |some u=>
     rcases R b with z|⟨ob,xs,z⟩
     ·rw[q]at z;cases z
     ·have z2:=un.R8 b ob _ z;obtain⟨O,_⟩:=Zw b _ z;obtain⟨T,_⟩:=y b _ z2;rw[e]at O;cases O;exact T
 cases J:K.lookup a with
 |some o=>have e:=KX a o J;rw[C]at e;cases e;refine i (λ_=>Gh) (λ_=>.inl Xb) (.inr ⟨_,vs.toArray,_,J,Xb,Xb,Xb,by rw[List.size_toArray,A];exact hl,by simpa using rv⟩) (λb u z=>by have B:(Gh:Option HO)=Ga u:=z;cases B) (λb z=>absurd rfl z) λz=>absurd rfl z
 |none=>
  refine i (λb=>if b=a then Ga (.frz {cls:=.type "list",data:=.seq vs.toArray} (.lst (ns.map V.int)))else Gh) (λb=>?_) (.inl (.inr ⟨{cls:=.type "list",data:=.seq vs.toArray},Gn Xb⟩)) (λb u z=>?_) (λb z=>?_) λ_=>J
  ·by_cases hb:b=a
   ·exact .inr ⟨_,_,Gn hb⟩
   ·exact .inl (Gi hb)
  ·by_cases hb:b=a
   ·have B:=(Gn hb).symm.trans z;cases B;subst hb;exact⟨C,by rw[List.length_map];exact hl,vs,_,rv,C⟩
   ·have B:=(Gi hb).symm.trans z;cases B
  ·by_cases hb:b=a
   ·exact hb
   ·exact absurd (Gi hb) z
theorem Qxn{l:S0}{n:Nat}{q:Gg}{j:List Ta}{D:(Ta->Option Value)->Heap->Prop}{C:Gs->Heap->Prop}{d:MZ}{K:M1->Gd}{CX:Gs->CXT}{sp:Gs->Sp}
  (N:l.most=Ga n)(A:n<=Gj)(y:d.params.defaults=[])(O:Yb k callerA)
  (J:∀(w:Gs)(h:Heap),C w h->(K w.params).In h)
  (F:∀(w:Gs)(mg:Ta->Option Value)(r:Gc)(h:Heap),(K w.params).In h->h.Ns T5 mg->mg d.name=Ga (.ref r)->
   ∃fd:Ts,(∀(s:Gk)(u:Value),L1 s fd ⟨[u],[]⟩ [(x,u)])/\
    ∀base:Heap,(K w.params).In base->base.Ns T5 mg->Qs l.prog w (K w.params) mg base (CX w) k r fd [x] (sp w))
  (B:∀(w:Gs)(H:Hp)(a:Gc)(ns:List Int),ns.length<=n->Q0u H->Zd (K w.params) H a (ns.map V.int)->sp w [.ref a] H (λv _=>v=.bl Gf) λ_ _ _=>False)
  (t:∀(w:Gs)(H:Hp)(s:Gk)(e:Value)(s':Gk),CX w [] H s (λ_ _ _=>False) e s'->False):
  MF q j D C l.row.toRowW d [] (λf vs=>SM f vs):=by
 refine Att.Qkc N y λw s₀ p mg R r o pm P doc a vs ns G Y Q hd L z m i c M=>?_;have KX:=J w _ Y;obtain⟨fd,hb,E⟩:=F w mg r _ KX G.T.g z;exact Qq4 KX G.T.g G.T.b G.T.builtins G.T.nolimit M m i (Tt c A) O E hb (λH I hS=>B w H a ns c I hS) λH e s'=>t w H p e s'
abbrev Z4:CXT:=λ_ _ _ _ _ _=>False
abbrev E0:XK:=λ_ _ _=>False
theorem Q6{X:Cx}:Ij Z4 X E0:=λ_ _ _ _ _ _ _ h=>h.elim
structure Wd(K:Gd)(x qual:Ta)(st:T6)(f:Gc)(fd:Ts):Prop where
 ex:∃(oc:Value)(od:Option Gc)(kV doc pm:Value)(an:Option Gc)(cdv ct:Value)(osl:Array (Option Value)),
  fd=Dw x qual (Vg st) (Qj st) (Ql st) .none kV doc pm an cdv ct/\K.lookup f=Ga ⟨oc,od,.func fd,osl⟩/\Sd K cdv qual=Gf
 kp:TY K (.ref f)=Gf
section
variable{P:Gg}{w:Gs}{K:Gd}{mg:Ta->Option Value}{base:Heap}
theorem Wd.ok{N ps:List Ta}{sp:Sp}(F:Wd K x qual st f fd)(S:Qx N ps (Ql st))(len:∀vs H Q E,sp vs H Q E->vs.length=ps.length)
  (a:∀(cdv:Value)(A:TL)(outer:List LR)(s:Gk)(H:Hp)(vs:List V)(Q:VK)(E:XK),Yb k (A.deeper (envOfC qual (Ql st) s.heap.objs.size f cdv))->sp vs H Q E->
   ∃t,Z7 (Qkf Z4 P w K mg base N qual (Ql st) f cdv A outer s H E).nox (Qj st) t/\t {nx:=λ_ H'=>Q .non H',rt:=Q} (start N vs) H):Qs P w K mg base Z4 (k+1) f fd ps sp:=by
 obtain⟨oc,od,kV,doc,pm,an,cdv,ct,osl,rfl,lk,b⟩:=F.ex;refine Q3x lk b S len λA outer s H vs Q E d c=>?_;obtain⟨t,h,q⟩:=a cdv A outer s H vs Q E d c;exact⟨t,h.nox,q⟩
theorem Wd.binds{ps:List Ta}(F:Wd K x qual st f fd)
  (h:∀(kV doc pm:Value)(an:Option Gc)(cdv ct:Value)(us:List Value),us.length=ps.length->bindArgs (Dw x qual (Vg st) (Qj st) (Ql st) .none kV doc pm an cdv ct) ⟨us,[]⟩=pure (ps.zip us)):Binds K fd ps []:=by
 obtain⟨oc,od,kV,doc,pm,an,cdv,ct,osl,rfl,lk,a⟩:=F.ex;exact .all (h kV doc pm an cdv ct)
theorem Qul{oc:Value}{od an:Option Gc}{osl:Array (Option Value)}{kV doc pm cdv ct:Value}(l:K.lookup f=Ga ⟨oc,od,.func (Dw x qual (Vg st) (Qj st) (Ql st) .none kV doc pm an cdv ct),osl⟩)
  (c:Sd K cdv qual=Gf)(k:TY K (.ref f)=Gf):Wd K x qual st f (Dw x qual (Vg st) (Qj st) (Ql st) .none kV doc pm an cdv ct):=⟨⟨oc,od,kV,doc,pm,an,cdv,ct,osl,Xb,l,c⟩,k⟩
end
theorem U6{A:TL}(a:Yb k A):A.units+1<DR:=DS (Nat.add_le_add_left (by decide:1<=64) _) a.units
section
variable{X:Cx}
theorem pv(i:Nat){pos:SX}(b:X.N[i]?=Ga x:=by rfl)(c:Vis X.env.scope x:=by first|exact Di rfl|exact Es (Di Xb)|exact Es (Es Xb))(hd:(x==("__debug__":Ta))=Gq:=by decide)
  (a:(x==("__classdict__":Ta))=Gq:=by decide):PE X (.Name x pos) (V7 i):=Qzu b c hd a
end
theorem Zp(h:B):if Gq=Gf then A else B:=by rw[Gi Gx];exact h
theorem Yv(h:A):if Gf=Gf then A else B:=by rw[Gn rfl];exact h
theorem Vl{c:Prop}[Decidable c](h1:c->A)(h2:¬c->B):if c then A else B:=by
 by_cases h:c
 ·rw[Gn h];exact h1 h
 ·rw[Gi h];exact h2 h
theorem Qfz{c:Prop}[Decidable c](hc:c)(h:B):if(!decide c)=Gf then A else B:=by rw[GX hc];exact Zp h
def Q4(H H':Hp):Prop:=∀b o,H b=Ga o->H' b=Ga o
theorem Q4.trans{H1 H2:Hp}(a:Q4 H H1)(b:Q4 H1 H2):Q4 H H2:=λc o h=>b c o (a c o h)
theorem Q4.free{H':Hp}(e:Q4 H H'){l:Gc}(h:H' l=NB):H l=NB:=by
 cases q:H l with
 |none=>rfl
 |some o=>rw[e l o q]at h;cases h
theorem Q4.seq{K:Gd}{H':Hp}{a:Gc}{xs:List V}(e:Q4 H H')(h:Zd K H a xs):Zd K H' a xs:=by
 rcases h with(h|⟨o,h⟩)|h
 ·exact .inl (.inl (e _ _ h))
 ·exact .inl (.inr ⟨o,e _ _ h⟩)
 ·exact .inr h
section
variable{X:Cx}
theorem Qpi:V9 X (.builtin "len") (λxs H Q=>∃a zw,xs=[V.ref a]/\H a=Ga (.dK zw)/\Q (.int zw.length) H):=by intro zq s σ H xs us Q I r h;obtain⟨a,zw,rfl,c,q⟩:=h;obtain⟨u,rfl,d⟩:=vals1 r;cases d;exact Q11 I (.inl c) λt s' b=>⟨.int zw.length,H,b,⟨t,Xb⟩,q⟩
end
end L2
namespace Sb
inductive XE1{a:Type}(p:a->Prop):Prop|mk a1:p a1->XE1 p
inductive XE2{a b:Type}(p:a->b->Prop):Prop|mk a1 b1:p a1 b1->XE2 p
inductive XE3{a b c:Type}(p:a->b->c->Prop):Prop|mk a1 b1 c1:p a1 b1 c1->XE3 p
inductive XE4{a b c d:Type}(p:a->b->c->d->Prop):Prop|mk a1 b1 c1 d1:p a1 b1 c1 d1->XE4 p
inductive XE5{a b c d e:Type}(p:a->b->c->d->e->Prop):Prop|mk a1 b1 c1 d1 e1:p a1 b1 c1 d1 e1->XE5 p
inductive XE6{a b c d e f:Type}(p:a->b->c->d->e->f->Prop):Prop|mk a1 b1 c1 d1 e1 f1:p a1 b1 c1 d1 e1 f1->XE6 p
inductive XE7{a b c d e f g:Type}(p:a->b->c->d->e->f->g->Prop):Prop|mk a1 b1 c1 d1 e1 f1 g1:p a1 b1 c1 d1 e1 f1 g1->XE7 p
inductive XE8{a b c d e f g h:Type}(p:a->b->c->d->e->f->g->h->Prop):Prop|mk a1 b1 c1 d1 e1 f1 g1 h1:p a1 b1 c1 d1 e1 f1 g1 h1->XE8 p
inductive XE9{a b c d e f g h i:Type}(p:a->b->c->d->e->f->g->h->i->Prop):Prop|mk a1 b1 c1 d1 e1 f1 g1 h1 i1:p a1 b1 c1 d1 e1 f1 g1 h1 i1->XE9 p
inductive Q3h{a b c d e f g h i j:Type}(p:a->b->c->d->e->f->g->h->i->j->Prop):Prop|mk a1 b1 c1 d1 e1 f1 g1 h1 i1 j1:p a1 b1 c1 d1 e1 f1 g1 h1 i1 j1->Q3h p
inductive Qzw{a b c d e f g h i j k l m:Type}(p:a->b->c->d->e->f->g->h->i->j->k->l->m->Prop):Prop|mk a1 b1 c1 d1 e1 f1 g1 h1 i1 j1 k1 l1 m1:p a1 b1 c1 d1 e1 f1 g1 h1 i1 j1 k1 l1 m1->Qzw p
inductive PA2(a b:Prop):Prop|mk:a->b->PA2 a b
inductive PA3(a b c:Prop):Prop|mk:a->b->c->PA3 a b c
inductive PA4(a b c d:Prop):Prop|mk:a->b->c->d->PA4 a b c d
inductive PA5(a b c d e:Prop):Prop|mk:a->b->c->d->e->PA5 a b c d e
inductive PA6(a b c d e f:Prop):Prop|mk:a->b->c->d->e->f->PA6 a b c d e f
inductive PA7(a b c d e f g:Prop):Prop|mk:a->b->c->d->e->f->g->PA7 a b c d e f g
inductive PA8(a b c d e f g h:Prop):Prop|mk:a->b->c->d->e->f->g->h->PA8 a b c d e f g h
inductive PA9(a b c d e f g h i:Prop):Prop|mk:a->b->c->d->e->f->g->h->i->PA9 a b c d e f g h i
inductive Q0z(a b c d e f g h i j k l:Prop):Prop|mk:a->b->c->d->e->f->g->h->i->j->k->l->Q0z a b c d e f g h i j k l
inductive Qzo(a b c d e f g h i j k l m n:Prop):Prop|mk:a->b->c->d->e->f->g->h->i->j->k->l->m->n->Qzo a b c d e f g h i j k l m n
inductive Q1g(a b c d e f g h i j k l m n o:Prop):Prop|mk:a->b->c->d->e->f->g->h->i->j->k->l->m->n->o->Q1g a b c d e f g h i j k l m n o
theorem hid{G:Prop}(f:(g:Prop)->(G->g)->g):G:=f G id
end Sb
namespace L2
open PySem PySem.Spec PyProof.Rows
variable{scope:SH}{X:Cx}{zq:List (Gc×Eg)}{σ:St}{own:List Ta}{fv:List (Nat×Ta)}{K:Gd}
def ccx(X:Cx)(N:List Ta)(scope:SH)(cl:List (Ta×Gc))(C:Gc)(fp:List Gc)(s:Gk)(H:Hp):Cx where
 prog:=X.prog
 w:=X.w
 K:=X.K
 mg:=X.mg
 base:=X.base
 A:=X.A
 N:=N
 s₀:=s
 H₀:=H
 env:=compEnvC scope cl C X.env
 outer:=X.stack
 stack:=X.stack
 ex:=fp
 calm:=X.calm
 fn:=λ_=>Gq
 pn:=[]
 xe:=λ_ _=>False
inductive FV(X:Cx)(scope:SH):List (Nat×Ta)->Prop
 |nil:FV X scope []
 |cons {j:Nat} {x:Ta} {r:List (Nat×Ta)}:X.N[j]?=Ga x->(X.env.scope.names.lookup x=Ga .cell\/X.env.scope.names.lookup x=Ga .free)->scope.names.lookup x=Ga .free->FV X scope r->FV X scope ((j,x)::r)
theorem FV.get{X:Cx}{scope:SH}:∀{fv:List (Nat×Ta)}{k j:Nat}{x:Ta},FV X scope fv->fv[k]?=Ga (j,x)->
  X.N[j]?=Ga x/\(X.env.scope.names.lookup x=Ga .cell\/X.env.scope.names.lookup x=Ga .free)/\scope.names.lookup x=Ga .free
 |_,_,_,_,.nil,e=>by simp at e
 |_,0,_,_,.cons a b c _,e=>by simp at e;obtain⟨rfl,rfl⟩:=e;exact⟨a,b,c⟩
 |_,k+1,_,_,.cons _ _ _ r,e=>FV.get (k:=k) r (by simpa using e)
theorem Vu{env:LR}:∀{names:List (Ta×EY)}{x:Ta},names.lookup x=Ga .free->
  (names.map λ(n,k)=>if(k==Tq&&env.scope.kind==.function&&env.kindOf n==Ga .cell)then(n,SD)else(n,k)).lookup x=Ga .cell\/
  (names.map λ(n,k)=>if(k==Tq&&env.scope.kind==.function&&env.kindOf n==Ga .cell)then(n,SD)else(n,k)).lookup x=Ga .free
 |[],_,h=>by simp at h
 |(n,k)::r,x,h=>by
  have a:=@Vu env r x;rw[List.map_cons];dsimp only;cases hx:x==n with
  |true=>
   simp only[List.lookup_cons,hx]at h;cases h;by_cases hc:(Tq==Tq&&env.scope.kind==.function&&env.kindOf n==Ga .cell)=Gf
   ·left;rw[Gn hc];simp only[List.lookup_cons,hx]
   ·right;rw[Gi hc];simp only[List.lookup_cons,hx]
  |false=>
   simp only[List.lookup_cons,hx]at h;by_cases hc:(k==Tq&&env.scope.kind==.function&&env.kindOf n==Ga .cell)=Gf
   ·rw[Gn hc];simp only[List.lookup_cons,hx];exact a h
   ·rw[Gi hc];simp only[List.lookup_cons,hx];exact a h
theorem Ug{env:LR}:∀{names:List (Ta×EY)}{x:Ta},
  ((names.map λ(n,k)=>if(k==Tq&&env.scope.kind==.function&&env.kindOf n==Ga .cell)then(n,SD)else(n,k)).lookup x=Ga .cell\/
  (names.map λ(n,k)=>if(k==Tq&&env.scope.kind==.function&&env.kindOf n==Ga .cell)then(n,SD)else(n,k)).lookup x=Ga .free)->
  names.lookup x=Ga .cell\/names.lookup x=Ga .free
 |[],_,h=>by simp at h
 |(n,k)::r,x,h=>by
  have b:=@Ug env r x;rw[List.map_cons]at h;dsimp only at h;cases hx:x==n with
  |true=>
   by_cases hc:(k==Tq&&env.scope.kind==.function&&env.kindOf n==Ga .cell)=Gf
   ·right;have c:(k==Tq)=Gf:=(DG.mp (DG.mp hc).1).1;have a:k=.free:=by simpa using c
    simp only[List.lookup_cons,hx,a]
   ·rw[Gi hc]at h;simp only[List.lookup_cons,hx]at h⊢;exact h
  |false=>
   by_cases hc:(k==Tq&&env.scope.kind==.function&&env.kindOf n==Ga .cell)=Gf
   ·rw[Gn hc]at h;simp only[List.lookup_cons,hx]at h⊢;exact b h
   ·rw[Gi hc]at h;simp only[List.lookup_cons,hx]at h⊢;exact b h
theorem Rt{env:LR}:∀(names:List (Ta×EY))(b:List (Ta×Gc)),(∀x,(x,Tq)∈names->∃c,env.cells.lookup x=Ga c)->(∀x c,b.lookup x=Ga c->env.cells.lookup x=Ga c)->
  ∃cl:List (Ta×Gc),(forIn names b (λ(x:Ta×EY)(b:List (Ta×Gc))=>if x.2==Tq then(cellOf env x.1>>=λc=>pure (DP ((x.1,c)::b)))else pure (DP b)):Bk (List (Ta×Gc)))=pure cl/\
   (∀x c,cl.lookup x=Ga c->env.cells.lookup x=Ga c)/\(∀x,(∃c,b.lookup x=Ga c)\/(x,Tq)∈names->∃c,cl.lookup x=Ga c)
 |[],b,_,h2=>⟨b,Xb,h2,λx h=>h.elim id λz=>nomatch z⟩
 |(n,k)::r,b,h1,h2=>by
  rw[List.forIn_cons];by_cases j:k=.free
  ·subst j;obtain⟨c,hc⟩:=h1 n List.mem_cons_self;have e:cellOf env n=pure c:=by unfold cellOf;rw[hc]
   obtain⟨cl,f,g,i⟩:=Rt r ((n,c)::b) (λx a=>h1 x (List.mem_cons_of_mem _ a)) (λx d a=>by
    rw[List.lookup_cons]at a;cases q:x==n with
    |true=>
     rw[q]at a;have l:x=n:=by simpa using q
     rw[l,hc];exact a
    |false=>rw[q]at a;exact h2 x d a)
   refine⟨cl,?_,g,λx a=>i x ?_⟩
   ·simp only[Ey,Su,e,pure_bind];exact f
   ·rcases a with⟨d,hd⟩|a
    ·left;rw[List.lookup_cons];cases q:x==n with
     |true=>exact⟨_,Xb⟩
     |false=>exact⟨d,hd⟩
    ·rcases List.mem_cons.mp a with z|z
     ·left;have:x=n:=congrArg Prod.fst z;subst this;exact⟨c,by simp[List.lookup_cons]⟩
     ·exact .inr z
  ·have hb:(k==Tq)=Gq:=by simpa using j
   obtain⟨cl,f,g,i⟩:=Rt r b (λx a=>h1 x (List.mem_cons_of_mem _ a)) h2;refine⟨cl,?_,g,λx a=>i x ?_⟩
   ·simp only[hb,TM,Dq,pure_bind];exact f
   ·rcases a with z|z
    ·exact .inl z
    ·rcases List.mem_cons.mp z with z|z
     ·exact absurd (congrArg Prod.snd z).symm j
     ·exact .inr z
theorem Qet{env:LR}(h1:∀x,(x,Tq)∈scope.names->∃c,env.cells.lookup x=Ga c):
  ∃cl:List (Ta×Gc),closureFor scope env=pure cl/\(∀x c,cl.lookup x=Ga c->env.cells.lookup x=Ga c)/\(∀x,(x,Tq)∈scope.names->∃c,cl.lookup x=Ga c):=by
 obtain⟨cl,b,d,f⟩:=Rt (env:=env) scope.names [] h1 (λx c h=>by simp at h);refine⟨cl,?_,d,λx g=>f x (.inr g)⟩;have e:closureFor scope env=((forIn scope.names ([]:List (Ta×Gc)) (λ(x:Ta×EY)(a:List (Ta×Gc))=>if x.2==Tq then(cellOf env x.1>>=λc=>pure (DP ((x.1,c)::a)))else pure (DP a)):Bk (List (Ta×Gc)))>>=λa=>pure a):=rfl;rw[e,b];rfl
def Jg(n:Nat)(fv:List (Nat×Ta))(σ:St):St:=List.replicate n Gh++fv.map λq=>(σ[q.1]?).join
theorem Quy{H:Hp}{s:Gk}{cl:List (Ta×Gc)}{fp:List Gc}{h1:Heap}{ob:Eg}{m:Ta->Option Value}{t':Nat}
  (I:Inv X zq σ H s)(N:scope.kind=.function)(F:FV X scope fv)(k:∀x c,cl.lookup x=Ga c->X.env.cells.lookup x=Ga c)(E:∀x,(x,Tq)∈scope.names->∃c,cl.lookup x=Ga c)
  (B:∀y∈scope.names,y.2≠.cell)(g:∀b∈fp,Qas X zq H b)(A:∀b∈fp,b<s.heap.objs.size)
  (O:h1.Ns s.heap.objs.size m)(D:Heap.SameBut s.heap.objs.size (s.heap.push ob) h1):
  Inv (ccx X (own++fv.map (·.2)) scope cl s.heap.objs.size fp s H) [] (Jg own.length fv σ) H {s with heap:=h1,toks:=t'}:=by
 have keep:∀b u,s.heap.get? b=Ga u->h1.get? b=Ga u:=λb u e=>(D.2 b (Td (Heap.lt_size e))).trans (Heap.get?_push_of_some _ e);have f:∀x,(scope.names.lookup x=Ga .cell\/scope.names.lookup x=Ga .free)->(x,Tq)∈scope.names:=λx h=>by
  rcases h with h|h
  ·exact absurd rfl (B _ (Dj h))
  ·exact Dj h
 refine⟨⟨I.ok.mod,N,I.ok.glob,I.ok.blt,Gm _,λx y c d a=>I.ok.inj x y c (k x c d) (k y c a),λx h=>E x (f x (Ug (env:=X.env) h)),λ_ _ h _=>(Gx h).elim,
   I.ok.hd,I.ok.frames,.inl Xb,λb hb=>⟨Td (A b hb),λx c e=>(g b hb).2.2.2.2.1 x c (k x c e)⟩,I.bs,Tt I.ok.bsz I.sz,λb o e hb=>?_,λb hb M=>?_,I.stack,I.Qn7⟩,
  Xb,I.bare,Un.kept keep,⟨m,O,λi x v d a U=>?_⟩,λx c e=>?_,I.Zw.fresh (Gm _),λx c e=>I.Jn x c (k x c e),λp Q=>absurd (show p∈([]:List (Gc×Eg))from Q) (by simp),I.Zw.kept keep,?_⟩
 ·rcases(g b hb).2.2.2.1 with z|z
  ·exact I.ok.Qsz b o e z
  ·exact absurd (Tc (Heap.lt_size e) (Tt I.ok.bsz z)) (Du _)
 ·rcases List.mem_cons.mp (I.Qgn b M)with z|z
  ·exact(g b hb).2.1 z
  ·exact(g b hb).2.2.1 z
 ·have d:(own++fv.map (·.2))[i]?=Ga x:=d;by_cases hi:i<own.length
  ·have a:(Jg own.length fv σ)[i]?=Ga (Ga v):=a;unfold Jg at a;rw[List.getElem?_append_left (by simpa using hi),List.getElem?_replicate]at a;split at a<;>cases a
  ·have a:(Jg own.length fv σ)[i]?=Ga (Ga v):=a;unfold Jg at a;rw[List.getElem?_append_right (by simpa using hi),List.length_replicate,List.getElem?_map]at a;rw[List.getElem?_append_right (by lia),List.getElem?_map]at d;cases q:fv[i - own.length]? with
   |none=>rw[q]at d;cases d
   |some p=>
    obtain⟨j,y⟩:=p;rw[q]at d a;have d:Ga y=Ga x:=d;cases d;have a:Ga (σ[j]?).join=Ga (Ga v):=a;have a:=Tj a;obtain⟨L,l,G⟩:=F.get q;have K:σ[j]?=Ga (Ga v):=by
     cases r:σ[j]? with
     |none=>rw[r]at a;cases a
     |some z=>rw[r]at a;exact congrArg Ga a
    obtain⟨m0,P,w⟩:=I.loc;obtain⟨u,T,lk⟩:=w j x v L K (.inr l);refine⟨u,T,?_⟩;rcases lk with⟨t,_⟩|⟨t,c,R,S⟩
    ·exfalso;have t:X.env.scope.names.lookup x=Ga .local:=t;rcases l with l|l<;>(rw[t]at l;cases l)
    ·obtain⟨J,n⟩:=E x (Dj G);have:=k x J n;rw[R]at this;cases this;refine .inr ⟨Vu (env:=X.env) G,c,n,?_⟩;obtain⟨o,C,hd⟩:=S;exact⟨o,keep _ _ C,hd⟩
 ·obtain⟨v,o,C,hd⟩:=I.cell x c (k x c e);exact⟨v,o,keep _ _ C,hd⟩
 ·show(Jg own.length fv σ).length=(own++fv.map (·.2)).length;unfold Jg;simp
def Qlb(X:Cx)(ifs:List T3)(t:TT):Prop:=
 ∀(zq:List (Gc×Eg))(s:Gk)(σ:St)(H:Hp)(Q:Bool->Hp->Prop),Inv X zq σ H s->t σ H Q->
  wpAny (GY X.prog X.w) X.A (forIn ifs Gf λc r=>if r=Gf then do let ok<-isTrue c X.env (eval c X.env);pure (DP ok)else pure (DP r)) (TP X zq σ Q) X.xe s
def Qxb:TT:=λ_ H Q=>Q Gf H
theorem Ww:Qlb X [] Qxb:=λzq s σ H Q I h=>wpAny_tests_nil ⟨H,I,h⟩
theorem Qiq{c:T3}{t:TT}(h:PT X c t):Qlb X [c] t:=λzq s σ H Q I hw=>wpAny_tests_one (h zq s σ H Q I hw)
section
variable{prog:Gg}{w:Gs}{A:TL}{R:M7->Gk->Prop}{s:Gk}
theorem Qg9{elt a iter:T3}{ifs:List T3}{pos:SX}{it acc:Value}{env:LR}(I:Nat->Gk->Prop)
  (turn:∀n s,I n s->wpAny (GY prog w) A (pyNext it) (λr b=>match r with
   |none=>R (.ok .next) b
   |some v=>wpAny (GY prog w) A (letOwnedTupleGo a it v) (λ_ b=>wpAny (GY prog w) A (assign a env v) (λ_ f=>
     wpAny (GY prog w) A (forIn ifs Gf λc r=>if r=Gf then do let ok<-isTrue c env (eval c env);pure (DP ok)else pure (DP r)) (λok d=>
      if ok=Gf then wpAny (GY prog w) A (eval elt env) (λx g=>wpAny (GY prog w) A (call (.builtin "list.append") [acc,x]) (λ_ i=>∃m,m<n/\I m i) (λ_ _=>False) g) (λ_ _=>False) d
      else∃m,m<n/\I m d) (λ_ _=>False) f) (λ_ _=>False) b) (λ_ _=>False) b) (λ_ _=>False) s)
  (n:Nat)(h:I n s):
  codeAny (GY prog w) A (.compLoop (.ListComp elt [⟨a,iter,ifs,0⟩] scope pos) 0 it acc env) R s:=by
 refine codeAny_loop rfl I (λn s o=>?_) n h;show wpAny _ A ((compTurn (.ListComp elt [⟨a,iter,ifs,0⟩] scope pos) 0 it acc env).onRaise (λx=>do noteFrame x env;theTreesLotGoes x)) _ _ s;refine wpAny_noted ?_;rw[compTurn_list];refine Gb (LA (Gb (DD (turn n s o) (λr b h₁=>?_) λ_ _ h'=>h'.elim)));cases r with
 |none=>exact Ge h₁
 |some v=>
  refine Gb (DD h₁ (λ_ b h₁=>?_) λ_ _ h'=>h'.elim);refine Gb (DD h₁ (λ_ f j=>Gb (DD j (λok d e=>?_) λ_ _ h'=>h'.elim)) λ_ _ h'=>h'.elim);cases ok with
  |false=>exact Ge ⟨Xb,e⟩
  |true=>exact Gb (Gb (DD e (λx g k=>Gb (DD k (λ_ i l=>Ge (Ge ⟨Xb,l⟩)) λ_ _ h'=>h'.elim)) λ_ _ h'=>h'.elim))
end
def Qcz(p:Gc)(J:It)(g:TG)(tt:TT)(te:TE)(Q:Hp->Prop)(e:St)(H0:Hp):Prop:=
 ∃W:Nat->Nat->St->Hp->Prop,(∃m,W 0 m e H0)/\∀i m σ H,W i m σ H->
  (J.stop i H/\Q H)\/(J.go i H/\∃(N:V->St->Hp->Prop)(h:St->Hp->Prop),(∀v a H',N v a H'->∃ys,H' p=Ga (.lst ys)/\ys.length<Gj/\∃d,d<m/\W (i+1) d a (zj H' p (.lst (ys++[v]))))/\
   (∀a H',h a H'->∃d,d<m/\W (i+1) d a H')/\
   ∀x H',J.yld i H x H'->g x σ H' λc H2=>tt c H2 λb f=>if b=Gf then te c f λv j=>N v c j else h c f)
def Qya(n:Nat)(fv:List (Nat×Ta))(wi:TI)(g:TG)(tt:TT)(te:TE):TE:=λσ H Q=>wi σ H λJ H1=>∀p,H1 p=Gh->Qcz p J g tt te (λH'=>Q (.ref p) H') (Jg n fv σ) (zj H1 p (.lst []))
section
variable{X:Cx}{elt tg iter:T3}{ifs:List T3}{scope:SH}{pos:SX}{wi:TI}{g:TG}{tt:TT}{te:TE}
structure Wh(esc scope:SH):Prop where
 kind:scope.kind=.function
 Qsu:∀y∈scope.names,y.2≠.cell
 loc:∀x∈scope.names,x.2=.local->scope.names.lookup x.1=Ga .local
 fre:∀y∈scope.names,y.2=.free->esc.names.lookup y.1=Ga .cell\/esc.names.lookup y.1=Ga .free
theorem Qdt{H2:Hp}{s2:Gk}{it:Gc}{fp:List Gc}{tn:Nat->Heap->Prop}{J:It}{cl:List (Ta×Gc)}{Q:VK}{RR:Value->Gc->M7->Gk->Prop}{E:Value->Gk->Prop}
  (hc:X.calm=Gf)(S:Wh X.env.scope scope)(F:FV X scope fv)(c1:∀x c,cl.lookup x=Ga c->X.env.cells.lookup x=Ga c)(c2:∀x,(x,Tq)∈scope.names->∃c,cl.lookup x=Ga c)
  (hg:∀cl C fp s H,PG (ccx X (own++fv.map (·.2)) scope cl C fp s H) tg g)(ht:∀cl C fp s H,Qlb (ccx X (own++fv.map (·.2)) scope cl C fp s H) ifs tt)(he:∀cl C fp s H,PE (ccx X (own++fv.map (·.2)) scope cl C fp s H) elt te)
  (I2:Inv X zq σ H2 s2)(T:Qgs X.prog X.w X.K tg J fp it tn)(P:tn 0 s2.heap)(f2:∀b∈fp,Qas X zq H2 b)
  (q:∀p,H2 p=Gh->Qcz p J g tt te (λH'=>Q (.ref p) H') (Jg own.length fv σ) (zj H2 p (.lst [])))
  (ai:∀(p C:Gc)(H':Hp)(s':Gk),Inv X zq σ H' s'->(∃m,s'.heap.Ns C m)->Qas X zq H' C->Q (.ref p) H'->RR (.ref p) C (.ok .next) s'):
  wpAny (GY X.prog X.w) X.A (newList []) (λacc ad=>wpAny (GY X.prog X.w) X.A (newFunctionEnv scope X.env.globals cl [] X.env.qual Gh .none (Ga X.env)) (λD ae=>codeAny (GY X.prog X.w) X.A (.compStart (.ListComp elt [⟨tg,iter,ifs,0⟩] scope pos) 0 (.ref it) acc {D with scope:=relabel scope X.env}) (RR acc D.locals) ae) E ad) E s2:=by
 have q:=q s2.heap.objs.size (I2.Zw.fresh (Gm _));have I3:=I2.Q3y (ys:=[]) (its:=[]) (t':=s2.toks) .nil (Gw _);have aj:H2 s2.heap.objs.size=Gh:=I2.Zw.fresh (Gm _);refine Tw (wpAny_newFunctionEnv S.Qsu (by intro y hy;simp at hy) (λh₁ t a=>?_) S.kind);have l:∀b∈fp,Qas X zq (zj H2 s2.heap.objs.size (.lst [])) b:=λb hb=>by obtain⟨o,e,_⟩:=T.obj 0 _ P b hb;exact⟨by rw[Qf (Td (Heap.lt_size e))];exact(f2 b hb).1,(f2 b hb).2⟩
 have O:∀b∈fp,b<(s2.heap.push {cls:=.type "list",data:=.seq ([]:List Value).toArray}).objs.size:=λb hb=>by obtain⟨o,e,_⟩:=T.obj 0 _ P b hb;exact Heap.lt_size (Heap.get?_push_of_some _ e)
 have ac:tn 0 h₁:=T.keep 0 _ _ P λb hb o e=>(a.2 b (Td (O b hb))).trans (Heap.get?_push_of_some _ (Heap.get?_push_of_some _ e));have I4:=Quy (own:=own) (fv:=fv) (t':=s2.toks+([]:List (Ta×Value)).length) I3 S.kind F c1 c2 S.Qsu l O t a;obtain⟨W,⟨m0,w0⟩,turn⟩:=q;generalize hC:(s2.heap.push {cls:=.type "list",data:=.seq ([]:List Value).toArray}).objs.size=C at*;have G:codeAny (GY X.prog X.w) X.A (.compLoop (.ListComp elt [⟨tg,iter,ifs,0⟩] scope pos) 0 (.ref it) (.ref s2.heap.objs.size) (compEnvC scope cl C X.env)) (RR (.ref s2.heap.objs.size) C)
   {s2 with heap:=h₁,toks:=s2.toks+([]:List (Ta×Value)).length}:=by
  generalize f:ccx X (own++fv.map (·.2)) scope cl C fp {s2 with heap:=s2.heap.push {cls:=.type "list",data:=.seq ([]:List Value).toArray}} (zj H2 s2.heap.objs.size (.lst []))=Y at I4;have h:∀{H':Hp},(∀b∈fp,H' b=Gh)->∀b∈fp,Qas Y [] H' b:=λ{H'}hn b hb=>by
   subst f;refine⟨hn b hb,Td (O b hb),λz=>?_,.inl hb,λx c e=>(l b hb).2.2.2.2.1 x c (c1 x c e),λp hp=>absurd (show p∈([]:List (Gc×Eg))from hp) (by simp)⟩;rcases List.mem_cons.mp (I3.Qgn b z)with z|z
   ·exact(l b hb).2.1 z
   ·exact(l b hb).2.2.1 z
  have eP:Y.prog=X.prog:=by subst f;rfl
  have ew:Y.w=X.w:=by subst f;rfl
  have eK:Y.K=X.K:=by subst f;rfl
  have eA:Y.A=X.A:=by subst f;rfl
  have eC:Y.calm=Gf:=by subst f;exact hc
  have eE:Y.env=compEnvC scope cl C X.env:=by subst f;rfl
  have ex:Y.xe=λ_ _=>False:=by subst f;rfl
  have L:PG Y tg g:=by subst f;exact hg _ _ _ _ _
  have M:Qlb Y ifs tt:=by subst f;exact ht _ _ _ _ _
  have I:PE Y elt te:=by subst f;exact he _ _ _ _ _
  unfold PG at L;unfold Qlb at M;unfold PE at I;rw[eP,ew,eA,eE,ex]at L M I;refine Qg9 (λn s'=>∃i j H',Inv Y [] j H' s'/\tn i s'.heap/\(∀b∈fp,H' b=Gh)/\W i n j H') ?_ m0 ⟨0,_,_,I4,ac,λb hb=>(l b hb).1,w0⟩;rintro n s3 ⟨i,B,U,J3,ab,aa,w3⟩;rcases turn i n B U w3 with⟨stop,qn⟩|⟨go,N,N',hN,ah,step⟩
  ·have d:=T.done Y eP ew eK eC i [] s3 B U (λ_ _=>False) J3 (h aa) ab stop;rw[eA]at d;refine Yq d λr s4⟨hr,V⟩=>?_;subst hr;show RR _ C (.ok .next) s4;have u:=V.base;have Zw:=V.Zw;have os:=V.os;have bare:=V.bare;obtain⟨m4,n4,_⟩:=V.loc;have fC:=V.free;subst f;have I5:Inv X zq σ U s4:=I3.Q13 (ch:=fp) os u Zw bare λb hb=>⟨(l b hb).2.2.2.1,(l b hb).2.1,(l b hb).2.2.2.2.1,(l b hb).2.2.2.2.2⟩;refine ai _ C U s4 I5 ⟨m4,n4⟩ ?_ qn;rw[<-hC];exact I3.Qii (Gm _) (by show U _=Gh;rw[hC];exact fC)
  ·have d:=T.item Y eP ew eK eC i [] s3 B U (λ_ _=>False) J3 (h aa) ab go;rw[eA]at d;refine Yq d λr s4⟨u,hr,h4⟩=>?_;subst hr;refine Yq h4 λ_ s5⟨x,H5,J5,r5,y5,R,ag⟩=>?_;have af:=J5.pinned (h ag) (T.obj _ _ R);refine Yq (L _ s5 B H5 x u _ af r5 (step x H5 y5)) λ_ s6⟨k,H6,J6,q6⟩=>?_;refine Yq (M _ s6 k H6 _ J6 q6) λok s7⟨H7,J7,q7⟩=>?_;have again:∀{s8:Gk}{H8:Hp},Inv Y ([]++Qck fp s5.heap) k H8 s8->(∃m',m'<n/\W (i+1) m' k H8)->∃m,m<n/\∃i j H',Inv Y [] j H' s8/\tn i s8.heap/\(∀b∈fp,H' b=Gh)/\W i m j H':=λ{s8 H8}Z⟨m',hm,w8⟩=>by refine⟨m',hm,i+1,k,H8,Z.Ou,T.keep _ _ _ R λb hb o e=>(Z.pin (b,o) (List.mem_append_right _ (List.mem_append_right _ (Jh hb e)))).1,λb hb=>?_,w8⟩;obtain⟨o,e,d⟩:=T.obj _ _ R b hb;exact(Z.pin (b,o) (List.mem_append_right _ (List.mem_append_right _ (Jh hb e)))).2.1
   cases ok with
   |false=>rw[Gi Gx]at q7⊢;exact again J7 (ah _ _ q7)
   |true=>rw[Gn rfl]at q7⊢;refine Yq (I _ s7 k H7 _ J7 q7) λxv s8⟨v,H8,Z,r8,q8⟩=>?_;obtain⟨ys,hy,hz,q8⟩:=hN _ _ _ q8;obtain⟨z,its,n',r,hl,e⟩:=Z.Qmc hy;refine LL GF ⟨_,e,Xb⟩ Mh (FM _ _) (L8 s2.heap.objs.size its.toArray n' xv (by rw[List.size_toArray];lia)) ⟨e,?_⟩;refine again (Z.Qwc (its':=its++[xv]) (t':=s8.toks) hy e (by simp) (r.append (.cons r8 .nil)) ?_) q8;rw[List.length_append,List.length_singleton];lia
 exact codeAny_compStart_list G (T.self X.A 0 _ _ _ ac G)
theorem Ol{H:Hp}{s:Gk}(S:Wh X.env.scope scope)(I:Inv X zq σ H s):
  ∃cl:List (Ta×Gc),closureFor scope X.env=pure cl/\(∀x c,cl.lookup x=Ga c->X.env.cells.lookup x=Ga c)/\(∀x,(x,Tq)∈scope.names->∃c,cl.lookup x=Ga c):=
 Qet λx a=>I.ok.has x (S.fre (x,.free) a Xb)
theorem Vx(hc:X.calm=Gf)(S:Wh X.env.scope scope)(F:FV X scope fv)(hi:PI X tg iter wi)
  (u:∀cl C fp s H,PG (ccx X (own++fv.map (·.2)) scope cl C fp s H) tg g)(B:∀cl C fp s H,Qlb (ccx X (own++fv.map (·.2)) scope cl C fp s H) ifs tt)(t:∀cl C fp s H,PE (ccx X (own++fv.map (·.2)) scope cl C fp s H) elt te)
  (z:∀x,foldedSetIterable iter X.env x=pure x:=by intro _;rfl):PE X (.ListComp elt [⟨tg,iter,ifs,0⟩] scope pos) (Qya own.length fv wi g tt te):=by
 intro zq s σ H Q I h;rw[eval_ListComp];obtain⟨cl,c,l,n⟩:=Ol S I;refine SE (use:=Gh) rfl z c S.kind S.loc (Yq (hi zq s σ H _ I h) λv s1 h1=>Yq h1 λD s2 h2=>?_);obtain⟨it,fp,tn,J,H2,e,k,T,i,r,q⟩:=h2;subst e;refine Qdt (Q:=Q) (RR:=λacc C=>compPost (GY X.prog X.w) X.A X.xe Gh (EP X zq σ Q) acc C) hc S F l n u B t k T i r q λp C H' s' j d a y=>?_;obtain⟨m,d⟩:=d;refine⟨m,d,λh' f=>⟨.ref p,H',?_,Xb,y⟩⟩;exact j.turned (t':=s'.toks) (λb o hb e=>(f.2 b hb).trans e) a.1 a.2.1 a.2.2.2.1 a.2.2.2.2.1 a.2.2.2.2.2
theorem Qci{i:Nat}{y:Ta}{f c:SX}(W:X.N.Nodup)(r:X.N[i]?=Ga y)(M:X.env.scope.names.lookup y=Ga .local)(hc:X.calm=Gf)(S:Wh X.env.scope scope)(F:FV X scope fv)(hi:PI X tg iter wi)
  (Z:∀cl C fp s H,PG (ccx X (own++fv.map (·.2)) scope cl C fp s H) tg g)(ht:∀cl C fp s H,Qlb (ccx X (own++fv.map (·.2)) scope cl C fp s H) ifs tt)(Y:∀cl C fp s H,PE (ccx X (own++fv.map (·.2)) scope cl C fp s H) elt te)
  (E:swapsWith (.ListComp elt [⟨tg,iter,ifs,0⟩] scope pos) (Ga (.Name y f)) c.line X.env=pure Gf:=by rfl)
  (hs:∀x,foldedSetIterable iter X.env x=pure x:=by intro _;rfl):PS X (.Assign [.Name y f] (.ListComp elt [⟨tg,iter,ifs,0⟩] scope pos) c) (Qx7 (Qya own.length fv wi g tt te) (Vt i)):=by
 intro zq s σ H D I h;rw[exec_Assign_Name_used _ _ _ _ E];obtain⟨cl,n,R,U⟩:=Ol S I;refine Gb (LA (Gb ?_));show wpAny _ X.A (do let _<-comprehension (.ListComp elt [⟨tg,iter,ifs,0⟩] scope pos) scope X.env _ (newList []) Gq (eval iter X.env) (Ga (assign (.Name y f) X.env))) _ _ s;refine Gb (DD (SE (use:=Ga (assign (.Name y f) X.env)) (Q:=λ_ s'=>SP X zq D .next s') rfl hs n S.kind S.loc (Yq (hi zq s σ H _ I h) λv s1 h1=>Yq h1 λaa s2 h2=>?_)) (λ_ s' u=>Ge (Ge u)) λ_ _ e=>e);obtain⟨it,fp,tn,J,H2,e,P,T,L,V,q⟩:=h2;subst e;refine Qdt (Q:=λx H1=>Vt i x σ H1 D.nx) (RR:=λacc C=>compPost (GY X.prog X.w) X.A X.xe (Ga (assign (.Name y f) X.env)) (λ_ s'=>SP X zq D .next s') acc C) hc S F R U Z ht Y P T L V q λp C H' s' O t d u=>?_;obtain⟨m,t⟩:=t;show wpAny _ X.A (assign (.Name y f) X.env (.ref p)) _ _ _;refine LV (Qfj O W r (.inl M) (v:=.ref p) rfl (λG k K=>?_) (.inr M));obtain⟨a,K,j⟩:=K;have l:C≠a:=by
  rcases j with j|j
  ·rw[j];exact d.2.1
  ·exactλz=>d.2.2.2.2.1 y a j z.symm
 refine⟨m,t.sameBut K l,λh' B=>⟨_,H',?_,u⟩⟩;exact k.turned (t':=G.toks) (λb o hb e=>(B.2 b hb).trans e) d.1 d.2.1 d.2.2.2.1 d.2.2.2.2.1 d.2.2.2.2.2
end
theorem Ju{a p:Gc}{xs:List V}{g:TG}{te:TE}{Q:Hp->Prop}{d:St}{H0:Hp}(s:xs.length<=Gj)(Pv:Nat->List V->St->Hp->Prop)(o:Pv 0 [] d (zj H0 p (.lst [])))
  (hl:∀i ys σ H,i<=xs.length->Pv i ys σ H->Z2 K H a xs)
  (r:∀i x ys σ H,xs[i]?=Ga x->ys.length=i->Pv i ys σ H->H p=Ga (.lst ys)->g x σ H λf H2=>te f H2 λv j=>j p=Ga (.lst ys)/\Pv (i+1) (ys++[v]) f (zj j p (.lst (ys++[v]))))
  (hd:∀ys σ H,ys.length=xs.length->Pv xs.length ys σ H->H p=Ga (.lst ys)->Q H):Qcz p (Itt K a) g Qxb te Q d (zj H0 p (.lst [])):=by
 refine⟨λi m σ H=>m=xs.length - i/\i<=xs.length/\∃ys,ys.length=i/\Pv i ys σ H/\H p=Ga (.lst ys),⟨xs.length,by simp,Gw _,[],Xb,o,Qb⟩,?_⟩;rintro i m σ H ⟨rfl,hi,ys,h,pv,k⟩;have q:=hl i ys σ H hi pv;by_cases b:i<xs.length
 ·refine .inr ⟨⟨xs,xs[i],q,by simp[b]⟩,λv c H'=>H' p=Ga (.lst ys)/\Pv (i+1) (ys++[v]) c (zj H' p (.lst (ys++[v]))),λ_ _=>False,λv c H'⟨l,n⟩=>⟨ys,l,by lia,xs.length - (i+1),by lia,Xb,b,ys++[v],by simp[h],n,Qb⟩,λ_ _ z=>z.elim,λx H' y=>?_⟩;obtain⟨e,y⟩:=y;subst e;exact r i x ys σ _ (y xs q) h pv k
 ·have e:i=xs.length:=by lia
  subst e;exact .inl ⟨⟨xs,q,Gm _⟩,hd ys σ H h pv k⟩
theorem Qau{a p:Gc}{xs:List V}{g:TG}{te:TE}{Q:Hp->Prop}{d:St}{H0:Hp}(s:xs.length<=Gj)(Pv:Nat->List V->St->Hp->Prop)(o:Pv 0 [] d (zj H0 p (.lst [])))
  (hl:∀i ys σ H,i<=xs.length->Pv i ys σ H->Zd K H a xs)
  (r:∀i x ys σ H,xs[i]?=Ga x->ys.length=i->Pv i ys σ H->H p=Ga (.lst ys)->g x σ H λf H2=>te f H2 λv j=>j p=Ga (.lst ys)/\Pv (i+1) (ys++[v]) f (zj j p (.lst (ys++[v]))))
  (hd:∀ys σ H,ys.length=xs.length->Pv xs.length ys σ H->H p=Ga (.lst ys)->Q H):Qcz p (Itl K a) g Qxb te Q d (zj H0 p (.lst [])):=by
 refine⟨λi m σ H=>m=xs.length - i/\i<=xs.length/\∃ys,ys.length=i/\Pv i ys σ H/\H p=Ga (.lst ys),⟨xs.length,by simp,Gw _,[],Xb,o,Qb⟩,?_⟩;rintro i m σ H ⟨rfl,hi,ys,h,pv,k⟩;have q:=hl i ys σ H hi pv;by_cases b:i<xs.length
 ·refine .inr ⟨⟨xs,xs[i],q,by simp[b]⟩,λv c H'=>H' p=Ga (.lst ys)/\Pv (i+1) (ys++[v]) c (zj H' p (.lst (ys++[v]))),λ_ _=>False,λv c H'⟨l,n⟩=>⟨ys,l,by omega,xs.length - (i+1),by omega,Xb,b,ys++[v],by simp[h],n,Qb⟩,λ_ _ z=>z.elim,λx H' y=>?_⟩;obtain⟨e,y⟩:=y;subst e;exact r i x ys σ _ (y xs q) h pv k
 ·have e:i=xs.length:=by omega
  subst e;exact .inl ⟨⟨xs,q,Gm _⟩,hd ys σ H h pv k⟩
mutual
inductive Dt(H:Hp):V->TH->Prop
 |non:Dt H .non .none
 |bl (b:Bool):Dt H (.bl b) (.bool b)
 |int (i:Int):Dt H (.int i) (.int i)
 |str (x:Ta):Dt H (.str x) (.str x)
 |lst {a:Gc} {xs:List V} {ds:List TH}:H a=Ga (.lst xs)->Rh H xs ds->Dt H (.ref a) (.list ds)
 |tup {a:Gc} {xs:List V} {ds:List TH}:H a=Ga (.tup xs)->Rh H xs ds->Dt H (.ref a) (.tuple ds)
inductive Rh(H:Hp):List V->List TH->Prop
 |nil:Rh H [] []
 |cons {x:V} {xs:List V} {d:TH} {ds:List TH}:Dt H x d->Rh H xs ds->Rh H (x::xs) (d::ds)
end
mutual
theorem Dt.same{H H':Hp}(e:Q4 H H'):∀{v:V}{d:TH},Dt H v d->Dt H' v d
 |_,_,.non=>.non
 |_,_,.bl b=>.bl b
 |_,_,.int i=>.int i
 |_,_,.str x=>.str x
 |_,_,.lst h t=>.lst (e _ _ h) (Rh.same e t)
 |_,_,.tup h t=>.tup (e _ _ h) (Rh.same e t)
theorem Rh.same{H H':Hp}(e:Q4 H H'):∀{xs:List V}{ds:List TH},Rh H xs ds->Rh H' xs ds
 |_,_,.nil=>.nil
 |_,_,.cons h t=>.cons (Dt.same e h) (Rh.same e t)
end
theorem Rh.length{H:Hp}:∀{xs:List V}{ds:List TH},Rh H xs ds->xs.length=ds.length
 |_,_,.nil=>rfl
 |_,_,.cons _ t=>by rw[List.length_cons,List.length_cons,t.length]
theorem Rh.get{H:Hp}:∀{xs:List V}{ds:List TH}{i:Nat}{x:V},Rh H xs ds->xs[i]?=Ga x->∃d,ds[i]?=Ga d/\Dt H x d
 |_,_,_,_,.nil,e=>by simp at e
 |_,_,0,_,.cons h _,e=>by simp at e;subst e;exact⟨_,Xb,h⟩
 |_,_,i+1,_,.cons _ t,e=>by obtain⟨d,h1,h2⟩:=Rh.get (i:=i) t (by simpa using e);exact⟨d,by simpa using h1,h2⟩
mutual
theorem Dt.reads{P:Gg}{w:Gs}{H:Hp}{h:Heap}(ok:Re P w H h):∀{v:V}{d:TH}{u:Value},Dt H v d->RelV v u->∃c,LB h u d c
 |_,_,u,.non,r=>⟨[],by cases(show u=Value.none from r);exact .none⟩
 |_,_,u,.bl b,r=>⟨[],by cases(show u=Value.bool b from r);exact .bool b⟩
 |_,_,u,.int i,r=>⟨[],by obtain⟨t,e⟩:=(show∃t,u=Value.int i t from r);cases e;exact .int i t⟩
 |_,_,u,.str x,r=>⟨[],by obtain⟨t,e⟩:=(show∃t,u=Value.str x t from r);cases e;exact .str x t⟩
 |_,_,u,.lst (a:=a) (xs:=xs) e t,r=>by obtain⟨_,its,n,rv,f⟩:=(show Z3 P w H h a (.lst xs)from ok a _ e);obtain⟨c,g⟩:=Rh.reads ok t rv;cases(show u=Value.ref a from r);exact⟨a::c,.list f rfl rfl (by simpa using g)⟩
 |_,_,u,.tup (a:=a) (xs:=xs) e t,r=>by obtain⟨_,its,rv,o,f,hc,n,hd⟩:=(show Z3 P w H h a (.tup xs)from ok a _ e);obtain⟨c,g⟩:=Rh.reads ok t rv;cases(show u=Value.ref a from r);exact⟨c,.tuple f hc hd (by simpa using g)⟩
theorem Rh.reads{P:Gg}{w:Gs}{H:Hp}{h:Heap}(ok:Re P w H h):∀{xs:List V}{ds:List TH}{us:List Value},Rh H xs ds->Zv xs us->∃a,EZ h us ds a
 |_,_,_,.nil,.nil=>⟨[],.nil⟩
 |_,_,_,.cons d t,.cons r e=>by obtain⟨a,b⟩:=Dt.reads ok d r;obtain⟨bs,c⟩:=Rh.reads ok t e;exact⟨a++bs,.cons b c⟩
end
inductive Qyr(f:Bool->Bool)(x:V)(y:V)(H:Hp)(Q:VK):Prop
 |mk (dx:_) (dy:_) (h0:Dt H x dx) (h1:Dt H y dy) (h2:dx.canLay0=Gf) (h3:dy.canLay0=Gf) (h4:min dx.depth dy.depth<=64) (h5:Q (.bl (f (TQ dx dy))) H):Qyr f x y H Q
def Q3a(f:Bool->Bool):R2:=λx y H Q=>Qyr f x y H Q
section
variable{X:Cx}
theorem Ql3(l:X.A.units+64<DR):O6 X (Dm .Eq) (Q3a λb=>b):=by intro zq s σ H x y v u Q I f g h;obtain⟨dx,j,h1,h2,a,c,k,q⟩:=h;obtain⟨i,d⟩:=h1.reads I.Zw f;obtain⟨bs,e⟩:=h2.reads I.Zw g;exact FG d e a c (by lia) ⟨.bl _,H,I,Xb,q⟩
theorem Qrn(l:X.A.units+64<DR):O6 X (Dm .NotEq) (Q3a λb=>!b):=by intro zq s σ H x y v u Q I f g h;obtain⟨dx,j,h1,h2,a,c,k,q⟩:=h;obtain⟨i,d⟩:=h1.reads I.Zw f;obtain⟨bs,e⟩:=h2.reads I.Zw g;exact FH d e a c (by omega) ⟨.bl _,H,I,Xb,q⟩
inductive Qyu(K:Gd)(xs:List V)(H:Hp)(Q:VK):Prop
 |mk (x:_) (n:_) (t:_) (b:_) (h0:xs=[x,.ty n]) (h1:I9 K H x t) (h2:Tf K t (.type n)=Ga b) (h3:Q (.bl b) H):Qyu K xs H Q
def Q4k(K:Gd):List V->Hp->VK->Prop:=λxs H Q=>Qyu K xs H Q
theorem Xp:V9 X (.builtin "isinstance") (Q4k X.K):=by intro zq s σ H xs us Q I r h;obtain⟨x,n,t,b,rfl,ty,e,q⟩:=h;obtain⟨u,d,rfl,a,c⟩:=vals2 r;cases(show d=Value.type n from c);exact Qpp I a ty e λtk=>⟨.bl b,H,I.tok tk,Xb,q⟩
inductive Qse(K:Gd)(xs:List V)(H:Hp)(Q:VK):Prop
 |mk (x:_) (p:_) (n:_) (m:_) (t:_) (b:_) (h0:xs=[x,.ref p]) (h1:H p=Ga (.tup [.ty n,.ty m])) (h2:I9 K H x (.type t)) (h3:DT K (.type t) [.type n,.type m]=Ga b) (h4:Q (.bl b) H):Qse K xs H Q
def Q29(K:Gd):List V->Hp->VK->Prop:=λxs H Q=>Qse K xs H Q
theorem Qqc:V9 X (.builtin "isinstance") (Q29 X.K):=by
 intro zq s σ H xs us Q I r h;obtain⟨x,p,n,m,t,b,rfl,j,ty,e,q⟩:=h;obtain⟨u,C,rfl,d,z⟩:=vals2 r;cases(show C=Value.ref p from z);obtain⟨_,its,rv,o,c,hc,k,hd⟩:=(show Z3 X.prog X.w H s.heap p (.tup [.ty n,.ty m])from I.Zw p _ j);obtain⟨A,B,g,l,v⟩:=vals2 rv;subst g;cases(show A=Value.type n from l);cases(show B=Value.type m from v);obtain⟨oc,od,f,os⟩:=o;cases(show oc=Value.type "tuple"from hc);cases(show f=Bg _ k from hd);have fin:∀tk,EP X zq σ Q (.bool b) {s with toks:=tk}:=λtk=>⟨.bl b,H,I.tok tk,Xb,q⟩;cases ty with
 |non=>cases(show u=Value.none from d);exact Do LW I.Jt TC c e nofun fin
 |bl y=>cases(show u=Value.bool y from d);exact Do LX I.Jt TC c e nofun fin
 |int i=>obtain⟨t,q⟩:=(show∃t,u=Value.int i t from d);cases q;exact Do Fl I.Jt TC c e nofun fin
 |str y=>obtain⟨t,q⟩:=(show∃t,u=Value.str y t from d);cases q;exact Do Fn I.Jt TC c e nofun fin
 |flt y=>obtain⟨t,q⟩:=(show∃t,u=Value.float y t from d);cases q;exact Do LI I.Jt TC c e nofun fin
 |@lst a xs ea=>cases(show u=Value.ref a from d);obtain⟨_,_,n,_,h1⟩:=(show Z3 X.prog X.w H s.heap a (.lst xs)from I.Zw a _ ea);exact Do EH I.Jt ⟨_,h1,Xb⟩ c e nofun fin
 |@frz a ob xs ea=>cases(show u=Value.ref a from d);obtain⟨_,_,_,n,_,h1⟩:=(show Z3 X.prog X.w H s.heap a (.frz ob (.lst xs))from I.Zw a _ ea);exact Do EH I.Jt ⟨_,h1,Xb⟩ c e nofun fin
 |@tup a xs ea=>cases(show u=Value.ref a from d);obtain⟨_,_,_,p⟩:=(show Z3 X.prog X.w H s.heap a (.tup xs)from I.Zw a _ ea);obtain⟨o,h1,h2,_⟩:=p;exact Do LJ I.Jt ⟨o,h1,h2⟩ c e nofun fin
 |@dK a zw ea=>cases(show u=Value.ref a from d);obtain⟨_,_,vs,_,p⟩:=(show Z3 X.prog X.w H s.heap a (.dK zw)from I.Zw a _ ea);obtain⟨o,es,ep,h1,h2,_⟩:=p;exact Do EI I.Jt ⟨o,h1,h2.1⟩ c e nofun fin
 |@dT a zw ea=>cases(show u=Value.ref a from d);obtain⟨_,_,xs,_,o,es,ep,h1,h2,_⟩:=(show Z3 X.prog X.w H s.heap a (.dT zw)from I.Zw a _ ea);exact Do EI I.Jt ⟨o,h1,h2.1⟩ c e nofun fin
end
theorem Qsx:Tf K (.type "list") (.type "list")=Ga Gf:=by rfl
theorem Qrs:Tf K (.type "tuple") (.type "tuple")=Ga Gf:=by rfl
theorem Q0g:Tf K (.type "list") (.type "tuple")=Ga Gq:=by kernel_rfl
theorem Qrj:Tf K (.type "tuple") (.type "list")=Ga Gq:=by kernel_rfl
theorem Qrl:Tf K (.type "str") (.type "str")=Ga Gf:=by rfl
theorem Q1f:Tf K (.type "bool") (.type "str")=Ga Gq:=by kernel_rfl
theorem Qzm:Tf K (.type "int") (.type "str")=Ga Gq:=by kernel_rfl
theorem Q08:Tf K (.type "NoneType") (.type "str")=Ga Gq:=by kernel_rfl
theorem Qst:Tf K (.type "bool") (.type "bool")=Ga Gf:=by rfl
theorem Qrh:Tf K (.type "int") (.type "bool")=Ga Gq:=by kernel_rfl
theorem Qz3:Tf K (.type "NoneType") (.type "bool")=Ga Gq:=by kernel_rfl
theorem Q1c:Tf K (.type "int") (.type "int")=Ga Gf:=by rfl
theorem Q0w:DT K (.type "list") [.type "list",.type "tuple"]=Ga Gf:=by rfl
theorem Qzp:DT K (.type "tuple") [.type "list",.type "tuple"]=Ga Gf:=by unfold DT;rw[Qrj];rfl
theorem Qb3{t:String}(h1:Tf K (.type t) (.type "list")=Ga Gq)(h2:Tf K (.type t) (.type "tuple")=Ga Gq):DT K (.type t) [.type "list",.type "tuple"]=Ga Gq:=by unfold DT;rw[h1];unfold DT;rw[h2];rfl
theorem Q07:Tf K (.type "str") (.type "list")=Ga Gq:=by kernel_rfl
theorem Qud:Tf K (.type "str") (.type "tuple")=Ga Gq:=by kernel_rfl
theorem Qz9:Tf K (.type "int") (.type "list")=Ga Gq:=by kernel_rfl
theorem Qrg:Tf K (.type "int") (.type "tuple")=Ga Gq:=by kernel_rfl
theorem Q0c:Tf K (.type "bool") (.type "list")=Ga Gq:=by kernel_rfl
theorem Q01:Tf K (.type "bool") (.type "tuple")=Ga Gq:=by kernel_rfl
theorem Q02:Tf K (.type "NoneType") (.type "list")=Ga Gq:=by kernel_rfl
theorem Qz4:Tf K (.type "NoneType") (.type "tuple")=Ga Gq:=by kernel_rfl
end L2
namespace PySem
section
variable{prog:Gg}{w:Gs}{A:TL}{E:Value->Gk->Prop}{s:Gk}
open PyProof.Rows
def Heap.Qms(h:Heap)(a l:Gc)(i:Int):Prop:=∃o,h.get? a=Ga o/\o.cls=.type "reversed"/\o.data=.fields #[.ref l,rawInt i]
theorem Heap.Qms.at{h h':Heap}{a l:Gc}{i:Int}(x:h.Qms a l i)(e:∀o,h.get? a=Ga o->h'.get? a=Ga o):h'.Qms a l i:=let⟨o,ho,r⟩:=x;⟨o,e _ ho,r⟩
end
section
variable{prog:Gg}{w:Gs}{K:Type}[DecidableEq K]{knd:NC prog w K}{A:TL}{E:Value->Gk->Prop}{s:Gk}
theorem Ud{d a:Gc}{xs:List (K×Gc×Value)}{k:K}{dflt:Value}{Q:Value->Gk->Prop}(u:knd.room A)(b:knd.is s.heap k a)(z:s.heap.DictOfH knd d xs)
  (c:∀p,atKey xs k=Ga p->Q p.2 {s with toks:=s.toks+knd.draws k})
  (l:atKey xs k=Gh->∀h',h'.DictOfH knd d (xs++[(k,a,dflt)])->Heap.SameBut d s.heap h'->Q dflt {s with heap:=h',toks:=s.toks+knd.draws k})
  (hsz:xs.length<=Gj):
  wpAny (GY prog w) A (dictSetDefault d (.ref a) dflt) Q E s:=by
 obtain⟨o,es,ep,h,hc,hd,q,i,r⟩:=z;unfold dictSetDefault;try with_reducible refine T4 ?_
 refine Gb (knd.pyHash u b ?_);refine Gb (wpAny_dictFind_heap (s:={s with toks:=s.toks+knd.draws k}) u b h hd q i r ?_ ?_)
 ·intro m;have n:k∉xs.map (·.1):=not_mem_keys_of_get m;have g:=atKey_none_of_get m;refine Gb (ET (Gb (wpAny_updateDictKeys (hz:=by have e:=size_of_entries q;omega) (s:={s with toks:=s.toks+knd.draws k}) h hd (Ge (l g _ ⟨_,_,ep+1,Heap.get?_update_self _ h (Obj.isFreed_of_dict (Lj hd _)),
   hc.mapDictKeys _,Lj hd _,?_,?_,?_⟩ (Heap.SameBut.update ..))))))
  ·simp[q,entryOfKey]
  ·intro x f;rcases List.mem_append.mp f with f|f
   ·exact knd.keeps (i x f) h hd (Heap.SameBut.update ..)
   ·simp only[List.mem_singleton]at f;subst f;exact knd.keeps b h hd (Heap.SameBut.update ..)
  ·rw[List.map_append,List.nodup_append];refine⟨r,by simp,?_⟩;intro x f y v;simp only[List.map_cons,List.map_nil,List.mem_singleton]at v;subst v;exactλe=>n (e▸f)
 ·intro j p t;have g:=atKey_of_get r t;refine Gb (Dz (s:={s with toks:=s.toks+knd.draws k}) h hd ?_);rw[entry_at q j,t];exact Gb (ET (Ge (c p g)))
theorem Wq(knd:NC prog w K)(d a:Gc)(hd:(d==T9)=Gq)(dflt:Value):
  MeetsIn prog w (Builtin.«dict.setdefault» ⟨[.ref d,.ref a,dflt],[]⟩) (λA R s=>knd.room A.in1/\∃k xs,knd.is s.heap k a/\s.heap.DictOfH knd d xs/\xs.length<=Gj/\
   (∀p,atKey xs k=Ga p->R (.ok (.ret p.2)) {s with toks:=s.toks+knd.draws k})/\
   (atKey xs k=Gh->∀h',h'.DictOfH knd d (xs++[(k,a,dflt)])->Heap.SameBut d s.heap h'->R (.ok (.ret dflt)) {s with heap:=h',toks:=s.toks+knd.draws k})):=
 .of_wp λA R s⟨h,k,xs,b,f,hz,h1,h2⟩=>by unfold Builtin.«dict.setdefault»;refine Gb ?_;unfold Builtin.Dict.keyAndDefault;refine Gb (EO f.typeIs ?_);show wpAny _ _ (pure (d,Value.ref a,Ga dflt)) _ _ s;refine Ge ?_;show wpAny _ _ (if(d==T9)=Gf then _ else(dictSetDefault d (.ref a) dflt>>=_)) _ _ s;rw[Gi (by rw[hd];exact Gx)];exact Gb (Ud h b f (λp i=>Ge ⟨p.2,Xb,h1 p i⟩) (λg h' c e=>Ge ⟨dflt,Xb,h2 g h' c e⟩) hz)
end
end PySem
namespace L2
open PySem PySem.Spec PyProof.Rows
section
variable{X:Cx}{tg:T3}
inductive Qje(x:V)(vs:List V)(H:Hp)(Q:VK):Prop
 |mk (d:_) (b:_) (dv:_) (zw:_) (k:_) (h0:x=.ref d) (h1:vs=[.ref b,dv]) (h2:H d=Ga (.dT zw)) (h3:H b=Ga (.tup (k.map kV))) (h4:zw.length<Gj) (h5:(∀v,Y2 zw k=Ga v->Q v H)) (h6:(Y2 zw k=Gh->Q dv (zj H d (.dT (zw++[(k,dv)]))))):Qje x vs H Q
def Qvo:V->List V->Hp->VK->Prop:=λx vs H Q=>Qje x vs H Q
theorem Qp3(G:X.A.units+1<DR):MtR X "dict.setdefault" Qvo:=by
 intro zq s σ H x vs v us Q I N rv h;obtain⟨d,b,i,zw,k,rfl,rfl,e,l,hz,K,L⟩:=h;cases(show v=Value.ref d from N);obtain⟨O,r,rfl,M,o⟩:=vals2 rv;cases(show O=Value.ref b from M);obtain⟨z,hd,xs,rel,j⟩:=Qyx I.Zw e;have J:zw.length=xs.length:=Gr rel;refine Fa F.slot_dict_setdefault j.typeIs F.entry_dict_setdefault (F.args_dict_setdefault_3 _ _ _) (Wq (tupleKind (Ym X.prog X.w)) d b hd r) ⟨Ej G,k,xs,Qai I.Zw l,j,by lia,λp D=>?_,λC h' g E=>?_⟩
 ·have a:=rel.val k;rw[D]at a;cases q:Y2 zw k with
  |none=>rw[q]at a;exact(show False from a).elim
  |some y=>rw[q]at a;exact⟨y,H,I.tok _,a,K y q⟩
 ·have a:=rel.val k;rw[C]at a;cases q:Y2 zw k with
  |some y=>rw[q]at a;exact(show False from a).elim
  |none=>obtain⟨ob,es,ep,n,h2,t,u,_,B⟩:=g;have f:KT H (zw++[(k,i)]) (xs++[(k,b,r)]):=DI rel ⟨Xb,l,o⟩;refine⟨i,_,Ir (ob:=.dT (zw++[(k,i)])) I (by rw[e];exact TC) E ⟨ob,n⟩ ⟨by rw[List.length_append,List.length_singleton];lia,hd,_,f.keeps λc ys m=>?_,ob,es,ep,n,h2,t,u,B⟩,o,L q⟩;rw[Qf (Zi m e nofun)];exact m
end
theorem Qg{H:Hp}{p:Gc}(h:H p=Gh)(o:HO):Q4 H (zj H p o):=λb u q=>by rw[Qf (Qc q h)];exact q
theorem nd1(x:Ta):[x].Nodup:=by simp
theorem small{n:Nat}(h:n<=16000000):n<=Gj:=by rw[GQ];omega
end L2
namespace Sb
open PySem
inductive Th where
 |mk (w:Ta) (ps:List Th)
mutual
def Th.size:Th->Nat
 |.mk _ ps=>Qw ps+1
def Qw:List Th->Nat
 |[]=>0
 |p::r=>p.size+Qw r
end
mutual
def Th.depth:Th->Nat
 |.mk _ ps=>Wf ps+1
def Wf:List Th->Nat
 |[]=>0
 |p::r=>max p.depth (Wf r)
end
mutual
def Th.inside:Th->List Th
 |.mk w ps=>Za ps++[.mk w ps]
def Za:List Th->List Th
 |[]=>[]
 |p::r=>p.inside++Za r
end
mutual
def Th.toD:Th->TH
 |.mk w ps=>.tuple (.str w::Wg ps)
def Wg:List Th->List TH
 |[]=>[]
 |p::r=>p.toD::Wg r
end
mutual
def Th.ok:Th->Bool
 |.mk w ps=>TU w&&okL ps
def okL:List Th->Bool
 |[]=>Gf
 |p::r=>p.ok&&okL r
end
def Rf(w:Ta):Bool:=TU w&&decide (w.length<=200)
theorem Rf.str{w:Ta}(h:Rf w=Gf):TU w=Gf:=(DG.mp h).1
theorem Rf.len{w:Ta}(h:Rf w=Gf):w.length<=200:=TJ (DG.mp h).2
mutual
def Th.short:Th->Bool
 |.mk w ps=>decide (w.length<=200)&&Qag ps
def Qag:List Th->Bool
 |[]=>Gf
 |p::r=>p.short&&Qag r
end
def Th.word:Th->Ta
 |.mk w _=>w
def Th.parts:Th->List Th
 |.mk _ ps=>ps
theorem Iq:∀ts:List Th,okL ts=ts.all Th.ok
 |[]=>by simp[okL]
 |t::r=>by simp[okL,Iq r]
mutual
theorem Qme:∀t:Th,t.inside.length=t.size
 |.mk w ps=>by simp[Th.inside,Th.size,Uh ps]
theorem Uh:∀ts:List Th,(Za ts).length=Qw ts
 |[]=>by simp[Za,Qw]
 |p::r=>by simp[Za,Qw,Qme p,Uh r]
end
theorem Qd4(t:Th):1<=t.size:=by cases t;simp[Th.size]
theorem Qay(t:Th):1<=t.depth:=by cases t;simp[Th.depth]
theorem We:∀{ts:List Th}{t:Th},t∈ts->t.depth<=Wf ts
 |p::r,t,h=>by
  rcases List.mem_cons.mp h with rfl|h
  ·simp only[Wf];lia
  ·have:=We h;simp only[Wf];lia
theorem Zz:∀ts:List Th,ts.length<=Qw ts
 |[]=>by simp[Qw]
 |p::r=>by have:=Qd4 p;have:=Zz r;simp only[Qw,List.length_cons];lia
mutual
theorem Qid:∀(t:Th){s:Th},s∈t.inside->s.size<=t.size
 |.mk w ps,s,h=>by
  simp only[Th.inside,List.mem_append,List.mem_singleton]at h;rcases h with h|rfl
  ·have:=Ox ps h;simp only[Th.size];omega
  ·exact Gm _
theorem Ox:∀(ts:List Th){s:Th},s∈Za ts->s.size<=Qw ts
 |p::r,s,h=>by
  simp only[Za,List.mem_append]at h;rcases h with h|h
  ·have:=Qid p h;simp only[Qw];omega
  ·have:=Ox r h;simp only[Qw];omega
 |[],s,h=>by simp[Za]at h
end
theorem Qoc(t:Th):t∈t.inside:=by cases t;simp[Th.inside]
theorem Xn:∀ts:List Th,Za ts=ts.flatMap Th.inside
 |[]=>by simp[Za]
 |p::r=>by simp[Za,Xn r]
theorem Qvr{x y:Ta}:(x==y)=decide (x=y):=by
 by_cases h:x=y
 ·subst h;simp
 ·simp[h]
mutual
theorem Jk:∀s t:Th,TQ s.toD t.toD=Gf↔s=t
 |.mk w ps,.mk v a=>by simp only[Th.toD,TQ,Tx,Tn,Th.mk.injEq];rw[Qi9 ps a,Qvr,decide_eq_true_iff]
theorem Qi9:∀a ts:List Th,Tx (Wg a) (Wg ts)=Gf↔a=ts
 |[],[]=>by simp[Wg,Tx]
 |[],t::r=>by simp[Wg,Tx]
 |s::r,[]=>by simp[Wg,Tx]
 |s::r,t::q=>by simp only[Wg,Tx,Tn,List.cons.injEq];rw[Jk s t,Qi9 r q]
end
instance:DecidableEq Th:=λs t=>if h:TQ s.toD t.toD=Gf then .isTrue ((Jk s t).mp h)else .isFalse λe=>h ((Jk s t).mpr e)
theorem Qop(s t:Th):TQ s.toD t.toD=decide (s=t):=by
 by_cases h:s=t
 ·rw[GX h];exact(Jk s t).mpr h
 ·rw[Gz h];exact Sw.mpr λe=>h ((Jk s t).mp e)
mutual
theorem J0:∀t:Th,t.ok=Gf->t.toD.canLay0=Gf
 |.mk w ps,h=>by simp only[Th.ok,Tn]at h;simp only[Th.toD,Tp,Gv,Tn];exact⟨h.1,Qgz ps h.2⟩
theorem Qgz:∀ts:List Th,okL ts=Gf->Gv (Wg ts)=Gf
 |[],_=>by simp[Wg,Gv]
 |t::r,h=>by simp only[okL,Tn]at h;simp only[Wg,Gv,Tn];exact⟨J0 t h.1,Qgz r h.2⟩
end
mutual
theorem Wl:∀t:Th,t.toD.depth=t.depth
 |.mk w ps=>by simp only[Th.toD,Dg,To,Th.depth,Qcs ps];lia
theorem Qcs:∀ts:List Th,To (Wg ts)=Wf ts
 |[]=>by simp[Wg,To,Wf]
 |t::r=>by simp[Wg,To,Wf,Wl t,Qcs r]
end
def Yr(acc:List Th)(xs:List Th):List Th:=xs.foldl (λacc x=>if x∈acc then acc else acc++[x]) acc
theorem Ie(acc:List Th):Yr acc []=acc:=rfl
theorem Iw(acc:List Th)(x:Th)(r:List Th):Yr acc (x::r)=Yr (if x∈acc then acc else acc++[x]) r:=rfl
theorem Ue(acc xs ys:List Th):Yr acc (xs++ys)=Yr (Yr acc xs) ys:=by unfold Yr;rw[List.foldl_append]
theorem Qpn(acc xs:List Th)(y:Th):Yr acc (xs++[y])=if y∈Yr acc xs then Yr acc xs else Yr acc xs++[y]:=by rw[Ue];rfl
theorem Qc6:∀(xs acc:List Th)(y:Th),y∈Yr acc xs↔y∈acc\/y∈xs
 |[],acc,y=>by simp[Ie]
 |x::r,acc,y=>by
  rw[Iw,Qc6 r];by_cases h:x∈acc
  ·rw[Gn h];constructor
   ·rintro(h1|h1)
    ·exact .inl h1
    ·exact .inr (List.mem_cons_of_mem _ h1)
   ·rintro(h1|h1)
    ·exact .inl h1
    ·rcases List.mem_cons.mp h1 with rfl|h1
     ·exact .inl h
     ·exact .inr h1
  ·rw[Gi h];simp only[List.mem_append,List.mem_cons,List.not_mem_nil,Ee];constructor
   ·rintro((h1|h1)|h1)
    ·exact .inl h1
    ·exact .inr (.inl h1)
    ·exact .inr (.inr h1)
   ·rintro(h1|h1|h1)
    ·exact .inl (.inl h1)
    ·exact .inl (.inr h1)
    ·exact .inr h1
theorem Qfq:∀(xs acc:List Th),(∀x∈xs,x∈acc)->Yr acc xs=acc
 |[],_,_=>rfl
 |x::r,acc,h=>by rw[Iw,Gn (h x List.mem_cons_self)];exact Qfq r acc λy a=>h y (List.mem_cons_of_mem _ a)
theorem Qco:∀(xs acc:List Th),(Yr acc xs).length<=acc.length+xs.length
 |[],acc=>by simp[Ie]
 |x::r,acc=>by
  rw[Iw];have:=Qco r (if x∈acc then acc else acc++[x]);split at this
  ·rename_i h
   rw[Gn h];simp only[List.length_cons];lia
  ·rename_i h
   rw[Gi h];simp only[List.length_append,List.length_cons,List.length_nil]at this⊢;lia
def Ua(ts:List Th):Prop:=∀t∈ts,∀s∈t.inside,s∈ts
theorem Ql1:Ua []:=λ_ h=>by simp at h
theorem Qom{ts:List Th}{t:Th}(h:Ua ts)(a:t∈ts):Yr ts t.inside=ts:=Qfq _ _ λx b=>h t a x b
theorem Vj:∀(xs acc:List Th),∃m,Yr acc xs=acc++m
 |[],acc=>⟨[],by simp[Ie]⟩
 |x::r,acc=>by
  rw[Iw];split
  ·exact Vj r acc
  ·obtain⟨m,e⟩:=Vj r (acc++[x]);exact⟨x::m,by rw[e];simp⟩
def Qcj(t:Th):List Ta:=t.word::t.parts.map Th.word
end Sb
namespace L2
open PySem PySem.Spec PyProof.Rows
theorem Qjo(x:V)(vs:List V):U9 (x::vs) (Ga 1) Gh=vs:=by
 have e:HT.Wn (x::vs).length 0 (Ga 1)=1:=by have q:=HT.Oy (x::vs).length 0 1;rw[List.length_cons]at q⊢;refine q.trans ?_;lia
 unfold U9;rw[e,HT.Oi];simp
theorem Ub(x:V)(vs:List V):¬(HT.Wn (x::vs).length 0 (Ga 1)=0/\HT.Wn (x::vs).length (x::vs).length Gh=(x::vs).length):=by
 have e:HT.Wn (x::vs).length 0 (Ga 1)=1:=by have q:=HT.Oy (x::vs).length 0 1;rw[List.length_cons]at q⊢;refine q.trans ?_;omega
 rw[e];rintro⟨h,_⟩;exact absurd h (by decide)
end L2
namespace Sb
open PySem PySem.Spec PyProof.Rows L2
variable{H H':Hp}{v:V}{t:Th}
mutual
inductive Yl(H:Hp):V->Th->Prop
 |mk {a:Gc} {w:Ta} {vs:List V} {ps:List Th}:H a=Ga (.tup (.str w::vs))->Zq H vs ps->Yl H (.ref a) (.mk w ps)
inductive Zq(H:Hp):List V->List Th->Prop
 |nil:Zq H [] []
 |cons {v:V} {vs:List V} {t:Th} {ts:List Th}:Yl H v t->Zq H vs ts->Zq H (v::vs) (t::ts)
end
def Qu(H H':Hp):Prop:=∀b xs,H b=Ga (.tup xs)->H' b=Ga (.tup xs)
theorem Qu.of(e:Q4 H H'):Qu H H':=λb xs h=>e b _ h
theorem Qu.trans{H1 H2:Hp}(a:Qu H H1)(b:Qu H1 H2):Qu H H2:=λc xs h=>b c xs (a c xs h)
theorem Zs{a:Gc}{o:HO}(h:∀xs,H a≠Ga (.tup xs)):Qu H (zj H a o):=λb xs e=>by
 by_cases hb:b=a
 ·subst hb;exact absurd e (h xs)
 ·rw[Qf hb];exact e
mutual
theorem Yl.Qm{H H':Hp}(e:Qu H H'):∀{v:V}{t:Th},Yl H v t->Yl H' v t
 |_,_,.mk h r=>.mk (e _ _ h) (Zq.Qm e r)
theorem Zq.Qm{H H':Hp}(e:Qu H H'):∀{vs:List V}{ts:List Th},Zq H vs ts->Zq H' vs ts
 |_,_,.nil=>.nil
 |_,_,.cons h r=>.cons (Yl.Qm e h) (Zq.Qm e r)
end
theorem Yl.same(e:Q4 H H')(h:Yl H v t):Yl H' v t:=h.Qm (Qu.of e)
theorem Zq.same(e:Q4 H H'){vs:List V}{ts:List Th}(h:Zq H vs ts):Zq H' vs ts:=h.Qm (Qu.of e)
mutual
theorem Yl.dt{H:Hp}:∀{v:V}{t:Th},Yl H v t->Dt H v t.toD
 |_,_,.mk (w:=w) (ps:=ps) h r=>by
  have e:(Th.mk w ps).toD=.tuple (.str w::Wg ps):=by simp[Th.toD]
  rw[e];exact .tup h (.cons (.str w) (Zq.dts r))
theorem Zq.dts{H:Hp}:∀{vs:List V}{ts:List Th},Zq H vs ts->Rh H vs (Wg ts)
 |_,_,.nil=>by simp only[Wg];exact .nil
 |_,_,.cons h r=>by simp only[Wg];exact .cons (Yl.dt h) (Zq.dts r)
end
theorem Yl.inv(h:Yl H v t):∃a w vs ps,v=.ref a/\t=.mk w ps/\H a=Ga (.tup (.str w::vs))/\Zq H vs ps:=by
 cases h with
 |mk h r=>exact⟨_,_,_,_,Xb,Xb,h,r⟩
theorem Zq.length{H:Hp}:∀{vs:List V}{ts:List Th},Zq H vs ts->vs.length=ts.length
 |_,_,.nil=>rfl
 |_,_,.cons _ t=>by rw[List.length_cons,List.length_cons,t.length]
theorem Zq.append{H:Hp}:∀{vs us:List V}{ts a:List Th},Zq H vs ts->Zq H us a->Zq H (vs++us) (ts++a)
 |_,_,_,_,.nil,t=>t
 |_,_,_,_,.cons h r,t=>.cons h (r.append t)
theorem Zq.one(h:Yl H v t):Zq H [v] [t]:=.cons h .nil
theorem Zq.get{H:Hp}:∀{vs:List V}{ts:List Th}{i:Nat}{v:V},Zq H vs ts->vs[i]?=Ga v->∃t,ts[i]?=Ga t/\Yl H v t
 |_,_,_,_,.nil,e=>by simp at e
 |_,_,0,_,.cons h _,e=>by simp at e;subst e;exact⟨_,Xb,h⟩
 |_,_,i+1,_,.cons _ t,e=>by obtain⟨d,h1,h2⟩:=Zq.get (i:=i) t (by simpa using e);exact⟨d,by simpa using h1,h2⟩
theorem Zq.at{H:Hp}{vs:List V}{ts:List Th}{i:Nat}{t:Th}(h:Zq H vs ts)(e:ts[i]?=Ga t):∃v,vs[i]?=Ga v/\Yl H v t:=by
 have hi:i<ts.length:=(List.getElem?_eq_some_iff.mp e).1;have a:i<vs.length:=by rw[h.length];exact hi
 obtain⟨t',h1,h2⟩:=h.get (List.getElem?_eq_getElem a);rw[e]at h1;cases h1;exact⟨_,List.getElem?_eq_getElem a,h2⟩
mutual
def W0:TH->Nat
 |.none=>1|.bool _=>1|.int _=>1|.str _=>1
 |.list xs=>Zm xs+1
 |.tuple xs=>Zm xs+1
 |.dict _=>1
def Zm:List TH->Nat
 |[]=>0
 |x::r=>W0 x+Zm r
end
theorem Qfy(d:TH):1<=W0 d:=by cases d<;>simp[W0]
theorem X0:∀xs ys:List TH,Zm (xs++ys)=Zm xs+Zm ys
 |[],ys=>by simp[Zm]
 |x::r,ys=>by simp only[List.cons_append,Zm,X0 r ys];lia
theorem Um:∀xs:List TH,xs.length<=Zm xs
 |[]=>by simp[Zm]
 |x::r=>by have:=Qfy x;have:=Um r;simp only[Zm,List.length_cons];lia
mutual
theorem Qdi:∀t:Th,W0 t.toD=2*t.size
 |.mk w ps=>by simp only[Th.toD,W0,Zm,Th.size,Qgb ps];lia
theorem Qgb:∀ts:List Th,Zm (Wg ts)=2*Qw ts
 |[]=>by simp[Wg,Zm,Qw]
 |t::r=>by simp only[Wg,Zm,Qw,Qdi t,Qgb r];omega
end
theorem Jv:∀(ts:List Th)(n:Nat),(∀t∈ts,t.size<=n)->Qw ts<=ts.length*n
 |[],n,_=>by simp[Qw]
 |t::r,n,h=>by have h1:=h t List.mem_cons_self;have h2:=Jv r n λs a=>h s (List.mem_cons_of_mem _ a);simp only[Qw,List.length_cons];rw[Eh];lia
structure Drawn(ts:List Th)(m:Nat):Prop where
 len:ts.length=3+m
 ok:∀t∈ts,t.ok=Gf
 dep:∀(j:Nat)t,ts[j]?=Ga t->t.depth<=j+1
 one:∀(j:Nat)t,ts[j]?=Ga t->j<=2->t.size<=1
 two:∀(j:Nat)t,ts[j]?=Ga t->j<=3->t.size<=4
 tri:∀(j:Nat)t,ts[j]?=Ga t->j<=4->t.size<=10
 any:∀(j:Nat)t,ts[j]?=Ga t->t.size<=12*j+1
 sh:∀t∈ts,t.short=Gf
 tab:ts[1]?=Ga (.mk "tab" [])
 cl:∀t∈ts,∀p∈t.parts,p∈ts
inductive Qi3(K:Gd)(vs:List V)(H:Hp)(Q:VK):Prop
 |mk (a:Gc) (ns:List Int) (h0:vs=[.ref a]) (h1:Zd K H a (ns.map V.int)) (h2:ns.length<=63) (h3:∀(r:Gc)(us:List V)(ts:List Th)(H':Hp),Q4 H H'->H r=Gh->H' r=Ga (.lst us)->Zq H' us ts->Drawn ts ns.length->Q (.ref r) H'):Qi3 K vs H Q
def Qm9(K:Gd):Sp:=λvs H Q _=>Qi3 K vs H Q
inductive Qnb(vs:List V)(H:Hp)(Q:VK):Prop
 |mk (n:Int) (h0:vs=[.int n]) (h1:∀(x:Ta),Rf x=Gf->Q (.str x) H):Qnb vs H Q
def Qu8:Sp:=λvs H Q _=>Qnb vs H Q
inductive Qyz(vs:List V)(H:Hp)(Q:VK):Prop
 |mk (x:V) (y:V) (d:TH) (h0:vs=[x,y]) (h1:Dt H x d) (h2:Dt H y d) (h3:d.canLay0=Gf) (h4:W0 d<=1000000) (h5:d.depth<=60) (h6:∀(H':Hp),Q4 H H'->Q (.bl Gf) H'):Qyz vs H Q
def Q2a:Sp:=λvs H Q _=>Qyz vs H Q
inductive Qtd(K:Gd)(vs:List V)(H:Hp)(Q:VK):Prop
 |mk (a:Gc) (ns:List Int) (h0:vs=[.ref a]) (h1:Zd K H a (ns.map V.int)) (h2:ns.length<=63) (h3:∀H',Q (.bl Gf) H'):Qtd K vs H Q
def Qnf(K:Gd):Sp:=λvs H Q _=>Qtd K vs H Q
end Sb
namespace L2
open PySem PySem.Spec PyProof.Rows
inductive KD where
 |int (i:Int)
 |str (x:Ta)
 |tup (xs:List KD)
mutual
def KD.toD:KD->TH
 |.int i=>.int i
 |.str x=>.str x
 |.tup xs=>.tuple (Uj xs)
def Uj:List KD->List TH
 |[]=>[]
 |x::r=>x.toD::Uj r
end
mutual
def KD.depth:KD->Nat
 |.int _=>0
 |.str _=>0
 |.tup xs=>Jx xs+1
def Jx:List KD->Nat
 |[]=>0
 |x::r=>max x.depth (Jx r)
end
mutual
def KD.hash(w:Gs):KD->Int
 |.int i=>hashInt i
 |.str x=>hashStr w x
 |.tup xs=>reduceHash (Builtin.Tuple.tupleHashOf (V0 w xs))
def V0(w:Gs):List KD->List Int
 |[]=>[]
 |x::r=>x.hash w::V0 w r
end
mutual
def KD.draws:KD->Nat
 |.int _=>1
 |.str _=>1
 |.tup xs=>Xu xs+1
def Xu:List KD->Nat
 |[]=>0
 |x::r=>x.draws+Xu r
end
theorem Qxh:∀xs:List KD,Uj xs=xs.map KD.toD
 |[]=>by simp[Uj]
 |x::r=>by simp[Uj,Qxh r]
theorem Qdf(w:Gs):∀xs:List KD,V0 w xs=xs.map (KD.hash w)
 |[]=>by simp[V0]
 |x::r=>by simp[V0,Qdf w r]
theorem J9:∀xs ys:List KD,Xu (xs++ys)=Xu xs+Xu ys
 |[],ys=>by simp[Xu]
 |x::r,ys=>by simp only[List.cons_append,Xu,J9 r ys];lia
theorem Qaf:∀{xs:List KD}{x:KD},x∈xs->x.depth<=Jx xs
 |y::r,x,h=>by
  simp only[Jx];rcases List.mem_cons.mp h with rfl|h
  ·lia
  ·have:=Qaf h;lia
mutual
theorem Qct:∀a b:KD,TQ a.toD b.toD=Gf↔a=b
 |.int i,.int j=>by simp[KD.toD,TQ]
 |.int i,.str y=>by simp[KD.toD,TQ]
 |.int i,.tup ys=>by simp[KD.toD,TQ]
 |.str x,.int j=>by simp[KD.toD,TQ]
 |.str x,.str y=>by simp[KD.toD,TQ]
 |.str x,.tup ys=>by simp[KD.toD,TQ]
 |.tup xs,.int j=>by simp[KD.toD,TQ]
 |.tup xs,.str y=>by simp[KD.toD,TQ]
 |.tup xs,.tup ys=>by simp only[KD.toD,TQ,KD.tup.injEq];exact Qok xs ys
theorem Qok:∀xs ys:List KD,Tx (Uj xs) (Uj ys)=Gf↔xs=ys
 |[],[]=>by simp[Uj,Tx]
 |[],_::_=>by simp[Uj,Tx]
 |_::_,[]=>by simp[Uj,Tx]
 |x::r,y::q=>by simp only[Uj,Tx,Tn,List.cons.injEq];rw[Qct x y,Qok r q]
end
instance:DecidableEq KD:=λa b=>if h:TQ a.toD b.toD=Gf then .isTrue ((Qct a b).mp h)else .isFalse λe=>h ((Qct a b).mpr e)
theorem Qmn(a b:KD):TQ a.toD b.toD=decide (a=b):=by
 by_cases h:a=b
 ·rw[GX h];exact(Qct a b).mpr h
 ·rw[Gz h];exact Sw.mpr λe=>h ((Qct a b).mp e)
mutual
theorem Oe:∀a:KD,a.toD.depth=a.depth
 |.int _=>by simp[KD.toD,Dg,KD.depth]
 |.str _=>by simp[KD.toD,Dg,KD.depth]
 |.tup xs=>by simp only[KD.toD,Dg,KD.depth,Qfu xs]
theorem Qfu:∀xs:List KD,To (Uj xs)=Jx xs
 |[]=>by simp[Uj,To,Jx]
 |x::r=>by simp only[Uj,To,Jx,Oe x,Qfu r]
end
theorem Iu{h:Heap}{v:Value}{xs:List TH}{b:List Gc}(r:LB h v (.tuple xs) b):∃a o vs n,v=.ref a/\h.get? a=Ga o/\o.cls=.type "tuple"/\o.data=.seq vs n/\EZ h vs.toList xs b:=by
 cases r with
 |tuple h1 h2 c d=>exact⟨_,_,_,_,Xb,h1,h2,c,d⟩
mutual
theorem Qfb{h h':Heap}{d:Gc}{o:Eg}{es:Array Ep}{ep:Nat}(e:h.get? d=Ga o)(hd:o.data=.dict es ep)(f:Heap.SameBut d h h'):∀{v:Value}{x:TH}{j:List Gc},LB h v x j->x.canLay0=Gf->LB h' v x j
 |_,_,_,.none,_=>.none
 |_,_,_,.bool b,_=>.bool b
 |_,_,_,.int i t,_=>.int i t
 |_,_,_,.str x t,_=>.str x t
 |_,_,_,.list (a:=a) h1 h2 c g,hl=>by simp only[Tp]at hl;refine .list ((f.2 a ?_).trans h1) h2 c (Ji e hd f g hl);rintro rfl;rw[e]at h1;cases h1;rw[hd]at c;cases c
 |_,_,_,.tuple (a:=a) h1 h2 c g,hl=>by simp only[Tp]at hl;refine .tuple ((f.2 a ?_).trans h1) h2 c (Ji e hd f g hl);rintro rfl;rw[e]at h1;cases h1;rw[hd]at c;cases c
 |_,_,_,.dict _ _ _ _ _,hl=>by simp[Tp]at hl
theorem Ji{h h':Heap}{d:Gc}{o:Eg}{es:Array Ep}{ep:Nat}(b:h.get? d=Ga o)(hd:o.data=.dict es ep)(c:Heap.SameBut d h h'):∀{vs:List Value}{xs:List TH}{a:List Gc},EZ h vs xs a->Gv xs=Gf->EZ h' vs xs a
 |_,_,_,.nil,_=>.nil
 |_,_,_,.cons h1 h2,hl=>by simp only[Gv,Tn]at hl;exact .cons (Qfb b hd c h1 hl.1) (Ji b hd c h2 hl.2)
end
mutual
theorem Qfv{h:Heap}:∀(a b:KD){v:Value}{f bs:List Gc},LB h v a.toD f->LB h v b.toD bs->a=b
 |.int i,.int j,_,_,_,r,q=>by simp only[KD.toD]at r q;cases r;cases q;rfl
 |.int i,.str y,_,_,_,r,q=>by simp only[KD.toD]at r q;cases r;cases q
 |.int i,.tup ys,_,_,_,r,q=>by simp only[KD.toD]at r q;cases r;cases q
 |.str x,.int j,_,_,_,r,q=>by simp only[KD.toD]at r q;cases r;cases q
 |.str x,.str y,_,_,_,r,q=>by simp only[KD.toD]at r q;cases r;cases q;rfl
 |.str x,.tup ys,_,_,_,r,q=>by simp only[KD.toD]at r q;cases r;cases q
 |.tup xs,.int j,_,_,_,r,q=>by simp only[KD.toD]at r q;cases q;cases r
 |.tup xs,.str y,_,_,_,r,q=>by simp only[KD.toD]at r q;cases q;cases r
 |.tup xs,.tup ys,_,_,_,r,q=>by simp only[KD.toD]at r q;obtain⟨a,o,vs,n,rfl,h1,h2,g,k⟩:=Iu r;obtain⟨p,o',m,t,e,c,s,d,l⟩:=Iu q;cases e;rw[h1]at c;cases c;rw[g]at d;cases d;rw[On xs ys k l]
theorem On{h:Heap}:∀(xs ys:List KD){vs:List Value}{b bs:List Gc},EZ h vs (Uj xs) b->EZ h vs (Uj ys) bs->xs=ys
 |[],[],_,_,_,_,_=>rfl
 |[],y::q,_,_,_,r,t=>by simp only[Uj]at r t;cases r;cases t
 |x::a,[],_,_,_,r,t=>by simp only[Uj]at r t;cases t;cases r
 |x::a,y::q,_,_,_,r,t=>by
  simp only[Uj]at r t;cases r with
  |cons h1 h2=>
   cases t with
   |cons c d=>rw[Qfv x y h1 c,On a q h2 d]
end
section
variable{prog:Gg}{w:Gs}
mutual
theorem Qf7:∀(k:KD){A:TL}{E:Value->Gk->Prop}{s:Gk}{v:Value}{g:List Gc}{Q:Int->Gk->Prop},A.units+k.depth<DR->LB s.heap v k.toD g->Q (k.hash w) {s with toks:=s.toks+k.draws}->
  wpAny (GY prog w) A (pyHash v) Q E s
 |.int i,A,E,s,v,g,Q,_,r,h=>by simp only[KD.toD]at r;cases r;simp only[KD.hash,KD.draws]at h;exact Fh h
 |.str x,A,E,s,v,g,Q,_,r,h=>by simp only[KD.toD]at r;cases r;simp only[KD.hash,KD.draws]at h;exact Fi h
 |.tup xs,A,E,s,v,g,Q,B,r,h=>by
  simp only[KD.toD]at r;simp only[KD.depth]at B;simp only[KD.hash,KD.draws]at h;obtain⟨a,o,t,n,rfl,y,hc,hd,hi⟩:=Iu r;have m:s.TypeIs (.ref a) "tuple":=⟨o,y,hc⟩;have l:=λ(k:KD)(u:k∈xs)=>@Qch xs k u;unfold pyHash;first|unfold pyHashByItsType|skip
  first|refine Gb (wpAny_cRoomFor_or (.inr (by lia)) ?_)|skip
  refine Gb (DO m F.slot_tuple_hash.lookup ?_);show wpAny _ _ (if(Ga (Value.builtin "tuple.__hash__")==Ga Value.none)=Gf then _ else _) Q E s;rw[Gi (by rw[beq_builtin_none];exact Gx)];refine Gb (DO m F.slot_tuple_hash.lookup ?_);show wpAny _ _ (callSpecialIfBoundUnlessNone? (.ref a) "__hash__" _>>=_) Q E s;refine Gb (wpAny_callSpecialIfBoundUnlessNone?_slot m F.slot_tuple_hash (Tv F.slot_tuple_hash m F.entry_tuple_hash ?_ (F.args_tuple_hash_1 _)));show wpAny _ _ (Builtin.Tuple.tupleItemsOf (.ref a)>>=_) _ _ s;refine Gb (wpAny_tupleItemsOf y hd ?_);refine Gb ?_;rw[<-EE];refine Fu _
   (λX6(b:Array Int)s'=>∃done left f,xs=done++left/\EZ s.heap X6 (Uj left) f/\b.toList=V0 w done/\s'={s with toks:=s.toks+Xu done})
   _ ?_ ?_ _ _ ⟨[],xs,g,Xb,hi,Xb,Xb⟩
  ·rintro x X6 b s' ⟨done,left,f,rfl,hl,hb,rfl⟩;cases left with
   |nil=>simp only[Uj]at hl;cases hl
   |cons k e=>
    simp only[Uj]at hl;cases hl with
    |cons h1 q=>
     have u:=Qaf (xs:=done++k::e) (x:=k) (by simp);refine Gb (l k (by simp) (A:=A.in1) (s:={s with toks:=s.toks+Xu done}) (by show A.units+1+k.depth<DR;lia) h1 ?_);have z:s.toks+Xu done+k.draws=s.toks+Xu (done++[k]):=by rw[J9];simp only[Xu];lia
     have fin:∃c d j,done++k::e=c++d/\EZ s.heap X6 (Uj d) j/\(b.push (k.hash w)).toList=V0 w c/\({s with toks:=s.toks+Xu done+k.draws}:Gk)={s with toks:=s.toks+Xu c}:=
      ⟨done++[k],e,_,by simp,q,by simp[hb,Qdf],by rw[z]⟩
     first
      |exact Ge fin
      |exact Gb (Ge (Ge fin))
  ·rintro b s' ⟨done,left,f,rfl,hl,hb,rfl⟩;cases left with
   |cons k e=>simp only[Uj]at hl;cases hl
   |nil=>
    rw[List.append_nil]at h;show wpAny _ _ (retInt (Builtin.Tuple.tupleHashOf b.toList)) _ _ _;rw[hb];refine FD ?_;show wpAny _ _ (if(decide (-(2:Int)^63<=Builtin.Tuple.tupleHashOf (V0 w done))&&decide (Builtin.Tuple.tupleHashOf (V0 w done)<2^63))=Gf then _ else _) Q E _;unfold reduceHash at h;by_cases p:(decide (-(2:Int)^63<=Builtin.Tuple.tupleHashOf (V0 w done))&&decide (Builtin.Tuple.tupleHashOf (V0 w done)<2^63))=Gf
    ·rw[Gn p];rw[Gn p]at h;exact Ge (by simpa[MH]using h)
    ·rw[Gi p];rw[Gi p]at h;exact Gb (ET (Ge (by simpa[MH]using h)))
theorem Qch:∀(xs:List KD)(k:KD),k∈xs->∀{A:TL}{E:Value->Gk->Prop}{s:Gk}{v:Value}{b:List Gc}{Q:Int->Gk->Prop},A.units+k.depth<DR->LB s.heap v k.toD b->Q (k.hash w) {s with toks:=s.toks+k.draws}->
  wpAny (GY prog w) A (pyHash v) Q E s
 |[],_,h=>by simp at h
 |x::r,k,h=>by
  intro h1 h2 a;by_cases e:k=x
  ·rw[e]at h1 h2 a;exact Qf7 x h1 h2 a
  ·exact Qch r k ((List.mem_cons.mp h).resolve_left e) h1 h2 a
end
mutual
theorem Qjv:∀(k:KD)(n:Nat){A:TL}{E:Value->Gk->Prop}{s:Gk}{v:Value}{d:List Gc}{Q:Bool->Gk->Prop},k.depth<=n->LB s.heap v k.toD d->Q Gf s->wpAny (GY prog w) A (eqIsQuiet n v) Q E s
 |.int i,n,A,E,s,v,d,Q,_,r,h=>by simp only[KD.toD]at r;cases r;rw[Fc n rfl];exact Ge h
 |.str x,n,A,E,s,v,d,Q,_,r,h=>by simp only[KD.toD]at r;cases r;rw[Fc n rfl];exact Ge h
 |.tup xs,0,A,E,s,v,d,Q,j,r,h=>by simp[KD.depth]at j
 |.tup xs,n+1,A,E,s,v,d,Q,j,r,h=>by
  simp only[KD.toD]at r;simp only[KD.depth]at j;obtain⟨a,o,c,m,rfl,u,hc,hd,hi⟩:=Iu r;have q:s.TypeIs (.ref a) "tuple":=⟨o,u,hc⟩;have f:=λ(k:KD)(t:k∈xs)(n:Nat)=>@Qfs xs k t n;unfold eqIsQuiet;refine Gb (DO q F.slot_tuple_eq.lookup ?_);show wpAny _ _ (isInstance (.ref a) (.type "tuple")>>=_) _ _ s;refine Gb (Ez q isSubtype_tuple_tuple ?_);simp only[MI,TM,Dq];refine Gb (Dc u hd ?_);refine Gb ?_;show wpAny _ _ (forIn c _ _) _ _ s;rw[<-EE];refine Fu _ (λX6 r s'=>r.1=Gh/\s'=s/\∃left e,(∀k∈left,k∈xs)/\EZ s.heap X6 (Uj left) e) _ ?_ ?_ _ _ ⟨Xb,Xb,xs,d,λ_ z=>z,hi⟩
  ·rintro v X6 r s' ⟨l,rfl,left,e,b,hl⟩;cases left with
   |nil=>simp only[Uj]at hl;cases hl
   |cons k p=>
    simp only[Uj]at hl;cases hl with
    |cons h1 g=>have t:=Qaf (b k (by simp));refine Gb (f k (b k (by simp)) n (by lia) h1 ?_);simp only[MI,TM,Dq];exact Ge ⟨Xb,Xb,p,_,λz hz=>b z (List.mem_cons_of_mem _ hz),g⟩
  ·rintro⟨y,B⟩ s' ⟨l,rfl,_⟩;simp only at l;subst l;exact Ge h
theorem Qfs:∀(xs:List KD)(k:KD),k∈xs->∀(n:Nat){A:TL}{E:Value->Gk->Prop}{s:Gk}{v:Value}{b:List Gc}{Q:Bool->Gk->Prop},k.depth<=n->LB s.heap v k.toD b->Q Gf s->wpAny (GY prog w) A (eqIsQuiet n v) Q E s
 |[],_,h=>by simp at h
 |x::r,k,h=>by
  intro n _ _ _ _ _ _ h1 h2 a;by_cases e:k=x
  ·rw[e]at h1 h2;exact Qjv x n h1 h2 a
  ·exact Qfs r k ((List.mem_cons.mp h).resolve_left e) n h1 h2 a
end
def Vq(prog:Gg)(w:Gs):NC prog w KD where
 is:=λh k a=>(∃c,LB h (.ref a) k.toD c)/\k.toD.canLay0=Gf/\k.depth<=8
 hash:=KD.hash w
 draws:=KD.draws
 room:=λA=>A.units+10<DR
 inj:=λ⟨⟨_,h1⟩,_⟩⟨⟨_,h2⟩,_⟩=>Qfv _ _ h1 h2
 keeps:=λ⟨⟨c,h1⟩,h2,d⟩e hd f=>⟨⟨c,Qfb e hd f h1 h2⟩,h2,d⟩
 pyHash:=λ{A E s k a Q}g⟨⟨c,h1⟩,_,d⟩h=>Qf7 k (by omega) h1 h
 eqBool:=λ{A E s x y a b Q}g⟨⟨c,h1⟩,h2,d⟩⟨⟨bs,i⟩,j,l⟩h=>Ng x.toD y.toD A s _ _ _ _ h1 i h2 j (by rw[Oe,Oe];omega) prog w E Q (by rw[Qmn];exact h)
 quiet:=λ{A E s k a Q}⟨⟨c,h1⟩,_,d⟩h=>Qjv k 8 d h1 h
end
end L2
namespace PySem
def Heap.Js(h:Heap)(d:Gc)(es:Array Ep)(ep:Nat):Prop:=∃o,h.get? d=Ga o/\o.ExactDict/\o.data=.dict es ep
section
variable{prog:Gg}{w:Gs}{A:TL}{E:Value->Gk->Prop}{s:Gk}{d:Gc}{es:Array Ep}{ep:Nat}
theorem Heap.Js.typeIs(x:s.heap.Js d es ep):s.TypeIs (.ref d) "dict":=let⟨o,ho,hc,_⟩:=x;⟨o,ho,hc.1⟩
theorem Heap.Js.at{h h':Heap}(x:h.Js d es ep)(e:∀o,h.get? d=Ga o->h'.get? d=Ga o):h'.Js d es ep:=let⟨o,ho,r⟩:=x;⟨o,e _ ho,r⟩
theorem Heap.Js.lt{h:Heap}(x:h.Js d es ep):d<h.objs.size:=let⟨_,ho,_⟩:=x;Heap.lt_size ho
theorem Qrr{Q:Value->Gk->Prop}(hd:(d==T9)=Gq)(b:s.heap.Js d es ep)(c:(es.size:Int)<2^63)
  (h:Q (.int es.size (s.toks+1)) {s with toks:=s.toks+1+1}):wpAny (GY prog w) A (call (.builtin "len") [.ref d]) Q E s:=by
 obtain⟨o,e,hc,a⟩:=id b;refine So kind_len plain_len entry_len (args_len1 _) ?_;unfold Builtin.«len»;refine Gb (m:=oneArg "len" _) (Ge ?_);refine Gb (m:=callSpecial? (.ref d) (Dy "__len__")) (TR (name:=Dy "__len__") b.typeIs F.slot_dict_len
  (Tv F.slot_dict_len b.typeIs F.entry_dict_len ?_ (F.args_dict_len_1 _)))
 show wpAny _ _ (dictSize d>>=_) _ _ s;unfold dictSize;refine Gb (Gb (Dz e a (Ge ?_)));show wpAny _ _ (Builtin.Dict.pendingCount d>>=_) _ _ s;refine Gb (wpAny_pendingCount_other hd ?_);refine FD ?_;rw[Fd];show wpAny _ _ _ _ _ {s with toks:=s.toks+1};refine Gb (T4 (Ge ?_));refine Gb (Sx ?_);show wpAny _ _ (if((es.size:Nat):Int)<0 then _ else _) _ _ _;rw[Gi (by lia)];show wpAny _ _ (if((es.size:Nat):Int)>=2^63 then _ else _) _ _ _;rw[Gi (by lia)];exact Gb (wpAny_mkInt (Ge ⟨_,Xb,h⟩))
theorem Qqi{Q:Value->Gk->Prop}(hd:(d==T9)=Gq)(c:s.heap.Js d es ep)
  (f:Q (.ref s.heap.objs.size) {s with heap:=s.heap.push {cls:=.type "dict_keyiterator",data:=.fields #[.ref d,.int 0 0,.int es.size 0,.int ep 0]}}):
  wpAny (GY prog w) A (pyIter (.ref d)) Q E s:=by
 obtain⟨o,e,hc,a⟩:=id c;have b:=c.typeIs;refine Sy b F.slot_dict_iter (Tv F.slot_dict_iter b F.entry_dict_iter ?_ (F.args_dict_iter_1 _));unfold Builtin.«dict.__iter__»;refine Gb ?_;unfold Builtin.Dict.dictSlotNone;refine Gb (EO b ?_);show wpAny _ _ (pure (Value.ref d)) _ _ s;refine Ge ?_;show wpAny _ _ (Builtin.Dict.showsAll d>>=_) _ _ s;unfold Builtin.Dict.showsAll;rw[Gi (by rw[hd];exact Gx)];refine Gb (Ge ?_);refine Gb (Dz e a ?_);refine Gb (Ek e a ?_);refine Gb (Tw (Ge ⟨_,Xb,"dict_keyiterator",_,⟨_,Heap.get?_push_size _ Xb,Xb⟩,F.slot_dict_keyiterator_next.lookup,?_⟩));simpa[rawInt]using f
theorem Qpb{it:Gc}{i:Nat}{e:Ep}{Q:Option Value->Gk->Prop}(a:s.heap.IsKeyIter it d i es.size ep)(q:s.heap.Js d es ep)(k:es[i]?=Ga e)
  (m:∀h',h'.IsKeyIter it d (i+1) es.size ep->Heap.SameBut it s.heap h'->Q (Ga e.key) {s with heap:=h'}):
  wpAny (GY prog w) A (pyNext (.ref it)) Q E s:=by
 obtain⟨o,l,hc,hd⟩:=id a;obtain⟨od,g,n,f⟩:=id q;unfold pyNext;refine Gb (EW (TR (name:=Dy "__next__") a.typeIs F.slot_dict_keyiterator_next
  (Tv F.slot_dict_keyiterator_next a.typeIs F.entry_dict_keyiterator_next ?_ (F.args_dict_keyiterator_next_1 _))))
 refine Gb (Ge ?_);refine Gb ?_;refine Gb ?_;first|refine Gb (DJ a.typeIs (Ge ?_))|refine Gb (D9 a.typeIs (Ge ?_))
 refine Gb (Sk l hd ?_);have j:Builtin.Dict_items.ownsTuple "dict_keyiterator"=Gq:=by decide
 simp only[j,TM,Dq];show wpAny _ _ (if(Value.ref d==Value.none)=Gf then _ else _) _ _ s;rw[Gi (show¬((Value.ref d==Value.none)=Gf)from Gx)];refine Gb (Ge ?_);refine Gb (Dz g f ?_);rw[Gi (by simp)];refine Gb (Ge ?_);refine Gb (Ek g f ?_);rw[Gi (by simp)];refine Ge ?_;have c:i<es.size:=by
  rcases Tk i es.size with h|h
  ·exact h
  ·rw[Dh h]at k;cases k
 have p:es[i]=e:=by rw[Tg c]at k;exact Tj k
 simp only[show¬((i:Int)<0)from by omega,Dq,Dl,Tg c];refine Gb ?_;first|refine Gb (DJ a.typeIs (Ge ?_))|refine Gb (D9 a.typeIs (Ge ?_))
 refine Gb (Lb a.typeIs ?_);show wpAny _ _ (setField (.ref it) 1 (rawInt ((i:Int)+1))>>=_) _ _ s;refine Gb (Ev l hd (by simp) ?_);have b:(s.heap.update it (EX (·.setIfInBounds 1 (rawInt ((i:Int)+1))))).IsKeyIter it d (i+1) es.size ep:=
  ⟨_,Heap.get?_update_self _ l (ER (DU hd _)),(Sz ..).trans hc,by rw[DU hd];simp[rawInt]⟩
 refine Gb (T4 ?_);refine Gb (Lb (s:={s with heap:=s.heap.update it (EX (·.setIfInBounds 1 (rawInt ((i:Int)+1))))}) b.typeIs ?_);show wpAny _ _ (pure es[i].key) _ _ _;rw[p];exact Ge (Ge ⟨_,Xb,Ge (m _ b (Heap.SameBut.update ..))⟩)
theorem Qs5{it:Gc}{i:Nat}{Q:Option Value->Gk->Prop}(n:A.handled=Gh)(c:s.heap.IsKeyIter it d i es.size ep)(p:s.heap.Js d es ep)(h:es.size<=i)
  (k:∀h',Heap.ExtBut it s.heap h'->Q Gh {s with heap:=h'}):wpAny (GY prog w) A (pyNext (.ref it)) Q E s:=by
 obtain⟨o,j,hc,hd⟩:=id c;obtain⟨od,f,l,e⟩:=id p;unfold pyNext;refine Gb (EW (TR (name:=Dy "__next__") c.typeIs F.slot_dict_keyiterator_next
  (Tv F.slot_dict_keyiterator_next c.typeIs F.entry_dict_keyiterator_next ?_ (F.args_dict_keyiterator_next_1 _))))
 refine Gb (Ge ?_);refine Gb ?_;refine Gb ?_;first|refine Gb (DJ c.typeIs (Ge ?_))|refine Gb (D9 c.typeIs (Ge ?_))
 refine Gb (Sk j hd ?_);have g:Builtin.Dict_items.ownsTuple "dict_keyiterator"=Gq:=by decide
 simp only[g,TM,Dq];show wpAny _ _ (if(Value.ref d==Value.none)=Gf then _ else _) _ _ s;rw[Gi (show¬((Value.ref d==Value.none)=Gf)from Gx)];refine Gb (Ge ?_);refine Gb (Dz f e ?_);rw[Gi (by simp)];refine Gb (Ge ?_);refine Gb (Ek f e ?_);rw[Gi (by simp)];refine Ge ?_;simp only[show¬((i:Int)<0)from by omega,Dq,Dl,Dh h];refine Gb ?_;first|refine Gb (DJ c.typeIs (Ge ?_))|refine Gb (D9 c.typeIs (Ge ?_))
 show wpAny _ _ (setField (.ref it) 0 .none>>=_) _ _ s;refine Gb (Ev j hd (by simp) ?_);show wpAny _ _ (newExc (.type "StopIteration") []>>=_) _ _ _;refine Gb ?_;simp only[newExc,newTuple];refine Gb (Tw ?_ (by size_fits));refine Gb (m:=firstArgMember _ _) (Fy (a:=Value.none) (by first|rfl|(simp only[firstArgMember];rfl)) ?_);refine Tw ?_ (by size_fits);simp only[raiseNew];refine Gb (LC ?_);rw[show A.in1.handled=Gh from n];refine Gb (Ge (Fz ?_));refine Gb (Ez (T:="StopIteration") (b:=Gf) ⟨_,Heap.get?_push_size _ Xb,Xb⟩ Ll ?_);exact Ge (k _ (((Heap.SameBut.update ..).extBut.push _).push _))
theorem Walks.Qxo(m:A.handled=Gh)(I d:Gc)(j:d≠I)(es:Array Ep)(ep:Nat):
  Walks prog w A I [I,d] [I] es.size (λi v=>∃e,es[i]?=Ga e/\v=e.key) (λi h=>h.IsKeyIter I d i es.size ep/\h.Js d es ep) where
 sub:=λb hb=>by simp at hb;simp[hb]
 frame:=λ_ _ _ st k=>⟨st.1.at λo e=>k I (by simp) o e,st.2.at λo e=>k d (by simp) o e⟩
 item:=λi s Q E hi st a=>by have l:es[i]?=Ga es[i]:=Tg hi;refine Qpb st.1 st.2 l λh' c f=>?_;exact a _ h' s.toks ⟨_,l,Xb⟩ ⟨c,st.2.at λo e=>(f.2 d j).trans e⟩ λb o hb e=>f.extBut b o (λh=>hb (by simp[h])) e
 done:=λs Q E st a=>Qs5 m st.1 st.2 (Gm _) λh' g=>a h' s.toks λb o hb e=>g b o (λh=>hb (by simp[h])) e
 self:=λ_ _ _ _ st a=>Lm st.1 a
theorem Qxe(lo:(d==T9)=Gq):FN prog w "dict" d d es.size (λi v=>∃e,es[i]?=Ga e/\v=e.key) (λh=>h.Js d es ep) where
 type:=λ_ a=>a.typeIs
 there:=λ_ a=>⟨a.lt,a.lt⟩
 keep:=λ_ _ a f=>a.at λo e=>f d (.inl Xb) o e
 notList:=by decide
 notTuple:=by decide
 hint:=λ_ _ _ _ a b=>Nj a.typeIs b
 iter:=λ_ _ c a=>⟨_,_,(λ_ _ b=>Qqi lo a b),Walks.Qxo c _ d (Td a.lt) es ep,⟨⟨_,Heap.get?_push_size _ Xb,Xb,Xb⟩,a.at λo e=>Heap.get?_push_of_some _ e⟩⟩
end
end PySem
namespace L2
open PySem PySem.Spec PyProof.Rows
variable{k:KD}
abbrev KE:=KD×Gc×V
variable{zw:List KE}
def Yf(zw:List KE)(k:KD):Option V:=(zw.find? λp=>decide (p.1=k)).map (·.2.2)
def Wy(zw:List KE)(k:KD)(b:Gc)(v:V):List KE:=if(Yf zw k).isSome=Gf then zw.map (λp=>if p.1=k then(p.1,p.2.1,v)else p)else zw++[(k,b,v)]
abbrev KX:List KE->List (KD×Gc×Value)->Prop:=Paired λp q=>p.1=q.1/\p.2.1=q.2.1/\RelV p.2.2 q.2.2
def DKD(P:Gg)(w:Gs)(a:Gc)(zw:List KE)(h:Heap):Prop:=
 zw.length<=Gj/\(a==T9)=Gq/\∃xs,KX zw xs/\∃o es ep,h.get? a=Ga o/\o.ExactDict/\o.data=.dict es ep/\es.toList=xs.map (entryOfKey (Vq P w))/\(xs.map (·.1)).Nodup
def Ut(P:Gg)(w:Gs)(a:Gc)(zw:List KE):HO:=.ext (DKD P w a zw)
def Up(H:Hp)(zw:List KE):Prop:=∀p∈zw,Dt H (.ref p.2.1) p.1.toD/\p.1.toD.canLay0=Gf/\p.1.depth<=8
def Qat(H:Hp)(b:Gc)(k:KD):Prop:=Dt H (.ref b) k.toD/\k.toD.canLay0=Gf/\k.depth<=8
theorem Qlk{P:Gg}{w:Gs}{H:Hp}{h:Heap}{a:Gc}(x:DKD P w a zw h):Z3 P w H h a (Ut P w a zw):=by
 refine⟨x,?_,?_⟩
 ·obtain⟨_,_,_,_,o,_,_,e,_⟩:=x;exact⟨o,e⟩
 ·rintro h1 h2 ⟨b,c,xs,r,o,es,ep,e,q⟩ k;exact⟨b,c,xs,r,o,es,ep,k o e,q⟩
theorem KX.val{xs:List (KD×Gc×Value)}(r:KX zw xs)(k:KD):Ia (Yf zw k) ((atKey xs k).map (·.2)):=by
 induction r with
 |nil=>exact TC
 |@cons p q ps d h t f=>
  obtain⟨h1,_,h2⟩:=h;by_cases e:p.1=k
  ·have a:q.1=k:=h1.symm.trans e;have b:atKey (q::d) k=Ga q.2:=by simp[atKey,List.find?_cons,a]
   have c:Yf (p::ps) k=Ga p.2.2:=by simp[Yf,List.find?_cons,e]
   rw[c,b];exact h2
  ·have a:¬q.1=k:=λz=>e (h1.trans z);have b:atKey (q::d) k=atKey d k:=by simp[atKey,List.find?_cons,a]
   have c:Yf (p::ps) k=Yf ps k:=by simp[Yf,List.find?_cons,e]
   rw[c,b];exact f
theorem KX.put{xs:List (KD×Gc×Value)}(r:KX zw xs)(k:KD)(b:Gc){v:V}{u:Value}(a:RelV v u):KX (Wy zw k b v) (storedH xs k b u):=by
 have e:(Yf zw k).isSome=(atKey xs k).isSome:=by rw[(r.val k).Wk,D0]
 unfold Wy storedH;rw[e];by_cases q:(atKey xs k).isSome=Gf
 ·rw[Gn q,Gn q];clear q e;induction r with
  |nil=>exact .nil
  |@cons p q ps f h t d=>
   rw[List.map_cons,List.map_cons];refine .cons ?_ d;obtain⟨h1,h2,c⟩:=h;unfold putAt;by_cases e:p.1=k
   ·rw[Gn e,Gn (h1.symm.trans e)];exact⟨h1,h2,a⟩
   ·rw[Gi e,Gi (λz=>e (h1.trans z))];exact⟨h1,h2,c⟩
 ·rw[Gi q,Gi q];exact DI r ⟨Xb,Xb,a⟩
theorem Qds(zw:List KE)(k:KD)(b:Gc)(v:V):(Wy zw k b v).length<=zw.length+1:=by
 unfold Wy;split
 ·rw[List.length_map];omega
 ·rw[List.length_append,List.length_singleton];omega
theorem Qjj(b:Gc)(v:V)(h:Yf zw k=Gh):Wy zw k b v=zw++[(k,b,v)]:=by unfold Wy;rw[h];exact Gi (by decide)
theorem Qja{u:V}(b:Gc)(v:V)(h:Yf zw k=Ga u):Wy zw k b v=zw.map (λp=>if p.1=k then(p.1,p.2.1,v)else p):=by unfold Wy;rw[h];exact Gn rfl
theorem Yn{p:KE}{r:List KE}(e:p.1=k):Yf (p::r) k=Ga p.2.2:=by simp[Yf,List.find?_cons,e]
theorem Yk{p:KE}{r:List KE}(e:¬p.1=k):Yf (p::r) k=Yf r k:=by simp[Yf,List.find?_cons,e]
theorem Qa5(k j:KD)(b:Gc)(y:V):∀zw:List KE,Yf zw k=Gh->Yf (zw++[(k,b,y)]) j=if j=k then Ga y else Yf zw j
 |[],_=>by
  by_cases e:k=j
  ·rw[Gn e.symm];exact Yn (p:=(k,b,y)) e
  ·rw[Gi (λz=>e z.symm)];exact Yk (p:=(k,b,y)) e
 |p::r,a=>by
  rw[List.cons_append];have c:¬p.1=k:=λz=>by rw[Yn z]at a;cases a
  rw[Yk c]at a;have d:=Qa5 k j b y r a;by_cases e:p.1=j
  ·rw[Yn e,Yn e,Gi (λz=>c (e.trans z))]
  ·rw[Yk e,Yk e,d]
theorem Qjq(k j:KD)(y:V):∀zw:List KE,Yf (zw.map λp=>if p.1=k then(p.1,p.2.1,y)else p) j=(Yf zw j).map λx=>if j=k then y else x
 |[]=>rfl
 |p::r=>by
  have a:=Qjq k j y r;rw[List.map_cons];by_cases h:p.1=k
  ·rw[Gn h];by_cases e:p.1=j
   ·rw[Yn (p:=(p.1,p.2.1,y)) e,Yn e,TZ,Gn (e.symm.trans h)]
   ·rw[Yk (p:=(p.1,p.2.1,y)) e,Yk e,a]
  ·rw[Gi h];by_cases e:p.1=j
   ·rw[Yn (p:=p) e,Yn e,TZ,Gi (λz=>h (e.trans z))]
   ·rw[Yk (p:=p) e,Yk e,a]
theorem Jy(zw:List KE)(k j:KD)(b:Gc)(y:V):Yf (Wy zw k b y) j=if j=k then Ga y else Yf zw j:=by
 cases q:Yf zw k with
 |none=>rw[Qjj b y q,Qa5 k j b y zw q]
 |some u=>
  rw[Qja b y q,Qjq];by_cases e:j=k
  ·rw[Gn e,e,q,TZ,Gn rfl]
  ·rw[Gi e];cases Yf zw j with
   |none=>rfl
   |some x=>rw[TZ,Gi e]
theorem Qqm(zw:List KE)(k:KD)(b:Gc)(v:V):∀p∈Wy zw k b v,(p.1=k/\p.2.1=b)\/∃u,(p.1,p.2.1,u)∈zw:=λp a=>by
 unfold Wy at a;split at a
 ·obtain⟨q,c,e⟩:=List.mem_map.mp a;right;split at e
  ·subst e;exact⟨q.2.2,c⟩
  ·subst e;exact⟨q.2.2,c⟩
 ·rcases List.mem_append.mp a with h|h
  ·exact .inr ⟨p.2.2,h⟩
  ·rw[List.mem_singleton]at h;subst h;exact .inl ⟨Xb,Xb⟩
theorem Up.put{H:Hp}{b:Gc}{v:V}(h:Up H zw)(d:Qat H b k):Up H (Wy zw k b v):=λp e=>by
 rcases Qqm zw k b v p e with⟨a,c⟩|⟨u,f⟩
 ·rw[a,c];exact d
 ·exact h (p.1,p.2.1,u) f
section
variable{X:Cx}{zq:List (Gc×Eg)}{σ:St}{H:Hp}{s:Gk}{a b:Gc}{zw:List KE}{k:KD}
theorem Qat.is(I:Inv X zq σ H s)(h:Qat H b k):(Vq X.prog X.w).is s.heap k b:=by obtain⟨h1,h2,c⟩:=h;obtain⟨a,r⟩:=h1.reads I.Zw (u:=.ref b) rfl;exact⟨⟨a,r⟩,h2,c⟩
theorem Qad(I:Inv X zq σ H s)(e:H a=Ga (Ut X.prog X.w a zw)):DKD X.prog X.w a zw s.heap:=(I.Zw a _ e).1
theorem Qjz(I:Inv X zq σ H s)(e:H a=Ga (Ut X.prog X.w a zw))(i:Up H zw):zw.length<=Gj/\(a==T9)=Gq/\∃xs,KX zw xs/\s.heap.DictOfH (Vq X.prog X.w) a xs:=by
 obtain⟨z,y,xs,r,o,es,ep,h1,h2,d,f,g⟩:=Qad I e;refine⟨z,y,xs,r,o,es,ep,h1,h2,d,f,λx b=>?_,g⟩;have all:∀{l:List KE}{m:List (KD×Gc×Value)},KX l m->(∀p∈l,p∈zw)->∀x∈m,(Vq X.prog X.w).is s.heap x.1 x.2.1:=by
  intro l m q;induction q with
  |nil=>intro _ x b;exact nomatch b
  |@cons p q ps n c t k=>
   intro sub x b;rcases List.mem_cons.mp b with e|b
   ·subst e;rw[<-c.1,<-c.2.1];exact Qat.is I (i p (sub p (by simp)))
   ·exact k (λp j=>sub p (List.mem_cons_of_mem _ j)) x b
 exact all r (λ_ h=>h) x b
end
def Qmv(P:Gg)(w:Gs):TE:=λ_ H Q=>∀p,H p=Gh->Q (.ref p) (zj H p (Ut P w p []))
structure DH(P:Gg)(w:Gs)(H:Hp)(d:Gc)(zw:List KE):Prop where
 at_:H d=Ga (Ut P w d zw)
 keys:Up H zw
section
variable{X:Cx}
theorem Oc{pos:SX}:PE X (.Dict [] [] pos) (Qmv X.prog X.w):=λzq s σ H Q I h=>
 SJ ⟨.ref s.heap.objs.size,_,I.laid (a:=s.heap.objs.size) (o:=Ut X.prog X.w s.heap.objs.size []) (t':=s.toks) (λ_ _ q=>Heap.get?_push_of_some _ q) (Gm _)
  (Qlk ⟨Gw _,DA.mpr (Gp (Td I.big)),[],.nil,_,#[],0,Heap.get?_push_size _ Xb,⟨Xb,Xb,Xb⟩,Xb,Xb,List.nodup_nil⟩),Xb,h _ (I.Zw.fresh (Gm _))⟩
inductive Qti(P:Gg)(w:Gs)(f:Bool->Bool)(x:V)(y:V)(H:Hp)(Q:VK):Prop
 |mk (b:_) (d:_) (k:_) (zw:_) (h0:x=.ref b) (h1:y=.ref d) (h2:DH P w H d zw) (h3:Qat H b k) (h4:Q (.bl (f (Yf zw k).isSome)) H):Qti P w f x y H Q
def Qro(P:Gg)(w:Gs)(f:Bool->Bool):R2:=λx y H Q=>Qti P w f x y H Q
theorem Q38(i:X.A.units+64<DR):O6 X (Dm .In) (Qro X.prog X.w λb=>b):=by intro zq s σ H x y v u Q I f g h;obtain⟨b,d,k,zw,rfl,rfl,D,c,q⟩:=h;cases(show v=Value.ref b from f);cases(show u=Value.ref d from g);obtain⟨z,hd,xs,rel,a⟩:=Qjz I D.at_ D.keys;refine ME (knd:=Vq X.prog X.w) (show X.A.units+1+10<DR by omega) (c.is I) hd a ?_;have e:=(rel.val k).Wk;rw[D0]at e;rw[<-e];exact⟨.bl _,H,I.tok _,Xb,q⟩
theorem Qda(i:X.A.units+64<DR):O6 X (Dm .NotIn) (Qro X.prog X.w λb=>!b):=by intro zq s σ H x y v u Q I f g h;obtain⟨b,d,k,zw,rfl,rfl,D,c,q⟩:=h;cases(show v=Value.ref b from f);cases(show u=Value.ref d from g);obtain⟨z,hd,xs,rel,a⟩:=Qjz I D.at_ D.keys;refine Fs (knd:=Vq X.prog X.w) (show X.A.units+1+10<DR by omega) (c.is I) hd a ?_;have e:=(rel.val k).Wk;rw[D0]at e;rw[<-e];exact⟨.bl _,H,I.tok _,Xb,q⟩
inductive Qt8(P:Gg)(w:Gs)(x:V)(y:V)(H:Hp)(Q:VK):Prop
 |mk (d:_) (b:_) (k:_) (zw:_) (v:_) (h0:x=.ref d) (h1:y=.ref b) (h2:DH P w H d zw) (h3:Qat H b k) (h4:Yf zw k=Ga v) (h5:Q v H):Qt8 P w x y H Q
def Qio(P:Gg)(w:Gs):R2:=λx y H Q=>Qt8 P w x y H Q
theorem Ux(m:X.A.units+64<DR):IxR X (Qio X.prog X.w):=by
 intro value a zq s σ H x y v u Q I j l h g;obtain⟨d,b,k,zw,r,rfl,rfl,D,f,i,q⟩:=h;cases(show v=Value.ref d from j);cases(show u=Value.ref b from l);obtain⟨z,hd,xs,rel,c⟩:=Qjz I D.at_ D.keys;have rv:=rel.val k;rw[i]at rv;cases e:atKey xs k with
 |none=>rw[e]at rv;exact(show False from rv).elim
 |some p=>rw[e]at rv;refine EK (x:=p.2) c.typeIs Sn.lookup ?_ g;exact LN (knd:=Vq X.prog X.w) (show X.A.units+1+10<DR by omega) (f.is I) c e ⟨Xb,r,H,I.tok _,rv,q⟩
inductive Qna(P:Gg)(w:Gs)(o:V)(i:V)(v:V)(H:Hp)(Q:Hp->Prop):Prop
 |mk (d:_) (b:_) (k:_) (zw:_) (h0:o=.ref d) (h1:i=.ref b) (h2:DH P w H d zw) (h3:Qat H b k) (h4:zw.length<Gj) (h5:Q (zj H d (Ut P w d (Wy zw k b v)))):Qna P w o i v H Q
def Qlf(P:Gg)(w:Gs):Qxg:=λo i v H Q=>Qna P w o i v H Q
theorem Qd3(t:X.A.units+64<DR):Q2p X (Qlf X.prog X.w):=by
 intro zq s σ H o i v ov n u Q I r p rv h;obtain⟨d,b,k,zw,rfl,rfl,D,l,hz,q⟩:=h;cases(show ov=Value.ref d from r);cases(show n=Value.ref b from p);obtain⟨z,hd,xs,rel,e⟩:=Qjz I D.at_ D.keys;have hl:(Wy zw k b v).length<=Gj:=by have:=Qds zw k b v;omega
 refine LO (knd:=Vq X.prog X.w) (hsz:=by rw[<-Gr rel];exact z) (show X.A.units+1+10<DR by omega) (l.is I) e λh' a m=>?_;obtain⟨ob,es,ep,c,h2,f,g,_,j⟩:=a;refine⟨_,Ir (ob:=Ut X.prog X.w d (Wy zw k b v)) I (by rw[D.at_];exact TC) m ⟨ob,c⟩ (Qlk ⟨hl,hd,_,rel.put k b rv,ob,es,ep,c,h2,f,g,j⟩),q⟩
theorem Qla:V9 X (.builtin "len") (λxs H Q=>∃d zw,xs=[.ref d]/\DH X.prog X.w H d zw/\Q (.int zw.length) H):=by
 intro zq s σ H xs us Q I r h;obtain⟨d,zw,rfl,D,q⟩:=h;obtain⟨u,rfl,c⟩:=vals1 r;cases(show u=Value.ref d from c);obtain⟨z,hd,ys,rel,o,es,ep,h1,h2,a,b,_⟩:=Qad I D.at_;have g:=Rl;have e:es.size=zw.length:=by rw[Gr rel,<-List.length_map (f:=entryOfKey (Vq X.prog X.w)),<-b,TB]
 refine Qrr hd ⟨o,h1,h2,a⟩ (by lia) ?_;rw[e];exact⟨.int zw.length,H,I.tok _,⟨_,Xb⟩,q⟩
theorem Qju(hc:X.calm=Gf):V9 X (.type "list") (λxs H Q=>∃d zw,xs=[.ref d]/\DH X.prog X.w H d zw/\∀l,H l=Gh->Q (.ref l) (zj H l (.lst (zw.map λp=>.ref p.2.1)))):=by
 intro zq s σ H xs us Q I r h;obtain⟨d,zw,rfl,D,q⟩:=h;obtain⟨u,rfl,C⟩:=vals1 r;cases(show u=Value.ref d from C);obtain⟨z,hd,ys,rel,o,es,ep,h1,h2,x,k,nodup⟩:=Qad I D.at_;have e:es.size=zw.length:=by rw[Gr rel,<-List.length_map (f:=entryOfKey (Vq X.prog X.w)),<-k,TB]
 refine Fv (Qxe (es:=es) (ep:=ep) hd) (I.ok.hd hc) ⟨o,h1,h2,x⟩ (by rw[e];exact z) λh' tk a v kp hS b=>?_;have g:(zw.map λp=>V.ref p.2.1).length<=Gj:=by rw[List.length_map];exact z
 have m:Zv (zw.map λp=>V.ref p.2.1) a.toList:=by
  have j:es.toList.map (·.key)=ys.map λq=>Value.ref q.2.1:=by rw[k,List.map_map];rfl
  have c:a.toList=es.toList.map (·.key):=by
   refine List.ext_getElem? λi=>?_;by_cases hi:i<a.size
   ·obtain⟨en,y,m⟩:=b.2 i a[i] (Tg hi);rw[T8,Tg hi,List.getElem?_map,T8,y,m];rfl
   ·have hsz:=b.1;rw[List.getElem?_eq_none (by simp;lia),List.getElem?_eq_none (by simp;lia)]
  rw[c,j];clear q z k j c g e b D nodup;induction rel with
  |nil=>exact .nil
  |@cons p q ps E A t B=>rw[List.map_cons,List.map_cons];refine .cons ?_ B;show Value.ref q.2.1=Value.ref p.2.1;rw[A.2.1]
 have n:Inv X zq σ (zj H s.heap.objs.size (.lst (zw.map λp=>.ref p.2.1))) {s with heap:=h',toks:=tk}:=
  I.laid (t':=tk) kp (Gm _) (show Z3 X.prog X.w _ h' _ (.lst _)from⟨g,a.toList,v,m,by rw[D2];exact hS⟩)
 exact⟨.ref s.heap.objs.size,_,n,Xb,q _ (I.Zw.fresh (Gm _))⟩
end
end L2
namespace Sb
open PySem
variable{S:List Th}{L:Th->Int}{x y t:Th}{b d:Gc}{H H':Hp}{P:Gg}{w:Gs}
abbrev Tl:=List (Bool×Th×Th)
variable{tl:Tl}
mutual
inductive Cg(tl:Tl):Th->Th->Prop
 |refl (t:Th):Cg tl t t
 |symm {s t:Th}:Cg tl s t->Cg tl t s
 |trans {r s t:Th}:Cg tl r s->Cg tl s t->Cg tl r t
 |told {s t:Th}:(Gf,s,t)∈tl->Cg tl s t
 |cong {w:Ta} {ps qs:List Th}:CgL tl ps qs->Cg tl (.mk w ps) (.mk w qs)
inductive CgL(tl:Tl):List Th->List Th->Prop
 |nil:CgL tl [] []
 |cons {p q:Th} {ps qs:List Th}:Cg tl p q->CgL tl ps qs->CgL tl (p::ps) (q::qs)
end
theorem CgL.of{tl:Tl}:∀{ps c:List Th},ps.length=c.length->(∀(i:Nat)p q,ps[i]?=Ga p->c[i]?=Ga q->Cg tl p q)->CgL tl ps c
 |[],[],_,_=>.nil
 |[],_::_,h,_=>by simp at h
 |_::_,[],h,_=>by simp at h
 |p::ps,q::c,h,f=>.cons (f 0 p q rfl rfl) (CgL.of (by simpa using h) λi a b d hb=>f (i+1) a b (by simpa using d) (by simpa using hb))
mutual
theorem Cg.mono{tl e:Tl}(h:∀a b,(Gf,a,b)∈tl->(Gf,a,b)∈e):∀{s t:Th},Cg tl s t->Cg e s t
 |_,_,.refl t=>.refl t
 |_,_,.symm c=>.symm (Cg.mono h c)
 |_,_,.trans c d=>.trans (Cg.mono h c) (Cg.mono h d)
 |_,_,.told m=>.told (h _ _ m)
 |_,_,.cong c=>.cong (CgL.mono h c)
theorem CgL.mono{tl e:Tl}(h:∀a b,(Gf,a,b)∈tl->(Gf,a,b)∈e):∀{s t:List Th},CgL tl s t->CgL e s t
 |_,_,.nil=>.nil
 |_,_,.cons c d=>.cons (Cg.mono h c) (CgL.mono h d)
end
inductive Dv where
 |cls (i:Int)
 |node (w:Ta) (ds:List Dv)
open Classical in
noncomputable def act(S:List Th)(L:Th->Int)(w:Ta)(ds:List Dv):Dv:=
 if h:∃a,Th.mk w a∈S/\a.map (λq=>Dv.cls (L q))=ds then .cls (L (.mk w (EU h)))else .node w ds
mutual
noncomputable def ev(S:List Th)(L:Th->Int):Th->Dv
 |.mk w ps=>act S L w (evL S L ps)
noncomputable def evL(S:List Th)(L:Th->Int):List Th->List Dv
 |[]=>[]
 |p::r=>ev S L p::evL S L r
end
structure Rc(tl:Tl)(S:List Th)(L:Th->Int):Prop where
 closed:∀w ps,Th.mk w ps∈S->∀p∈ps,p∈S
 told:∀a b,(Gf,a,b)∈tl->a∈S/\b∈S/\L a=L b
 cong:∀w ps qs,Th.mk w ps∈S->Th.mk w qs∈S->ps.map L=qs.map L->L (.mk w ps)=L (.mk w qs)
theorem Qoq{L:Th->Int}:∀{ps a:List Th},ps.map (λq=>Dv.cls (L q))=a.map (λq=>Dv.cls (L q))->ps.map L=a.map L
 |[],[],_=>rfl
 |[],_::_,h=>by simp at h
 |_::_,[],h=>by simp at h
 |p::ps,q::a,h=>by simp only[List.map_cons,List.cons.injEq,Dv.cls.injEq]at h⊢;exact⟨h.1,Qoq h.2⟩
mutual
theorem Qsm{tl:Tl}{S:List Th}{L:Th->Int}(T:Rc tl S L):∀t:Th,t∈S->ev S L t=.cls (L t)
 |.mk w ps,h=>by
  have e:evL S L ps=ps.map (λq=>Dv.cls (L q)):=Qyt T ps (T.closed w ps h);have ex:∃a,Th.mk w a∈S/\a.map (λq=>Dv.cls (L q))=ps.map (λq=>Dv.cls (L q)):=⟨ps,h,Xb⟩;have b:ev S L (.mk w ps)=act S L w (evL S L ps):=by simp only[ev]
  rw[b,e];unfold act;rw[dif_pos ex];have c:=Lc ex;rw[T.cong w _ ps c.1 h (Qoq c.2)]
theorem Qyt{tl:Tl}{S:List Th}{L:Th->Int}(T:Rc tl S L):∀ps:List Th,(∀p∈ps,p∈S)->evL S L ps=ps.map (λq=>Dv.cls (L q))
 |[],_=>by simp[evL]
 |p::r,h=>by simp only[evL,List.map_cons];rw[Qsm T p (h p List.mem_cons_self),Qyt T r λq a=>h q (List.mem_cons_of_mem _ a)]
end
mutual
theorem Qjr{tl:Tl}{S:List Th}{L:Th->Int}(T:Rc tl S L):∀{s t:Th},Cg tl s t->ev S L s=ev S L t
 |_,_,.refl _=>rfl
 |_,_,.symm c=>(Qjr T c).symm
 |_,_,.trans c d=>(Qjr T c).trans (Qjr T d)
 |_,_,.told m=>by obtain⟨h1,h2,a⟩:=T.told _ _ m;rw[Qsm T _ h1,Qsm T _ h2,a]
 |_,_,.cong c=>by simp only[ev,Qt5 T c]
theorem Qt5{tl:Tl}{S:List Th}{L:Th->Int}(T:Rc tl S L):∀{s t:List Th},CgL tl s t->evL S L s=evL S L t
 |_,_,.nil=>rfl
 |_,_,.cons c d=>by simp only[evL,Qjr T c,Qt5 T d]
end
theorem Rc.complete(T:Rc tl S L)(a:x∈S)(b:y∈S)(c:Cg tl x y):L x=L y:=by have e:=Qjr T c;rw[Qsm T x a,Qsm T y b]at e;injection e
structure Tells(tl:Tl)(S:List Th)(L:Th->Int):Prop where
 tab:Rc tl S L
 sound:∀x∈S,∀y∈S,L x=L y->Cg tl x y
theorem Tells.iff(T:Tells tl S L)(a:x∈S)(b:y∈S):L x=L y↔Cg tl x y:=⟨T.sound x a y b,T.tab.complete a b⟩
def mrg(L:Th->Int)(o n:Int):Th->Int:=λt=>if L t=o then n else L t
theorem Qu5{o n:Int}(h:L x=L y):mrg L o n x=mrg L o n y:=by unfold mrg;rw[h]
theorem Qo2{a b:Th}(g:a∈S)(hb:b∈S)(s:∀x∈S,∀y∈S,L x=L y->Cg tl x y)(c:Cg tl a b):∀x∈S,∀y∈S,mrg L (L a) (L b) x=mrg L (L a) (L b) y->Cg tl x y:=by
 intro x d y f e;unfold mrg at e;by_cases h1:L x=L a
 ·by_cases h2:L y=L a
  ·exact s x d y f (h1.trans h2.symm)
  ·rw[Gn h1,Gi h2]at e;exact .trans (s x d a g h1) (.trans c (s b hb y f e))
 ·by_cases h2:L y=L a
  ·rw[Gi h1,Gn h2]at e;exact .trans (s x d b hb e) (.trans (.symm c) (.symm (s y f a g h2)))
  ·rw[Gi h1,Gi h2]at e;exact s x d y f e
open PySem PySem.Spec PyProof.Rows L2
mutual
def kd:Th->KD
 |.mk w ps=>.tup (.str w::kds ps)
def kds:List Th->List KD
 |[]=>[]
 |p::r=>kd p::kds r
end
mutual
theorem Rx:∀t:Th,(kd t).toD=t.toD
 |.mk w ps=>by simp only[kd,KD.toD,Uj,Th.toD,Qnr ps]
theorem Qnr:∀ts:List Th,Uj (kds ts)=Wg ts
 |[]=>by simp[kds,Uj,Wg]
 |t::r=>by simp only[kds,Uj,Wg,Rx t,Qnr r]
end
theorem Qkh(t:Th):(kd t).depth=t.depth:=by rw[<-Oe,Rx,Wl]
theorem Qb2{s:Th}(h:kd s=kd t):s=t:=by
 have e:s.toD=t.toD:=by rw[<-Rx,<-Rx,h]
 exact(Jk s t).mp (by rw[e];exact(Jk t t).mpr Xb)
mutual
theorem Qj8{H:Hp}:∀(t:Th){v:V},Dt H v t.toD->Yl H v t
 |.mk w ps,v,h=>by
  simp only[Th.toD]at h;cases h with
  |tup e r=>
   cases r with
   |cons h1 h2=>cases h1;exact .mk e (Qcw ps h2)
theorem Qcw{H:Hp}:∀(ts:List Th){vs:List V},Rh H vs (Wg ts)->Zq H vs ts
 |[],vs,h=>by simp only[Wg]at h;cases h;exact .nil
 |t::r,vs,h=>by
  simp only[Wg]at h;cases h with
  |cons h1 h2=>exact .cons (Qj8 t h1) (Qcw r h2)
end
theorem Qhe(h:Yl H (.ref b) t)(ok:t.ok=Gf)(dp:t.depth<=8):Qat H b (kd t):=⟨by rw[Rx];exact h.dt,by rw[Rx];exact J0 t ok,by rw[Qkh];exact dp⟩
mutual
theorem Qni{H H':Hp}(e:Qu H H'):∀(k:KD){v:V},Dt H v k.toD->Dt H' v k.toD
 |.int i,v,h=>by simp only[KD.toD]at h⊢;cases h;exact .int i
 |.str x,v,h=>by simp only[KD.toD]at h⊢;cases h;exact .str x
 |.tup xs,v,h=>by
  simp only[KD.toD]at h⊢;cases h with
  |tup h1 h2=>exact .tup (e _ _ h1) (Qit e xs h2)
theorem Qit{H H':Hp}(e:Qu H H'):∀(a:List KD){vs:List V},Rh H vs (Uj a)->Rh H' vs (Uj a)
 |[],vs,h=>by simp only[Uj]at h⊢;cases h;exact .nil
 |k::r,vs,h=>by
  simp only[Uj]at h⊢;cases h with
  |cons h1 h2=>exact .cons (Qni e k h1) (Qit e r h2)
end
theorem Zg(e:Qu H H'){zw:List KE}(h:Up H zw):Up H' zw:=λp a=>⟨Qni e p.1 (h p a).1,(h p a).2⟩
structure Num(P:Gg)(w:Gs)(H:Hp)(d:Gc)(S:List Th)(L:Th->Int):Prop where
 ex:∃zw:List KE,H d=Ga (Ut P w d zw)/\Up H zw/\zw.map (·.1)=S.map kd/\∀t∈S,Yf zw (kd t)=Ga (.int (L t))
 ok:∀t∈S,t.ok=Gf/\t.depth<=8
theorem Num.at(N:Num P w H d S L):∃o,H d=Ga (.ext o):=by obtain⟨zw,h,_⟩:=N.ex;exact⟨_,h⟩
theorem Num.keep(N:Num P w H d S L)(hd:∀o,H d=Ga o->H' d=Ga o)(e:Qu H H'):Num P w H' d S L:=by obtain⟨zw,h1,h2,a,b⟩:=N.ex;exact⟨⟨zw,hd _ h1,Zg e h2,a,b⟩,N.ok⟩
theorem Num.same(N:Num P w H d S L)(e:Q4 H H'):Num P w H' d S L:=N.keep (λo h=>e d o h) (Qu.of e)
theorem Num.get{Q:VK}(N:Num P w H d S L)(a:t∈S)(h:Yl H (.ref b) t)(q:Q (.int (L t)) H):Qio P w (.ref d) (.ref b) H Q:=by obtain⟨zw,h1,h2,e,c⟩:=N.ex;exact⟨d,b,kd t,zw,_,Xb,Xb,⟨h1,h2⟩,Qhe h (N.ok t a).1 (N.ok t a).2,c t a,q⟩
theorem Num.put{P:Gg}{w:Gs}{H:Hp}{d b:Gc}{S:List Th}{L:Th->Int}{t:Th}{i:Int}{Q:Hp->Prop}(N:Num P w H d S L)(hl:S.length<=1000000)(a:t∈S)(h:Yl H (.ref b) t)
  (q:∀H',(∀c o,H c=Ga o->c≠d->H' c=Ga o)->Num P w H' d S (λu=>if u=t then i else L u)->Q H'):Qlf P w (.ref d) (.ref b) (.int i) H Q:=by
 obtain⟨zw,h1,h2,f,g⟩:=N.ex;have lk:zw.length=S.length:=by have:=congrArg List.length f;simpa using this
 have j:=Qhe h (N.ok t a).1 (N.ok t a).2;refine⟨d,b,kd t,zw,Xb,Xb,⟨h1,h2⟩,j,by rw[GQ];omega,q _ (λc o e hc=>by rw[Qf hc];exact e) ?_⟩;have l:Qu H (zj H d (Ut P w d (Wy zw (kd t) b (.int i)))):=Zs λxs e=>by rw[h1]at e;cases e
 refine⟨⟨_,Qb,Zg l (h2.put j),?_,λu k=>?_⟩,N.ok⟩
 ·rw[Qja b _ (g t a),List.map_map];rw[<-f];refine List.map_congr_left λp _=>?_;show(if p.1=kd t then(p.1,p.2.1,V.int i)else p).1=p.1;split<;>rfl
 ·rw[Jy];by_cases e:u=t
  ·subst e;rw[Gn Xb,Gn rfl]
  ·rw[Gi (λz=>e (Qb2 z)),Gi e];exact g u k
theorem Num.add{i:Int}{Q:Hp->Prop}(N:Num P w H d S L)(hl:S.length<=1000000)(x:¬t∈S)(ok:t.ok=Gf)(dp:t.depth<=8)(h:Yl H (.ref b) t)
  (q:∀H',(∀c o,H c=Ga o->c≠d->H' c=Ga o)->Num P w H' d (S++[t]) (λu=>if u=t then i else L u)->Q H'):Qlf P w (.ref d) (.ref b) (.int i) H Q:=by
 obtain⟨zw,h1,h2,g,n⟩:=N.ex;have lk:zw.length=S.length:=by have:=congrArg List.length g;simpa using this
 have l:=Qhe h ok dp;have f:Yf zw (kd t)=Gh:=by
  cases e:Yf zw (kd t)with
  |none=>rfl
  |some v=>exfalso;unfold Yf at e;obtain⟨p,k,_⟩:=EL.mp e;have r:=List.find?_some k;have s:p.1=kd t:=TJ r;have j:kd t∈zw.map (·.1):=List.mem_map.mpr ⟨p,List.mem_of_find?_eq_some k,s⟩;rw[g]at j;obtain⟨u,a,m⟩:=List.mem_map.mp j;exact x (Qb2 m▸a)
 refine⟨d,b,kd t,zw,Xb,Xb,⟨h1,h2⟩,l,by rw[GQ];omega,q _ (λc o e hc=>by rw[Qf hc];exact e) ?_⟩;have y:Qu H (zj H d (Ut P w d (Wy zw (kd t) b (.int i)))):=Zs λxs e=>by rw[h1]at e;cases e
 refine⟨⟨_,Qb,Zg y (h2.put l),?_,λu a=>?_⟩,λu a=>?_⟩
 ·rw[Qjj b _ f,List.map_append,g,List.map_append];rfl
 ·rw[Jy];by_cases e:u=t
  ·subst e;rw[Gn Xb,Gn rfl]
  ·rw[Gi (λz=>e (Qb2 z)),Gi e];rcases List.mem_append.mp a with a|a
   ·exact n u a
   ·rw[List.mem_singleton]at a;exact absurd a e
 ·rcases List.mem_append.mp a with a|a
  ·exact N.ok u a
  ·rw[List.mem_singleton]at a;subst a;exact⟨ok,dp⟩
theorem Num.Q2u{Q:VK}(N:Num P w H d S L)(ok:t.ok=Gf)(dp:t.depth<=8)(h:Yl H (.ref b) t)(q:Q (.bl (!decide (t∈S))) H):Qro P w (λb=>!b) (.ref b) (.ref d) H Q:=by
 obtain⟨zw,h1,h2,i,j⟩:=N.ex;refine⟨b,d,kd t,zw,Xb,Xb,⟨h1,h2⟩,Qhe h ok dp,?_⟩;have e:(Yf zw (kd t)).isSome=decide (t∈S):=by
  by_cases a:t∈S
  ·rw[GX a,j t a];rfl
  ·rw[Gz a];cases e:Yf zw (kd t)with
   |none=>rfl
   |some v=>exfalso;unfold Yf at e;obtain⟨p,f,_⟩:=EL.mp e;have k:=List.find?_some f;have l:p.1=kd t:=TJ k;have c:kd t∈zw.map (·.1):=List.mem_map.mpr ⟨p,List.mem_of_find?_eq_some f,l⟩;rw[i]at c;obtain⟨u,m,g⟩:=List.mem_map.mp c;exact a (Qb2 g▸m)
 rw[e];exact q
theorem Num.names(N:Num P w H d S L):∃zw,DH P w H d zw/\zw.length=S.length/\Zq H (zw.map λp=>V.ref p.2.1) S:=by
 obtain⟨zw,h1,h2,a,f⟩:=N.ex;have lk:zw.length=S.length:=by have:=congrArg List.length a;simpa using this
 refine⟨zw,⟨h1,h2⟩,lk,?_⟩;have all:∀(l:List KE)(S:List Th),(∀p∈l,p∈zw)->l.map (·.1)=S.map kd->Zq H (l.map λp=>V.ref p.2.1) S:=by
  intro l;induction l with
  |nil=>intro S _ e;cases S with
   |nil=>exact .nil
   |cons t r=>simp at e
  |cons p l c=>intro S sub e;cases S with
   |nil=>simp at e
   |cons t r=>simp only[List.map_cons,List.cons.injEq]at e;refine .cons (Qj8 t ?_) (c r (λq b=>sub q (List.mem_cons_of_mem _ b)) e.2);have:=(h2 p (sub p List.mem_cons_self)).1;rw[e.1,Rx]at this;exact this
 exact all zw S (λ_ h=>h) a
def tw(b:Bool):Ta:=if b then"same"else"unlike"
def Uv(H:Hp):List V->Tl->Prop:=Paired λx p=>∃a v u,x=.ref a/\H a=Ga (.tup [.str (tw p.1),v,u])/\Yl H v p.2.1/\Yl H u p.2.2
theorem Uv.Qm{H H':Hp}(e:Qu H H'){xs:List V}{tl:Tl}(h:Uv H xs tl):Uv H' xs tl:=L2.Paired.Ya h λx p⟨a,v,u,h1,h2,b,c⟩=>⟨a,v,u,h1,e _ _ h2,b.Qm e,c.Qm e⟩
def Qac(H:Hp):List V->List (Th×Th)->Prop:=Paired λx p=>∃a v u,x=.ref a/\H a=Ga (.tup [v,u])/\Yl H v p.1/\Yl H u p.2
theorem Qac.Qm{H H':Hp}(e:Qu H H'){xs:List V}{l:List (Th×Th)}(h:Qac H xs l):Qac H' xs l:=L2.Paired.Ya h λx p⟨a,v,u,h1,h2,b,c⟩=>⟨a,v,u,h1,e _ _ h2,b.Qm e,c.Qm e⟩
theorem Qy{α β:Type}{F:α->β->Prop}:∀{xs:List α}{ys:List β}{i:Nat}{x:α},Paired F xs ys->xs[i]?=Ga x->∃y,ys[i]?=Ga y/\F x y
 |_,_,_,_,.nil,e=>by simp at e
 |_,_,0,_,.cons h _,e=>by simp at e;subst e;exact⟨_,Xb,h⟩
 |_,_,i+1,_,.cons _ t,e=>by obtain⟨y,h1,h2⟩:=Qy (i:=i) t (by simpa using e);exact⟨y,by simpa using h1,h2⟩
theorem Ys{α β:Type}{F:α->β->Prop}:∀{a b:List α}{c d:List β},Paired F a c->Paired F b d->Paired F (a++b) (c++d)
 |_,_,_,_,.nil,t=>t
 |_,_,_,_,.cons h r,t=>.cons h (Ys r t)
def Rb(tl:Tl):List (Th×Th):=(tl.filter (·.1)).map (·.2)
theorem Qfc{a b:Th}:(a,b)∈Rb tl↔(Gf,a,b)∈tl:=by
 unfold Rb;rw[List.mem_map];constructor
 ·rintro⟨⟨c,x⟩,h,e⟩;rw[List.mem_filter]at h;obtain⟨h1,h2⟩:=h;have:c=Gf:=h2;subst this;cases e;exact h1
 ·intro h;exact⟨(Gf,a,b),List.mem_filter.mpr ⟨h,Xb⟩,Xb⟩
inductive Qea(P:Gg)(w:Gs)(vs:List V)(H:Hp)(Q:VK):Prop
 |mk (a:Gc) (b:Gc) (us:List V) (vs':List V) (tl:Tl) (ts:List Th) (h0:vs=[.ref a,.ref b]) (h1:H a=Ga (.lst us)) (h2:Uv H us tl) (h3:H b=Ga (.lst vs')) (h4:Zq H vs' ts) (h5:(∀t∈ts,t.ok=Gf/\t.depth<=8)) (h6:(∀p∈tl,(p.2.1.ok=Gf/\p.2.1.depth<=8)/\p.2.2.ok=Gf/\p.2.2.depth<=8)) (h7:Qw ts+Qw (tl.map (·.2.1))+Qw (tl.map (·.2.2))<=3000) (h8:∀(d:Gc)(S:List Th)(L:Th->Int)(H':Hp),Q4 H H'->H d=Gh->Num P w H' d S L->Tells tl S L->(∀t∈ts,t∈S)->(∀p∈tl,p.2.1∈S/\p.2.2∈S)->Q (.ref d) H'):Qea P w vs H Q
def O9(P:Gg)(w:Gs):Sp:=λvs H Q _=>Qea P w vs H Q
end Sb
namespace L2
open PySem PySem.Spec PyProof.Rows
variable{d:Gc}{H:Hp}
theorem Qki{K:Gd}{a p:Gc}{xs:List V}{g:TG}{tt:TT}{te:TE}{Q:Hp->Prop}{h:St}{H0:Hp}(t:xs.length<=Gj)(Pv:Nat->List V->St->Hp->Prop)(r:Pv 0 [] h (zj H0 p (.lst [])))
  (hl:∀i ys σ H,i<=xs.length->Pv i ys σ H->Zd K H a xs)
  (s:∀i x ys σ H,xs[i]?=Ga x->Pv i ys σ H->H p=Ga (.lst ys)->g x σ H λd H2=>tt d H2 λb j=>if b=Gf then te d j λv n=>n p=Ga (.lst ys)/\Pv (i+1) (ys++[v]) d (zj n p (.lst (ys++[v])))else j p=Ga (.lst ys)/\Pv (i+1) ys d j)
  (hd:∀ys σ H,Pv xs.length ys σ H->H p=Ga (.lst ys)->Q H):Qcz p (Itl K a) g tt te Q h (zj H0 p (.lst [])):=by
 refine⟨λi m σ H=>m=xs.length - i/\i<=xs.length/\∃ys,ys.length<=i/\Pv i ys σ H/\H p=Ga (.lst ys),⟨xs.length,by simp,Gw _,[],Gm _,r,Qb⟩,?_⟩;rintro i m σ H ⟨rfl,hi,ys,u,pv,o⟩;have q:=hl i ys σ H hi pv;by_cases f:i<xs.length
 ·refine .inr ⟨⟨xs,xs[i],q,by simp[f]⟩,λv c H'=>H' p=Ga (.lst ys)/\Pv (i+1) (ys++[v]) c (zj H' p (.lst (ys++[v]))),λc H'=>H' p=Ga (.lst ys)/\Pv (i+1) ys c H',
   λv c H'⟨k,l⟩=>⟨ys,k,by lia,xs.length - (i+1),by lia,Xb,f,ys++[v],by simp[u],l,Qb⟩,λc H'⟨k,l⟩=>⟨xs.length - (i+1),by lia,Xb,f,ys,by lia,l,k⟩,λx H' y=>?_⟩
  obtain⟨e,y⟩:=y;subst e;exact s i x ys σ _ (y xs q) pv o
 ·have e:i=xs.length:=by lia
  subst e;exact .inl ⟨⟨xs,q,Gm _⟩,hd ys σ H pv o⟩
def Tr(t:TS)(pre a:St->Hp->Prop):Prop:=∀D σ H,pre σ H->(∀b H',a b H'->D.nx b H')->t D σ H
def Ih(d:Gc)(H H':Hp):Prop:=∀c o,H c=Ga o->c≠d->H' c=Ga o
theorem Ih.refl:Ih d H H:=λ_ _ e _=>e
theorem Ih.trans{H1 H2:Hp}(a:Ih d H H1)(b:Ih d H1 H2):Ih d H H2:=λc o e h=>b c o (a c o e h) h
theorem Ih.of{H1:Hp}(e:Q4 H H1):Ih d H H1:=λc o h _=>e c o h
end L2
namespace Sb
open PySem PySem.Spec PyProof.Rows L2
variable{H:Hp}{xs:List V}{tl:Tl}
theorem _root_.L2.Ih.Qm{d:Gc}{H':Hp}{o:HO}(b:Ih d H H')(h:H d=Ga o)(a:∀xs,o≠.tup xs):Qu H H':=λc xs e=>b c _ e λz=>by subst z;rw[h]at e;exact a xs (Tj e)
theorem Qfr{α:Type}{p q:α->Bool}:∀{l:List α},(∀x∈l,p x=Gf->q x=Gf)->l.countP p<=l.countP q
 |[],_=>by simp
 |x::l,h=>by
  have b:=Qfr (l:=l) λy a=>h y (List.mem_cons_of_mem _ a);have h1:=h x List.mem_cons_self;rw[List.countP_cons,List.countP_cons];cases e1:p x with
  |true=>rw[h1 e1];simp;exact b
  |false=>simp;lia
theorem Qfe{α:Type}{p q:α->Bool}:∀{l:List α},(∀x∈l,p x=Gf->q x=Gf)->(∃x∈l,q x=Gf/\p x=Gq)->l.countP p<l.countP q
 |[],_,⟨x,d,_⟩=>nomatch d
 |x::l,h,⟨y,a,b,c⟩=>by
  have hl:∀y∈l,p y=Gf->q y=Gf:=λy a=>h y (List.mem_cons_of_mem _ a);have le:=Qfr hl;rw[List.countP_cons,List.countP_cons];rcases List.mem_cons.mp a with z|z
  ·subst z;rw[b,c];simp;omega
  ·have e:=Qfe hl ⟨y,z,b,c⟩;have h1:=h x List.mem_cons_self;cases e3:p x with
   |true=>rw[h1 e3];simp;exact e
   |false=>simp;omega
def dis(S:List Th)(L:Th->Int):Nat:=(S.flatMap λx=>S.map λy=>(x,y)).countP λp=>decide (L p.1≠L p.2)
theorem Q0v{S:List Th}{L a:Th->Int}(h:∀x∈S,∀y∈S,L x=L y->a x=a y)(h2:∃x∈S,∃y∈S,L x≠L y/\a x=a y):dis S a<dis S L:=by
 obtain⟨x,c,y,d,f,g⟩:=h2;refine Qfe (λp b e=>?_) ⟨(x,y),?_,GX f,by simp[g]⟩
 ·rw[List.mem_flatMap]at b;obtain⟨x,c,b⟩:=b;obtain⟨y,d,rfl⟩:=List.mem_map.mp b;exact GX λz=>(TJ e) (h x c y d z)
 ·rw[List.mem_flatMap];exact⟨x,c,List.mem_map.mpr ⟨y,d,Xb⟩⟩
theorem Qdo{H:Hp}:∀l:List Int,Rh H (l.map V.int) (l.map Ew)
 |[]=>.nil
 |i::r=>.cons (.int i) (Qdo r)
theorem Qdn:∀l:List Int,Gv (l.map Ew)=Gf
 |[]=>by simp[Gv]
 |i::r=>by simp[Gv,Tp,Qdn r]
theorem Qc3:∀l:List Int,To (l.map Ew)<=1
 |[]=>by simp[To]
 |i::r=>by have:=Qc3 r;simp only[List.map_cons,To,Dg];omega
theorem Qij:∀l m:List Int,Tx (l.map Ew) (m.map Ew)=decide (l=m)
 |[],[]=>by simp[Tx]
 |[],_::_=>by simp[Tx]
 |_::_,[]=>by simp[Tx]
 |i::l,j::m=>by
  simp only[List.map_cons,Tx,TQ,Qij l m];by_cases h:i=j
  ·subst h;simp
  ·simp[h]
theorem Qfd{P:Gg}{w:Gs}{K:Gd}{r p d:Gc}{us:List V}{ps S:List Th}{L:Th->Int}{Q:Hp->Prop}(o:H r=Ga (.tup us))(g:Zq H us ps)(f:∀t∈ps,t∈S)(N:Num P w H d S L)(h:H p=Gh)(k:us.length<=3000)
  (q:∀H',Q4 H H'->H' p=Ga (.lst ((ps.map L).map V.int))->Q H'):Qcz p (Itt K r) (Vt 0) Qxb (tOp (Qio P w) (V7 1) (V7 0)) Q [Gh,Ga (.ref d)] (zj H p (.lst [])):=by
 refine Ju (K:=K) (a:=r) (xs:=us) (small (by omega)) (λi ys σ H1=>(∃n,σ=[n,Ga (.ref d)])/\ys=((ps.take i).map L).map V.int/\H1=zj H p (.lst ys)) ⟨⟨_,Xb⟩,by simp,Xb⟩ (λi ys σ H1 _⟨_,_,e⟩=>Z2.of (by rw[e];exact Qg h _ _ _ o)) ?_ ?_
 ·rintro i x ys σ H1 hi j ⟨⟨n,rfl⟩,rfl,rfl⟩ c;obtain⟨t,l,m⟩:=g.get hi;obtain⟨b,_,_,_,rfl,_,_,_⟩:=m.inv;have s1:=Qg h (.lst (((ps.take i).map L).map V.int));refine⟨_,Xb,_,Xb,(N.same s1).get (f t (List.mem_of_getElem? l)) (m.same s1) ⟨c,⟨_,Xb⟩,?_,?_⟩⟩
  ·rw[List.take_add_one,l];simp
  ·rw[Jf]
 ·rintro ys σ H1 j ⟨_,rfl,rfl⟩ c;rw[g.length,List.take_length]at c⊢;exact q _ (Qg h _) c
inductive Dd where
 |tell (b:Bool) (x y:Th)
 |ask (x y:Th)
 |back (i:Int)
variable{ds:List Dd}{d:Dd}
def Dd.fits(ts:List Th):Dd->Prop
 |.tell _ x y=>x∈ts/\y∈ts
 |.ask x y=>x∈ts/\y∈ts
 |.back _=>True
def Qb0(H:Hp)(x:V):Dd->Prop
 |.tell b t u=>∃a c d,x=.ref a/\H a=Ga (.tup [.str (tw b),c,d])/\Yl H c t/\Yl H d u
 |.ask t u=>∃a c d,x=.ref a/\H a=Ga (.tup [.str "ask",c,d])/\Yl H c t/\Yl H d u
 |.back i=>∃a,x=.ref a/\H a=Ga (.tup [.str "back",.int i])
theorem Qb0.Qm{H H':Hp}(e:Qu H H'){x:V}:∀{d:Dd},Qb0 H x d->Qb0 H' x d
 |.tell _ _ _,⟨a,f,g,h1,h2,b,c⟩=>⟨a,f,g,h1,e _ _ h2,b.Qm e,c.Qm e⟩
 |.ask _ _,⟨a,f,g,h1,h2,b,c⟩=>⟨a,f,g,h1,e _ _ h2,b.Qm e,c.Qm e⟩
 |.back _,⟨a,h1,h2⟩=>⟨a,h1,e _ _ h2⟩
def X5(H:Hp):List V->List Dd->Prop:=Paired λx d=>Qb0 H x d
theorem X5.Qm{H H':Hp}(e:Qu H H'){xs:List V}{ds:List Dd}(h:X5 H xs ds):X5 H' xs ds:=L2.Paired.Ya h λ_ _ h=>h.Qm e
theorem X5.same{H':Hp}(e:Q4 H H')(h:X5 H xs ds):X5 H' xs ds:=h.Qm (Qu.of e)
inductive Qko(K:Gd)(vs:List V)(H:Hp)(Q:VK):Prop
 |mk (a:Gc) (b:Gc) (ns:List Int) (us:List V) (ts:List Th) (h0:vs=[.ref a,.ref b]) (h1:Zd K H a (ns.map V.int)) (h2:ns.length<=63) (h3:H b=Ga (.lst us)) (h4:Zq H us ts) (h5:0<ts.length) (h6:ts.length<=1000) (h7:∀(r:Gc)(es:List V)(dl:List Dd)(H':Hp),Q4 H H'->H r=Gh->H' r=Ga (.lst es)->X5 H' es dl->dl.length=ns.length->(∀d∈dl,d.fits ts)->Q (.ref r) H'):Qko K vs H Q
def Qnm(K:Gd):Sp:=λvs H Q _=>Qko K vs H Q
inductive Qq2(vs:List V)(H:Hp)(Q:VK):Prop
 |mk (n:Int) (h0:vs=[.int n]) (h1:∀(m:Int)(H':Hp),Q4 H H'->Q (.int m) H'):Qq2 vs H Q
def Qyd:Sp:=λvs H Q _=>Qq2 vs H Q
inductive Qm6(K:Gd)(vs:List V)(H:Hp)(Q:VK):Prop
 |mk (a:Gc) (ns:List Int) (m:Int) (b:Int) (h0:vs=[.ref a,.int m,.int b]) (h1:Zd K H a (ns.map V.int)) (h2:ns.length<=63) (h3:Q (.int m) H):Qm6 K vs H Q
def Qsj(K:Gd):Sp:=λvs H Q _=>Qm6 K vs H Q
def Qlr(tl:Tl)(x y:Th)(k:Ta):Prop:=(k="equal"/\Cg tl x y)\/(k="unlike"/\¬Cg tl x y/\∃a b,(Gq,a,b)∈tl/\Cg (tl++[(Gf,x,y)]) a b)\/(k="open"/\¬Cg tl x y/\∀a b,(Gq,a,b)∈tl->¬Cg (tl++[(Gf,x,y)]) a b)
inductive Ik(tl:Tl):Prop
 |mk (a:_) (b:_) (h0:(Gq,a,b)∈tl) (h1:Cg tl a b):Ik tl
inductive Qm3(vs:List V)(H:Hp)(Q:VK):Prop
 |mk (a:Gc) (us:List V) (tl:Tl) (v1:V) (v2:V) (x:Th) (y:Th) (h0:vs=[.ref a,v1,v2]) (h1:H a=Ga (.lst us)) (h2:Uv H us tl) (h3:Yl H v1 x) (h4:Yl H v2 y) (h5:(x.ok=Gf/\x.depth<=8)) (h6:(y.ok=Gf/\y.depth<=8)) (h7:(∀p∈tl,(p.2.1.ok=Gf/\p.2.1.depth<=8)/\p.2.2.ok=Gf/\p.2.2.depth<=8)) (h8:Qw (tl.map (·.2.1))+Qw (tl.map (·.2.2))+x.size+y.size<=3000) (h9:∀(k:Ta)(H':Hp),Q4 H H'->Qlr tl x y k->Q (.str k) H'):Qm3 vs H Q
def Qk6:Sp:=λvs H Q _=>Qm3 vs H Q
inductive Qff(vs:List V)(H:Hp)(Q:VK):Prop
 |mk (a:Gc) (e:Gc) (us:List V) (tl:Tl) (v1:V) (v2:V) (b:Bool) (x:Th) (y:Th) (h0:vs=[.ref a,.ref e]) (h1:H a=Ga (.lst us)) (h2:Uv H us tl) (h3:H e=Ga (.tup [.str (tw b),v1,v2])) (h4:Yl H v1 x) (h5:Yl H v2 y) (h6:(x.ok=Gf/\x.depth<=8)) (h7:(y.ok=Gf/\y.depth<=8)) (h8:(∀p∈tl,(p.2.1.ok=Gf/\p.2.1.depth<=8)/\p.2.2.ok=Gf/\p.2.2.depth<=8)) (h9:Qw (tl.map (·.2.1))+Qw (tl.map (·.2.2))+x.size+y.size<=3000) (h10:∀(r:Bool)(H':Hp),Q4 H H'->(r=Gf↔Ik (tl++[(b,x,y)]))->Q (.bl r) H'):Qff vs H Q
def Qeh:Sp:=λvs H Q _=>Qff vs H Q
open Classical in
noncomputable def kindOf(tl:Tl)(x y:Th):Ta:=if Cg tl x y then"equal"else if∃a b,(Gq,a,b)∈tl/\Cg (tl++[(Gf,x,y)]) a b then"unlike"else"open"
theorem Qlr.eq{x y:Th}{k:Ta}(h:Qlr tl x y k):k=kindOf tl x y:=by
 unfold kindOf;rcases h with⟨e,c⟩|⟨e,c,d⟩|⟨e,c,d⟩
 ·rw[Gn c,e]
 ·rw[Gi c,Gn d,e]
 ·rw[Gi c,Gi (λ⟨a,b,h1,h2⟩=>d a b h1 h2),e]
open Classical in
noncomputable def Vo(tl:Tl):Dd->Tl×V
 |.ask x y=>(tl,.str (kindOf tl x y))
 |.back i=>if 0<=i/\i<=(tl.length:Int)then(tl.take i.toNat,.int ((tl.length:Int) - i))else(tl,.str "no moment")
 |.tell b x y=>if Ik (tl++[(b,x,y)])then(tl,.str "clash")else(tl++[(b,x,y)],.int ((tl.length:Int)+1))
noncomputable def after(tl:Tl):List Dd->Tl
 |[]=>tl
 |d::ds=>after (Vo tl d).1 ds
noncomputable def Ot(tl:Tl):List Dd->List V
 |[]=>[]
 |d::ds=>(Vo tl d).2::Ot (Vo tl d).1 ds
theorem R4(tl:Tl):∀(ds es:List Dd),after tl (ds++es)=after (after tl ds) es
 |[],es=>rfl
 |d::ds,es=>R4 (Vo tl d).1 ds es
theorem Rv{k:Nat}(h:ds[k]?=Ga d):after tl (ds.take (k+1))=(Vo (after tl (ds.take k)) d).1:=by rw[List.take_add_one,h,R4];rfl
theorem Qa8(tl:Tl):∀ds:List Dd,(Ot tl ds).length=ds.length
 |[]=>rfl
 |d::ds=>by simp only[Ot,List.length_cons,Qa8 (Vo tl d).1 ds]
theorem Qam:∀{ds:List Dd}{tl:Tl}{k:Nat}{d:Dd},ds[k]?=Ga d->(Ot tl ds)[k]?=Ga (Vo (after tl (ds.take k)) d).2
 |[],_,_,_,h=>by simp at h
 |e::ds,tl,0,d,h=>by simp at h;subst h;rfl
 |e::ds,tl,k+1,d,h=>by have a:=Qam (ds:=ds) (tl:=(Vo tl e).1) (k:=k) (d:=d) (by simpa using h);simp only[Ot,List.getElem?_cons_succ,List.take_succ_cons,after];exact a
def Th.good(t:Th):Prop:=t.ok=Gf/\t.depth<=8/\t.size<=100
def Dd.good:Dd->Prop
 |.tell _ x y=>x.good/\y.good
 |.ask x y=>x.good/\y.good
 |.back _=>True
def Tlg(tl:Tl):Prop:=∀p∈tl,p.2.1.good/\p.2.2.good
theorem Qrx(h:Tlg tl)(g:d.good):Tlg (Vo tl d).1:=by
 cases d with
 |ask x y=>exact h
 |back i=>
  simp only[Vo];split
  ·exactλp a=>h p (List.mem_of_mem_take a)
  ·exact h
 |tell b x y=>
  simp only[Vo];split
  ·exact h
  ·intro p a;rcases List.mem_append.mp a with z|z
   ·exact h p z
   ·rw[List.mem_singleton]at z;subst z;exact g
theorem Qv7:(Vo tl d).1.length<=tl.length+1:=by
 cases d with
 |ask x y=>exact EF _
 |back i=>
  simp only[Vo];split
  ·rw[List.length_take];omega
  ·exact EF _
 |tell b x y=>
  simp only[Vo];split
  ·exact EF _
  ·rw[List.length_append,List.length_singleton];omega
theorem Rj:∀{ds:List Dd}{tl:Tl},Tlg tl->(∀d∈ds,d.good)->Tlg (after tl ds)
 |[],_,h,_=>h
 |d::ds,tl,h,g=>by have:=Rj (ds:=ds) (tl:=(Vo tl d).1) (Qrx h (g d List.mem_cons_self)) λe a=>g e (List.mem_cons_of_mem _ a);simp only[after];exact this
theorem Iv:∀{ds:List Dd}{tl:Tl},(after tl ds).length<=tl.length+ds.length
 |[],tl=>Gm _
 |d::ds,tl=>by have h1:=Iv (ds:=ds) (tl:=(Vo tl d).1);have h2:=Qv7 (tl:=tl) (d:=d);simp only[after,List.length_cons];lia
theorem Qsq(h:Tlg tl):Qw (tl.map (·.2.1))<=tl.length*100/\Qw (tl.map (·.2.2))<=tl.length*100:=by
 have h1:=Jv (tl.map (·.2.1)) 100 λt b=>by obtain⟨p,a,rfl⟩:=List.mem_map.mp b;exact(h p a).1.2.2
 have h2:=Jv (tl.map (·.2.2)) 100 λt b=>by obtain⟨p,a,rfl⟩:=List.mem_map.mp b;exact(h p a).2.2.2
 rw[List.length_map]at h1 h2;exact⟨h1,h2⟩
def tlD(p:Bool×Th×Th):TH:=.tuple [.str (tw p.1),p.2.1.toD,p.2.2.toD]
def ddD:Dd->TH
 |.tell b x y=>tlD (b,x,y)
 |.ask x y=>.tuple [.str "ask",x.toD,y.toD]
 |.back i=>.tuple [.str "back",.int i]
theorem Qb0.dt{H:Hp}{x:V}:∀{d:Dd},Qb0 H x d->Dt H x (ddD d)
 |.tell _ _ _,⟨a,e,f,h1,h2,b,c⟩=>by subst h1;exact .tup h2 (.cons (.str _) (.cons b.dt (.cons c.dt .nil)))
 |.ask _ _,⟨a,e,f,h1,h2,b,c⟩=>by subst h1;exact .tup h2 (.cons (.str _) (.cons b.dt (.cons c.dt .nil)))
 |.back _,⟨a,h1,h2⟩=>by subst h1;exact .tup h2 (.cons (.str _) (.cons (.int _) .nil))
theorem X5.dts(h:X5 H xs ds):Rh H xs (ds.map ddD):=by
 unfold X5 at h;induction h with
 |nil=>exact .nil
 |cons h r a=>exact .cons h.dt a
theorem Uv.dts(h:Uv H xs tl):Rh H xs (tl.map tlD):=by
 unfold Uv at h;induction h with
 |nil=>exact .nil
 |cons h r f=>obtain⟨a,v,u,b,c,d,e⟩:=h;subst b;exact .cons (.tup c (.cons (.str _) (.cons d.dt (.cons e.dt .nil)))) f
def Rdy(d:TH):Prop:=d.canLay0=Gf/\W0 d<=1000/\d.depth<=20
theorem Qiw{ds:List TH}(h:∀d∈ds,Rdy d)(hl:ds.length<=100):(FA ds).canLay0=Gf/\W0 (FA ds)<=1000000/\(FA ds).depth<=60:=by
 have all:Gv ds=Gf/\Zm ds<=ds.length*1000/\To ds<=20:=by
  clear hl;induction ds with
  |nil=>simp[Gv,Zm,To]
  |cons d r b=>
   obtain⟨h1,h2,c⟩:=h d List.mem_cons_self;obtain⟨i1,i2,f⟩:=b λe a=>h e (List.mem_cons_of_mem _ a);refine⟨by simp[Gv,h1,i1],?_,?_⟩
   ·simp only[Zm,List.length_cons];lia
   ·simp only[To];lia
 refine⟨by simp only[Tp];exact all.1,?_,?_⟩
 ·simp only[W0];lia
 ·simp only[Dg];lia
theorem Qyv(b:Bool):TU (tw b)=Gf:=by cases b<;>decide+kernel
theorem Qab{s:Ta}{x y:Th}(c:TU s=Gf)(a:x.good)(b:y.good):Rdy (.tuple [.str s,x.toD,y.toD]):=by
 have h1:=J0 x a.1;have h2:=J0 y b.1;have n1:=Qdi x;have n2:=Qdi y;have d:=Wl x;have e:=Wl y;have:=a.2;have:=b.2;refine⟨by simp[Tp,Gv,h1,h2,c],?_,?_⟩
 ·simp only[W0,Zm];lia
 ·simp only[Dg,To];lia
theorem Qv1:∀{d:Dd},d.good->Rdy (ddD d)
 |.tell b x y,h=>Qab (Qyv b) h.1 h.2
 |.ask x y,h=>Qab (by decide+kernel) h.1 h.2
 |.back i,_=>⟨by simp[ddD,Tp,Gv];decide+kernel,by simp[ddD,W0,Zm],by simp[ddD,Dg,To]⟩
theorem Qv5(h:Tlg tl):∀d∈tl.map tlD,Rdy d:=λd hd=>by obtain⟨p,a,rfl⟩:=List.mem_map.mp hd;exact Qab (Qyv p.1) (h p a).1 (h p a).2
def Qeb(H:Hp)(v:V)(h:V):Prop:=v=h\/∃a xs,v=.ref a/\H a=Ga (.tup (h::xs))
structure Qgo(U:List Th):Prop where
 cl:Ua U
 good:∀t∈U,t.good
 len:U.length<=60
theorem Qgo.Q4h{U:List Th}(h:Qgo U)(f:d.fits U):d.good:=by
 cases d with
 |tell b x y=>exact⟨h.good x f.1,h.good y f.2⟩
 |ask x y=>exact⟨h.good x f.1,h.good y f.2⟩
 |back i=>exact TC
inductive Qde(vs:List V)(H:Hp)(Q:VK):Prop
 |mk (a:Gc) (es:List V) (dl:List Dd) (U:List Th) (h0:vs=[.ref a]) (h1:H a=Ga (.lst es)) (h2:X5 H es dl) (h3:Qgo U) (h4:(∀d∈dl,d.fits U)) (h5:dl.length<=10) (h6:∀(r:Gc)(rs:List V)(H':Hp),Q4 H H'->H' r=Ga (.lst rs)->Paired (Qeb H') rs (Ot [] dl)->Q (.ref r) H'):Qde vs H Q
def Qa7:Sp:=λvs H Q _=>Qde vs H Q
inductive Qog(vs:List V)(H:Hp)(Q:VK):Prop
 |mk (a:Gc) (es:List V) (dl:List Dd) (U:List Th) (h0:vs=[.ref a]) (h1:H a=Ga (.lst es)) (h2:X5 H es dl) (h3:Qgo U) (h4:(∀d∈dl,d.fits U)) (h5:dl.length<=10) (h6:∀(r:Gc)(rs:List V)(H':Hp),Q4 H H'->H' r=Ga (.lst rs)->Uv H' rs (after [] dl)->Q (.ref r) H'):Qog vs H Q
def Qls:Sp:=λvs H Q _=>Qog vs H Q
theorem Ob{ts:List Th}(h:∀t∈ts,∀p∈t.parts,p∈ts):Ua ts:=by
 have key:∀n:Nat,∀t∈ts,t.depth<=n->∀s∈t.inside,s∈ts:=by
  intro n;induction n with
  |zero=>intro t _ hd;have:=Qay t;lia
  |succ n d=>
   intro t b hd s a;cases t with
   |mk u ps=>
    simp only[Th.inside,List.mem_append,List.mem_singleton]at a;rcases a with a|rfl
    ·rw[Xn,List.mem_flatMap]at a;obtain⟨p,c,a⟩:=a;have:=We c;simp only[Th.depth]at hd;exact d p (h _ b p c) (by lia) s a
    ·exact b
 exactλt b=>key _ t b (Gm _)
def Sub(tl a:Tl):Prop:=∀b x y,(b,x,y)∈tl->(b,x,y)∈a\/(b,y,x)∈a
mutual
theorem Cg.sub{tl a:Tl}(h:Sub tl a):∀{s t:Th},Cg tl s t->Cg a s t
 |_,_,.refl t=>.refl t
 |_,_,.symm c=>.symm (Cg.sub h c)
 |_,_,.trans c d=>.trans (Cg.sub h c) (Cg.sub h d)
 |_,_,.told m=>by
  rcases h _ _ _ m with z|z
  ·exact .told z
  ·exact .symm (.told z)
 |_,_,.cong c=>.cong (CgL.sub h c)
theorem CgL.sub{tl a:Tl}(h:Sub tl a):∀{s t:List Th},CgL tl s t->CgL a s t
 |_,_,.nil=>.nil
 |_,_,.cons c d=>.cons (Cg.sub h c) (CgL.sub h d)
end
end Sb
namespace L2
open PySem PySem.Spec PyProof.Rows
def Qtm(K:Gd)(a:Gc)(n:Nat):It:=
 ⟨λi H=>∃xs,Zd K H a xs/\xs.length=n/\i<n,λi H x H'=>H'=H/\∀xs,Zd K H a xs->xs[n - 1 - i]?=Ga x,λi _=>i=n⟩
theorem Qpr{P:Gg}{w:Gs}{K:Gd}{tg:T3}(a it:Gc)(n:Nat):Qgs P w K tg (Qtm K a n) [it] it (λi h=>i<=n/\h.IsRevIter it a ((n:Int) - 1 - (i:Int))) where
 mem:=by simp
 obj:=λi h st b hb=>by
  have e:b=it:=by simpa using hb
  subst e;obtain⟨_,o,e,c,d⟩:=st;exact⟨o,e,λv z=>by rw[d]at z;cases z⟩
 keep:=λi h h' st k=>⟨st.1,st.2.at λo e=>k it (by simp) o e⟩
 item:=by
  intro X B hw A hc i zq s σ H E I j st l;subst B hw A;obtain⟨xs,C,S,hi⟩:=l;obtain⟨its,rv,p,hz⟩:=I.list C;have hl:=rv.length;have D:xs[n - 1 - i]?=Ga (xs[n - 1 - i]'(by omega)):=List.getElem?_eq_getElem (by omega);obtain⟨u,N,Q⟩:=rv.get D;obtain⟨m,q,M,r,t,y⟩:=j it (by simp);have e:(n:Int) - 1 - (i:Int)=((n - 1 - i:Nat):Int):=by omega
  have f:=st.2;rw[e]at f;refine Le f p.isList (x:=u) (by simpa using N) λh' g R=>?_;have F:Inv X zq σ H {s with heap:=h'}:=I.turned (t':=s.toks) (λb o hb e=>(R.2 b hb).trans e) m q r t y;have G:((n - 1 - i:Nat):Int) - 1=(n:Int) - 1 - ((i+1:Nat):Int):=by omega
  rw[G]at g;obtain⟨o,J,c,d⟩:=id g;exact⟨u,Xb,Qfl (s:={s with heap:=h'}) J c d (by decide) ⟨_,H,F,Q,⟨Xb,λys O=>by rw[I.Qc2 O C];exact D⟩,⟨hi,g⟩,λb hb=>(j b hb).1⟩⟩
 done:=by intro X B hw A hc i zq s σ H E I j st l;subst B hw A;have l:i=n:=l;obtain⟨m,q,M,r,t,y⟩:=j it (by simp);have f:=st.2;rw[show(n:Int) - 1 - (i:Int)= -1 by omega]at f;exact Lo (I.ok.hd hc) f λh' L=>⟨Xb,I.turned (t':=s.toks) (λb o hb e=>L b o hb e) m q r t y⟩
 self:=λ_ _ _ _ _ st h=>E1 st.2 h
inductive Qs2(K:Gd)(R:It->Hp->Prop)(vs:List V)(H1:Hp):Prop
 |mk (a:_) (xs:_) (h0:vs=[.ref a]) (h1:Zd K H1 a xs) (h2:R (Qtm K a xs.length) H1):Qs2 K R vs H1
def Q2b(K:Gd)(ta:TA):TI:=λσ H R=>ta σ H λvs H1=>Qs2 K R vs H1
section
variable{X:Cx}{tg:T3}
theorem Qxi{a:T3}{ta:TA}{p pos:SX}(j:Gl X "reversed")(k:X.mg "reversed"=Gh)(i:PA X [a] ta)(m:Te [a] X.env=[(Gq,eval a X.env)]:=by rfl):PI X tg (.Call (.Name "reversed" p) [a] [] pos) (Q2b X.K ta):=by
 intro zq s σ H R I h;refine Bd (V2 I j k MJ (Ds (Yq (i pos zq s σ H _ I h) λus s1⟨vs,H1,d,r,n⟩=>?_) m Xb));obtain⟨b,xs,e,l,q⟩:=n;subst e;obtain⟨u,rfl,t⟩:=vals1 r;cases(show u=Value.ref b from t);obtain⟨its,rv,pt,hz⟩:=d.list l;have hl:=rv.length;refine LP pt.isList ?_;have f:Inv X zq σ H1 {s1 with heap:=s1.heap.push (revObj b ((its.toArray.size:Int) - 1))}:=d.kept (t':=s1.toks) λb o e=>Heap.get?_push_of_some _ e;have st:(s1.heap.push (revObj b ((its.toArray.size:Int) - 1))).IsRevIter s1.heap.objs.size b ((xs.length:Int) - 1 - ((0:Nat):Int)):=by
  have g:(xs.length:Int) - 1 - ((0:Nat):Int)=(its.toArray.size:Int) - 1:=by rw[List.size_toArray];lia
  rw[g];exact⟨_,Heap.get?_push_size _ Xb,Xb,Xb⟩
 refine E1 st ⟨s1.heap.objs.size,[s1.heap.objs.size],_,_,H1,Xb,f,Qpr b _ xs.length,⟨Gw _,st⟩,λc hc=>?_,q⟩;have e:c=s1.heap.objs.size:=by simpa using hc
 subst e;exact d.Qii (Gm _) (d.Zw.fresh (Gm _))
end
theorem Qrp{K:Gd}{a:Gc}{xs:List V}{g:TG}{tb:TS}{D:Ends}{σ:St}{H:Hp}(Pv:Nat->St->Hp->Prop)(j:Pv 0 σ H)(hl:∀i σ H,i<=xs.length->Pv i σ H->Zd K H a xs)
  (k:∀i x σ H,xs.reverse[i]?=Ga x->Pv i σ H->g x σ H λd H2=>tb {D with nx:=Pv (i+1),ct:=Pv (i+1),bk:=D.nx} d H2)(hd:∀σ H,Pv xs.length σ H->D.nx σ H):
  ∃W:Nat->Nat->St->Hp->Prop,(∃m,W 0 m σ H)/\∀i m σ H,W i m σ H->
   ((Qtm K a xs.length).stop i H/\D.nx σ H)\/((Qtm K a xs.length).go i H/\∃N:St->Hp->Prop,(∀c H',N c H'->∃f,f<m/\W (i+1) f c H')/\∀x H',(Qtm K a xs.length).yld i H x H'->g x σ H' λd H2=>tb {D with nx:=N,ct:=N,bk:=D.nx} d H2):=by
 refine⟨λi m σ H=>m=xs.length - i/\i<=xs.length/\Pv i σ H,⟨xs.length,by simp,Gw _,j⟩,?_⟩;rintro i m σ H ⟨rfl,hi,p⟩;have q:=hl i σ H hi p;by_cases b:i<xs.length
 ·refine .inr ⟨⟨xs,q,Xb,b⟩,Pv (i+1),λc H' h=>⟨xs.length - (i+1),by lia,Xb,b,h⟩,λx H' y=>?_⟩;obtain⟨e,y⟩:=y;subst e;exact k i x σ _ (by rw[List.getElem?_reverse b];exact y xs q) p
 ·have e:i=xs.length:=by lia
  subst e;exact .inl ⟨Xb,hd σ H p⟩
end L2
namespace Sb
open PySem PySem.Spec PyProof.Rows L2
variable{H:Hp}{d a f:Gc}{ts:List Th}{t:Th}
structure Mp(P:Gg)(w:Gs)(H:Hp)(d:Gc)(S:Th->Prop)(F:Th->Th):Prop where
 ex:∃zw:List KE,H d=Ga (Ut P w d zw)/\Up H zw/\∀t,S t->∃b,Yf zw (kd t)=Ga (.ref b)/\Yl H (.ref b) (F t)
theorem Mp.at{P:Gg}{w:Gs}{S:Th->Prop}{F:Th->Th}(N:Mp P w H d S F):∃o,H d=Ga (.ext o):=by obtain⟨zw,h,_⟩:=N.ex;exact⟨_,h⟩
def jv(j:Nat):V:=.int (j:Int)
theorem Qz5{i j:Nat}(h:jv i=jv j):i=j:=by unfold jv at h;injection h with h;lia
abbrev Fm:=Ta×List Nat
def fm(ts:List Th)(t:Th):Fm:=(t.word,t.parts.map λp=>ts.idxOf p)
def ik(i:Nat):KD:=.int (i:Int)
def Y1(f:Fm):KD:=.tup [.str f.1,.tup (f.2.map ik)]
theorem Qbi:∀{a b:List Nat},a.map ik=b.map ik->a=b
 |[],[],_=>rfl
 |[],_::_,h=>by simp at h
 |_::_,[],h=>by simp at h
 |x::a,y::b,h=>by
  simp only[List.map_cons,List.cons.injEq]at h;have e:(x:Int)=(y:Int):=by have:=h.1;unfold ik at this;injection this
  have t:=Qbi h.2;rw[t,show x=y by omega]
theorem U2{f g:Fm}(h:Y1 f=Y1 g):f=g:=by unfold Y1 at h;simp only[KD.tup.injEq,List.cons.injEq,KD.str.injEq,FP]at h;exact L4 h.1 (Qbi h.2)
theorem Ip(h:t∈ts):ts[ts.idxOf t]?=Ga t:=by have hl:ts.idxOf t<ts.length:=List.idxOf_lt_length_of_mem h;rw[List.getElem?_eq_getElem hl,List.getElem_idxOf hl]
theorem Rq{j:Nat}(nd:ts.Nodup)(h:ts[j]?=Ga t):ts.idxOf t=j:=by obtain⟨a,e⟩:=List.getElem?_eq_some_iff.mp h;subst e;exact nd.idxOf_getElem j a
theorem Qha{s:Th}(a:s∈ts)(b:t∈ts)(e:ts.idxOf s=ts.idxOf t):s=t:=by have h1:=Ip a;have h2:=Ip b;rw[e,h2]at h1;exact(Tj h1).symm
theorem Qxd{us:List Th}(h:t∈ts):(ts++us).idxOf t=ts.idxOf t:=by rw[List.idxOf_append,Gn h]
theorem Qba{ts:List Th}:∀{a b:List Th},(∀x∈a,x∈ts)->(∀x∈b,x∈ts)->a.map (λp=>ts.idxOf p)=b.map (λp=>ts.idxOf p)->a=b
 |[],[],_,_,_=>rfl
 |[],_::_,_,_,h=>by simp at h
 |_::_,[],_,_,h=>by simp at h
 |x::a,y::b,h1,h2,h=>by simp only[List.map_cons,List.cons.injEq]at h;rw[Qha (h1 x List.mem_cons_self) (h2 y List.mem_cons_self) h.1,Qba (λz hz=>h1 z (List.mem_cons_of_mem _ hz)) (λz hz=>h2 z (List.mem_cons_of_mem _ hz)) h.2]
theorem Xq(cl:Ua ts)(h:t∈ts):∀p∈t.parts,p∈ts:=λp a=>by
 refine cl t h p ?_;cases t with
 |mk w ps=>simp only[Th.parts]at a;simp only[Th.inside,List.mem_append];left;rw[Xn,List.mem_flatMap];exact⟨p,a,Qoc p⟩
theorem Ql4{s:Th}(a:∀p∈s.parts,p∈ts)(b:∀p∈t.parts,p∈ts)(e:fm ts s=fm ts t):s=t:=by
 cases s with
 |mk w ps=>
  cases t with
  |mk v c=>unfold fm at e;simp only[Th.word,Th.parts,Df]at e a b;rw[e.1,Qba a b e.2]
theorem Qlm{us:List Th}(h:∀p∈t.parts,p∈ts):fm (ts++us) t=fm ts t:=by unfold fm;refine L4 rfl (List.map_congr_left λp a=>Qxd (h p a))
inductive Ra(H:Hp)(x:V)(f:Fm):Prop
 |mk (c:_) (e:_) (h0:x=.ref c) (h1:H c=Ga (.tup [.str f.1,.ref e])) (h2:H e=Ga (.tup (f.2.map jv))):Ra H x f
theorem Ra.Qm{H':Hp}{x:V}{f:Fm}(e:Qu H H')(h:Ra H x f):Ra H' x f:=by obtain⟨c,d,h1,h2,a⟩:=h;exact⟨c,d,h1,e _ _ h2,e _ _ a⟩
theorem Qtu{H:Hp}:∀l:List Nat,Rh H (l.map jv) (Uj (l.map ik))
 |[]=>by simp only[List.map_nil,Uj];exact .nil
 |i::r=>by simp only[List.map_cons,Uj,ik,KD.toD];exact .cons (.int _) (Qtu r)
theorem Qq9:∀l:List Nat,Gv (Uj (l.map ik))=Gf
 |[]=>by simp[Uj,Gv]
 |i::r=>by simp only[List.map_cons,Uj];simp only[Gv,Qq9 r,MK];simp[ik,KD.toD,Tp]
theorem Qr5:∀l:List Nat,Jx (l.map ik)=0
 |[]=>by simp[Jx]
 |i::r=>by simp only[List.map_cons,Jx,Qr5 r];simp[ik,KD.depth]
theorem Ra.key{c:Gc}{f:Fm}(h:Ra H (.ref c) f)(ok:TU f.1=Gf):Qat H c (Y1 f):=by
 obtain⟨b,e,h1,h2,a⟩:=h;cases h1;unfold Y1;refine⟨?_,?_,?_⟩
 ·simp only[KD.toD,Uj];exact .tup h2 (.cons (.str _) (.cons (.tup a (Qtu f.2)) .nil))
 ·simp only[KD.toD,Uj,Tp,Gv,ok,Qq9,Bool.and_self]
 ·simp only[KD.depth,Jx,Qr5];decide
def Ib(a f d:Gc):List (Ta×V):=[("things",.ref a),("forms",.ref f),("known",.ref d)]
structure Pl(P:Gg)(w:Gs)(C:Gc)(H:Hp)(p a f d:Gc)(ts:List Th):Prop where
 ob:∃dx,H p=Ga (.ins C dx (Ib a f d))
 th:∃us,H a=Ga (.lst us)/\Zq H us ts
 fo:∃ws,H f=Ga (.lst ws)/\Paired (Ra H) ws (ts.map (fm ts))
 kn:∃zw,DH P w H d zw/\zw.length<=ts.length/\(∀(j:Nat)t,ts[j]?=Ga t->Yf zw (Y1 (fm ts t))=Ga (jv j))/\∀k v,Yf zw k=Ga v->∃t∈ts,k=Y1 (fm ts t)
 af:a≠f
 nd:ts.Nodup
 cl:Ua ts
 ok:∀t∈ts,t.ok=Gf/\t.depth<=50
structure Fr3(a f d:Gc)(H H':Hp):Prop where
 keep:∀b o,H b=Ga o->b≠a->b≠f->b≠d->H' b=Ga o
 there:∀b,H' b=Gh->H b=Gh
theorem Fr3.refl:Fr3 a f d H H:=⟨λ_ _ e _ _ _=>e,λ_ h=>h⟩
theorem Fr3.trans{H1 H2:Hp}(x:Fr3 a f d H H1)(y:Fr3 a f d H1 H2):Fr3 a f d H H2:=⟨λb o e h1 h2 c=>y.keep b o (x.keep b o e h1 h2 c) h1 h2 c,λb h=>x.there b (y.there b h)⟩
theorem Fr3.of{H':Hp}(g:Q4 H H'):Fr3 a f d H H':=⟨λb o e _ _ _=>g b o e,λb h=>g.free h⟩
section
variable{P:Gg}{w:Gs}{C:Gc}{H H':Hp}{p a f d:Gc}{ts:List Th}
theorem Fr3.Qm(x:Fr3 a f d H H')(y:Pl P w C H p a f d ts):Qu H H':=λb xs e=>by obtain⟨us,g,_⟩:=y.th;obtain⟨h,c,_⟩:=y.fo;obtain⟨zw,n1,_⟩:=y.kn;exact x.keep b _ e (Zi e g (by intro z;cases z)) (Zi e c (by intro z;cases z)) (Zi e n1.at_ (by intro z;cases z))
theorem Pl.keep(x:Pl P w C H p a f d ts)(j:∀o,H p=Ga o->H' p=Ga o)(g:∀o,H a=Ga o->H' a=Ga o)(i:∀o,H f=Ga o->H' f=Ga o)(hd:∀o,H d=Ga o->H' d=Ga o)(b:Qu H H'):Pl P w C H' p a f d ts:=by obtain⟨dx,l⟩:=x.ob;obtain⟨us,m,n⟩:=x.th;obtain⟨q,c,e⟩:=x.fo;obtain⟨zw,n1,n2,n3,k⟩:=x.kn;exact⟨⟨dx,j _ l⟩,⟨us,g _ m,n.Qm b⟩,⟨q,i _ c,L2.Paired.Ya e λ_ _ h=>h.Qm b⟩,⟨zw,⟨hd _ n1.at_,Zg b n1.keys⟩,n2,n3,k⟩,x.af,x.nd,x.cl,x.ok⟩
theorem Pl.same(g:Q4 H H')(x:Pl P w C H p a f d ts):Pl P w C H' p a f d ts:=x.keep (g _) (g _) (g _) (g _) (Qu.of g)
theorem Pl.but{b:Gc}{zs c:List V}(x:Pl P w C H p a f d ts)(hb:H b=Ga (.lst zs))(g:b≠a)(h:b≠f):Pl P w C (zj H b (.lst c)) p a f d ts:=by
 obtain⟨dx,i⟩:=x.ob;obtain⟨zw,n1,_⟩:=x.kn;refine x.keep (λo e=>?_) (λo e=>by rw[Qf (Gp g)];exact e) (λo e=>by rw[Qf (Gp h)];exact e) (λo e=>?_) (Zs λxs e=>by rw[hb]at e;cases e)
 ·rw[Qf (Zi i hb (by intro z;cases z))];exact e
 ·rw[Qf (Zi n1.at_ hb (by intro z;cases z))];exact e
end
structure Fra(a f d dn:Gc)(S S':List Gc)(H H':Hp):Prop where
 keep:∀b o,H b=Ga o->b≠a->b≠f->b≠d->b≠dn->b∉S->H' b=Ga o
 own:∀b∈S',b∈S\/H b=Gh
 sub:∀b∈S,b∈S'
 there:∀b,H' b=Gh->H b=Gh
theorem Fra.trans{c:Gc}{S S1 S2:List Gc}{H1 H2:Hp}(x:Fra a f d c S S1 H H1)(y:Fra a f d c S1 S2 H1 H2):Fra a f d c S S2 H H2:=by
 refine⟨λb o e h1 h2 g i j=>y.keep b o (x.keep b o e h1 h2 g i j) h1 h2 g i λz=>?_,λb hb=>?_,λb h=>y.sub b (x.sub b h),λb h=>x.there b (y.there b h)⟩
 ·rcases x.own b z with z|z
  ·exact j z
  ·rw[e]at z;cases z
 ·rcases y.own b hb with h|h
  ·exact x.own b h
  ·exact .inr (x.there b h)
inductive Qfk(P:Gg)(w:Gs)(C:Gc)(vs:List V)(H:Hp)(Q:VK):Prop
 |mk (p:Gc) (dx:Gc) (h0:vs=[.ref p]) (h1:H p=Ga (.ins C dx [])) (h2:∀(a f d:Gc)(H':Hp),Pl P w C H' p a f d []->(∀b o,H b=Ga o->b≠p->H' b=Ga o)->H a=Gh->H f=Gh->H d=Gh->Q .non H'):Qfk P w C vs H Q
def Qjw(P:Gg)(w:Gs)(C:Gc):Sp:=λvs H Q _=>Qfk P w C vs H Q
inductive Qgd(P:Gg)(w:Gs)(C:Gc)(vs:List V)(H:Hp)(Q:VK):Prop
 |mk (p:Gc) (c:Gc) (v:V) (t:Th) (a:Gc) (f:Gc) (d:Gc) (ts:List Th) (h0:vs=[.ref p,v,.ref c]) (h1:Pl P w C H p a f d ts) (h2:Yl H v t) (h3:t.ok=Gf) (h4:t.depth<=50) (h5:(∀q∈t.parts,q∈ts)) (h6:Ra H (.ref c) (fm ts t)) (h7:ts.length<1000000) (h8:∀(j:Nat)(H':Hp),Pl P w C H' p a f d (if t∈ts then ts else ts++[t])->(if t∈ts then ts else ts++[t])[j]?=Ga t->Fr3 a f d H H'->Q (jv j) H'):Qgd P w C vs H Q
def Qdp(P:Gg)(w:Gs)(C:Gc):Sp:=λvs H Q _=>Qgd P w C vs H Q
inductive Qdg(P:Gg)(w:Gs)(C:Gc)(vs:List V)(H:Hp)(Q:VK):Prop
 |mk (p:Gc) (v:V) (t:Th) (a:Gc) (f:Gc) (d:Gc) (ts:List Th) (h0:vs=[.ref p,v]) (h1:Pl P w C H p a f d ts) (h2:Yl H v t) (h3:t.ok=Gf) (h4:t.depth<=50) (h5:ts.length+t.size<=500000) (h6:∀(j:Nat)(H':Hp),Pl P w C H' p a f d (Yr ts t.inside)->(Yr ts t.inside)[j]?=Ga t->Fr3 a f d H H'->Q (jv j) H'):Qdg P w C vs H Q
def Qf4(P:Gg)(w:Gs)(C:Gc):Sp:=λvs H Q _=>Qdg P w C vs H Q
end Sb
namespace L2
open PySem PySem.Spec PyProof.Rows
variable{G:Prop}
theorem Qmh{K:Gd}{a p:Gc}{xs:List V}{g:TG}{tt:TT}{te:TE}{Q:Hp->Prop}{h:St}{H0:Hp}(Pv:Nat->List V->St->Hp->Prop)(u:xs.length<=Gj)(s:Pv 0 [] h (zj H0 p (.lst [])))
  (hl:∀i ys σ H,i<=xs.length->Pv i ys σ H->Z2 K H a xs)
  (t:∀i x ys σ H,xs[i]?=Ga x->Pv i ys σ H->H p=Ga (.lst ys)->g x σ H λd H2=>tt d H2 λb j=>if b=Gf then te d j λv n=>n p=Ga (.lst ys)/\Pv (i+1) (ys++[v]) d (zj n p (.lst (ys++[v])))else j p=Ga (.lst ys)/\Pv (i+1) ys d j)
  (hd:∀ys σ H,ys.length<=xs.length->Pv xs.length ys σ H->H p=Ga (.lst ys)->Q H):Qcz p (Itt K a) g tt te Q h (zj H0 p (.lst [])):=by
 refine⟨λi m σ H=>m=xs.length - i/\i<=xs.length/\∃ys,ys.length<=i/\Pv i ys σ H/\H p=Ga (.lst ys),⟨xs.length,by simp,Gw _,[],Gm _,s,Qb⟩,?_⟩;rintro i m σ H ⟨rfl,hi,ys,r,pv,o⟩;have q:=hl i ys σ H hi pv;by_cases f:i<xs.length
 ·refine .inr ⟨⟨xs,xs[i],q,by simp[f]⟩,λv c H'=>H' p=Ga (.lst ys)/\Pv (i+1) (ys++[v]) c (zj H' p (.lst (ys++[v]))),λc H'=>H' p=Ga (.lst ys)/\Pv (i+1) ys c H',
   λv c H'⟨k,l⟩=>⟨ys,k,by lia,xs.length - (i+1),by lia,Xb,f,ys++[v],by simp[r],l,Qb⟩,λc H'⟨k,l⟩=>⟨xs.length - (i+1),by lia,Xb,f,ys,by lia,l,k⟩,λx H' y=>?_⟩
  obtain⟨e,y⟩:=y;subst e;exact t i x ys σ _ (y xs q) pv o
 ·have e:i=xs.length:=by lia
  subst e;exact .inl ⟨⟨xs,q,Gm _⟩,hd ys σ H r pv o⟩
theorem Qtb{X:Cx}{a b:T3}{pos:SX}{i j:Nat}(n:PE X a (V7 i))(hb:PE X b (V7 j)):PE X (.BoolOp .Or [a,b] pos) (λσ H Q=>∃x y,σ[i]?=Ga (Ga (.int x))/\σ[j]?=Ga (Ga (.int y))/\∀z:Int,Q (.int z) H):=by
 intro zq s σ H Q I h;obtain⟨x,y,h1,h2,q⟩:=h;refine BoolOp_or (Yq (n zq s σ H (λv H1=>v=.int x/\H1=H) I ⟨_,h1,Xb,Xb⟩) λv s1⟨o,H1,g,f,l,m⟩=>?_);subst l m;refine Yq (Qtr zq s1 σ H1 (.int x) v (λk H2=>H2=H1) g f ⟨_,Xb,Xb⟩) λc s2⟨H2,d,e⟩=>?_;subst e;cases c with
 |true=>exact⟨.int x,H2,d,f,q x⟩
 |false=>exact Qz2 hb zq s2 σ H2 Q d ⟨_,h2,q y⟩
theorem Q1v{T:Int->Prop}(k:(∀i,T i)->G)(h:∀i,T i):G:=k h
theorem Q3q{F T:Gc->Hp->Prop}(k:(∀a H,F a H->T a H)->G)(h:∀a H,F a H->T a H):G:=k h
theorem Qzy{A B:Prop}(k:A->B->G)(a:A)(b:B):G:=k a b
theorem Qwu(xs:List V)(h:0<xs.length):∃v,atI xs (-1)=Ga v/\xs[xs.length - 1]?=Ga v:=by
 have hi:xs.length - 1<xs.length:=by omega
 refine⟨_,?_,List.getElem?_eq_getElem hi⟩;unfold atI ixN;rw[Gi (by decide),Gn (by omega)];have e:((-1:Int)+(xs.length:Int)).toNat=xs.length - 1:=by omega
 rw[e];show xs[xs.length - 1]?=_;exact List.getElem?_eq_getElem hi
end L2
namespace Sb
open PySem PySem.Spec PyProof.Rows L2
variable{a f d wk:Gc}{H H':Hp}{D S:List Gc}{m:Nat}{ts:List Th}
def wfl(p:Gc)(n:Int):List (Ta×V):=[("places",.ref p),("steps",.int n)]
theorem Qwx(p:Gc)(n k:Int):Yi "steps" (.int k) (wfl p n)=wfl p k:=by
 have h:¬(("places":Ta)="steps"):=by decide+kernel
 simp only[wfl,Yi,Gi h,Su]
theorem Q0n(p:Gc):Yi "steps" (.int 0) (Yi "places" (.ref p) [])=wfl p 0:=by
 have h:¬(("places":Ta)="steps"):=by decide+kernel
 simp only[wfl,Yi,Gi h]
inductive Rg(CW:Gc)(H:Hp)(wk p:Gc):Prop
 |mk (dx:_) (n:_) (h0:H wk=Ga (.ins CW dx (wfl p n))):Rg CW H wk p
theorem Q3u{C b dx c p:Gc}{n:Int}:HO.ins C dx (Ib a f d)≠HO.ins b c (wfl p n):=by intro z;injection z with _ _ z;have:=congrArg List.length z;simp[Ib,wfl]at this
structure Nrw(H:Hp)(D S:List Gc)(m:Nat)(ts:List Th):Prop where
 at_:∀dn∈D,∃zw,H dn=Ga (.dT zw)/\zw.length<=m/\∀k v,Y2 zw k=Ga v->∃l∈S,v=.ref l
 ls:∀l∈S,∃es,H l=Ga (.lst es)/\es.length<=m/\∀e∈es,∃c v,∃(j:Nat)(t:Th),e=.ref c/\H c=Ga (.tup [v,jv j])/\Yl H v t/\ts[j]?=Ga t
theorem Nrw.keep{h:Nat}{a:List Th}(x:Nrw H D S m ts)(hd:∀d∈D,∀o,H d=Ga o->H' d=Ga o)(hl:∀l∈S,∀o,H l=Ga o->H' l=Ga o)(i:Qu H H')(b:∀(j:Nat)t,ts[j]?=Ga t->a[j]?=Ga t)(z:m<=h):Nrw H' D S h a:=by
 refine⟨λf g=>?_,λl hS=>?_⟩
 ·obtain⟨zw,h1,h2,p⟩:=x.at_ f g;exact⟨zw,hd f g _ h1,by omega,p⟩
 ·obtain⟨es,k,y,n⟩:=x.ls l hS;refine⟨es,hl l hS _ k,by omega,λe q=>?_⟩;obtain⟨c,v,j,t,r,s,u,w⟩:=n e q;exact⟨c,v,j,t,r,i _ _ s,u.Qm i,b j t w⟩
theorem Nrw.same(g:Q4 H H')(x:Nrw H D S m ts):Nrw H' D S m ts:=x.keep (λd _=>g d) (λl _=>g l) (Qu.of g) (λ_ _ h=>h) (Gm _)
theorem Nrw.mono{a:Nat}(x:Nrw H D S m ts)(h:m<=a):Nrw H D S a ts:=x.keep (λ_ _ _ h=>h) (λ_ _ _ h=>h) (λ_ _ h=>h) (λ_ _ h=>h) h
theorem Nrw.more{c:Gc}(x:Nrw H D S m ts)(hc:H c=Gh):Nrw (zj H c (.dT [])) (c::D) S m ts:=by
 have y:=x.same (Qg hc (.dT []));refine⟨λb a=>?_,y.ls⟩;rcases List.mem_cons.mp a with rfl|a
 ·exact⟨[],Qb,Gw _,λk v e=>by rw[Qdj]at e;cases e⟩
 ·exact y.at_ b a
structure Frw(a f d wk:Gc)(D D' S S':List Gc)(H H':Hp):Prop where
 keep:∀b o,H b=Ga o->b≠a->b≠f->b≠d->b≠wk->b∉D->b∉S->H' b=Ga o
 Qk8:∀b∈D',b∈D\/H b=Gh
 Qgv:∀b∈S',b∈S\/H b=Gh
 Qpy:∀b∈D,b∈D'
 Qo1:∀b∈S,b∈S'
 there:∀b,H' b=Gh->H b=Gh
theorem Frw.of(g:Q4 H H'):Frw a f d wk D D S S H H':=⟨λb o e _ _ _ _ _ _=>g b o e,λ_ h=>.inl h,λ_ h=>.inl h,λ_ h=>h,λ_ h=>h,λb h=>g.free h⟩
theorem Frw.trans{c g S1 S2:List Gc}{H1 H2:Hp}(x:Frw a f d wk D c S S1 H H1)(y:Frw a f d wk c g S1 S2 H1 H2):Frw a f d wk D g S S2 H H2:=by
 refine⟨λb o e h1 h2 i j k l=>y.keep b o (x.keep b o e h1 h2 i j k l) h1 h2 i j (λz=>?_) (λz=>?_),λb hb=>?_,λb hb=>?_,λb h=>y.Qpy b (x.Qpy b h),λb h=>y.Qo1 b (x.Qo1 b h),λb h=>x.there b (y.there b h)⟩
 ·rcases x.Qk8 b z with z|z
  ·exact k z
  ·rw[e]at z;cases z
 ·rcases x.Qgv b z with z|z
  ·exact l z
  ·rw[e]at z;cases z
 ·rcases y.Qk8 b hb with h|h
  ·exact x.Qk8 b h
  ·exact .inr (x.there b h)
 ·rcases y.Qgv b hb with h|h
  ·exact x.Qgv b h
  ·exact .inr (x.there b h)
theorem Frw.Qm{P:Gg}{w:Gs}{C c:Gc}{p:Gc}{g i:List Gc}(x:Frw a f d wk D g S i H H')(W:Rg c H wk p)(y:Pl P w C H p a f d ts)(z:Nrw H D S m ts):Qu H H':=λb xs e=>by
 obtain⟨us,l,_⟩:=y.th;obtain⟨q,j,_⟩:=y.fo;obtain⟨zw,n1,_⟩:=y.kn;obtain⟨dx,n,k⟩:=W;refine x.keep b _ e (Zi e l (by intro z;cases z)) (Zi e j (by intro z;cases z)) (Zi e n1.at_ (by intro z;cases z)) (Zi e k (by intro z;cases z)) (λhb=>?_) λhb=>?_
 ·obtain⟨o,h,_⟩:=z.at_ b hb;rw[e]at h;cases h
 ·obtain⟨es,h,_⟩:=z.ls b hb;rw[e]at h;cases h
theorem Qvw{H1 n:Hp}{f q:Gc}{k:List Xv}{zw:List (List Xv×V)}{G:V}(x:Nrw H D S m ts)(P:f∈D)(g:H f=Ga (.dT zw))(K:Q4 H H1)(M:H1 q=Gh)
  (i:(Y2 zw k=Ga G/\n=zj H1 q (.lst []))\/(Y2 zw k=Gh/\G=.ref q/\n=zj (zj H1 q (.lst [])) f (.dT (zw++[(k,.ref q)])))):
  ∃l S1,G=.ref l/\l∈S1/\Nrw n D S1 (m+1) ts/\(∀b∈S,b∈S1)/\(∀b∈S1,b∈S\/H b=Gh)/\(∀b o,H b=Ga o->b≠f->n b=Ga o)/\(∀b,n b=Gh->H b=Gh):=by
 have a:=K.trans (Qg M (.lst []));have F:H q=Gh:=K.free M;obtain⟨kvs',n1,n2,n3⟩:=x.at_ f P;rw[g]at n1;cases n1;rcases i with⟨R,rfl⟩|⟨Q,rfl,rfl⟩
 ·obtain⟨l,hl,rfl⟩:=n3 _ _ R;exact⟨l,S,Xb,hl,x.keep (λd _=>a d) (λl _=>a l) (Qu.of a) (λ_ _ h=>h) (EF _),λ_ h=>h,λ_ h=>.inl h,λb o e _=>a _ _ e,λb h=>a.free h⟩
 ·have r:=a _ _ g;have w:(zj H1 q (.lst [])) q=Ga (.lst []):=Qb;have E:q≠f:=Zi w r (by intro z;cases z);have Y:Qu (zj H1 q (.lst [])) (zj (zj H1 q (.lst [])) f (.dT (zw++[(k,.ref q)]))):=Zs λxs e=>by rw[r]at e;cases e
  have A:Qu H (zj (zj H1 q (.lst [])) f (.dT (zw++[(k,.ref q)]))):=λb xs e=>Y b xs (a _ _ e);refine⟨q,q::S,Xb,List.mem_cons_self,⟨λI s=>?_,λl hl=>?_⟩,λb hb=>List.mem_cons_of_mem _ hb,λb hb=>?_,λb o e hb=>by rw[Qf hb];exact a _ _ e,λb hb=>?_⟩
  ·by_cases u:I=f
   ·subst u;refine⟨_,Qb,by rw[List.length_append,List.length_singleton];lia,λy Z e=>?_⟩;rw[Qan (κ:=List Xv) k y _ zw Q]at e;by_cases L:y=k
    ·rw[Gn L]at e;cases e;exact⟨q,List.mem_cons_self,Xb⟩
    ·rw[Gi L]at e;obtain⟨l,hl,B⟩:=n3 _ _ e;exact⟨l,List.mem_cons_of_mem _ hl,B⟩
   ·obtain⟨X,h1,h2,O⟩:=x.at_ I s;refine⟨X,by rw[Qf u];exact a _ _ h1,by lia,λy Z e=>?_⟩;obtain⟨l,hl,B⟩:=O _ _ e;exact⟨l,List.mem_cons_of_mem _ hl,B⟩
  ·rcases List.mem_cons.mp hl with rfl|hl
   ·exact⟨[],by rw[Qf E];exact w,Gw _,λe C=>nomatch C⟩
   ·obtain⟨es,J,B,N⟩:=x.ls l hl;refine⟨es,?_,by lia,λe C=>?_⟩
    ·rw[Qf (Zi J g (by intro z;cases z))];exact a _ _ J
    ·obtain⟨c,v,j,t,T,y,U,W⟩:=N e C;exact⟨c,v,j,t,T,A _ _ y,U.Qm A,W⟩
  ·rcases List.mem_cons.mp hb with rfl|hb
   ·exact .inr F
   ·exact .inl hb
  ·by_cases p:b=f
   ·subst p;rw[Qb]at hb;cases hb
   ·rw[Qf p]at hb;exact a.free hb
inductive Qft(CW:Gc)(vs:List V)(H:Hp)(Q:VK):Prop
 |mk (wk:Gc) (dx:Gc) (p:Gc) (h0:vs=[.ref wk,.ref p]) (h1:H wk=Ga (.ins CW dx [])) (h2:∀H',Rg CW H' wk p->(∀b o,H b=Ga o->b≠wk->H' b=Ga o)->(∀b,H' b=Gh->H b=Gh)->Q .non H'):Qft CW vs H Q
def Qjb(a:Gc):Sp:=λvs H Q _=>Qft a vs H Q
inductive Qkl(vs:List V)(H:Hp)(Q:VK):Prop
 |mk (l:Gc) (v:V) (t:Th) (es:List V) (ts:List Th) (h0:vs=[.ref l,v]) (h1:H l=Ga (.lst es)) (h2:(∀e∈es,∃c v,∃(j:Nat)(t:Th),e=.ref c/\H c=Ga (.tup [v,jv j])/\Yl H v t/\ts[j]?=Ga t)) (h3:(∀t∈ts,t.ok=Gf/\t.depth<=50)) (h4:Yl H v t) (h5:t.ok=Gf) (h6:t.depth<=50) (h7:(∀j:Nat,ts[j]?=Ga t->Q (jv j) H)) (h8:Q .non H):Qkl vs H Q
def Qhc:Sp:=λvs H Q _=>Qkl vs H Q
inductive Qi0(vs:List V)(H:Hp)(Q:VK):Prop
 |mk (i:Int) (j:Int) (h0:vs=[.int i,.int j]) (h1:j<1000000) (h2:∀r:Int,Q (.int r) H):Qi0 vs H Q
def Qgt:Sp:=λvs H Q _=>Qi0 vs H Q
inductive Qnj(P:Gg)(w:Gs)(C:Gc)(CW:Gc)(n:Nat)(vs:List V)(H:Hp)(Q:VK):Prop
 |mk (wk:Gc) (p:Gc) (dn:Gc) (v:V) (sp:Int) (t:Th) (a:Gc) (f:Gc) (d:Gc) (D:List Gc) (S:List Gc) (m:Nat) (ts:List Th) (h0:vs=[.ref wk,v,.ref dn,.int sp]) (h1:Rg CW H wk p) (h2:Pl P w C H p a f d ts) (h3:Nrw H D S m ts) (h4:dn∈D) (h5:a∉S) (h6:f∉S) (h7:Yl H v t) (h8:t.ok=Gf) (h9:t.depth<=n) (h10:t.depth<=50) (h11:m+2*t.size<=1000000) (h12:ts.length+t.size<=1000000) (h13:∀(j:Nat)(D' S':List Gc)(H':Hp),Rg CW H' wk p->Pl P w C H' p a f d (Yr ts t.inside)->Nrw H' D' S' (m+2*t.size) (Yr ts t.inside)->(Yr ts t.inside)[j]?=Ga t->Frw a f d wk D D' S S' H H'->Q (jv j) H'):Qnj P w C CW n vs H Q
def Qar(P:Gg)(w:Gs)(C a:Gc)(n:Nat):Sp:=λvs H Q _=>Qnj P w C a n vs H Q
theorem W8:∀(l:List Th)(i:Nat),Qw (l.take i)<=Qw l
 |[],_=>by simp
 |x::l,0=>by simp[Qw]
 |x::l,i+1=>by have:=W8 l i;simp only[List.take_succ_cons,Qw];lia
theorem Qg0(ps:List Th)(i:Nat)(t:Th)(h:ps[i]?=Ga t):Za (ps.take (i+1))=Za (ps.take i)++t.inside:=by rw[List.take_add_one,h,Xn,List.flatMap_append,<-Xn];simp
theorem Rp:∀(ps:List Th)(i:Nat)(t:Th),ps[i]?=Ga t->Qw (ps.take (i+1))=Qw (ps.take i)+t.size
 |[],_,_,h=>by simp at h
 |x::r,0,t,h=>by simp at h;subst h;simp[Qw]
 |x::r,i+1,t,h=>by have:=Rp r i t (by simpa using h);simp only[List.take_succ_cons,Qw]at this⊢;lia
theorem Qcp{acc xs:List Th}{j:Nat}{t:Th}(h:acc[j]?=Ga t):(Yr acc xs)[j]?=Ga t:=by obtain⟨m,e⟩:=Vj xs acc;rw[e,List.getElem?_append_left (List.getElem?_eq_some_iff.mp h).1];exact h
end Sb
namespace L2
open PySem PySem.Spec PyProof.Rows
inductive Qf2(x:V)(vs:List V)(H:Hp)(Q:VK):Prop
 |mk (d:_) (b:_) (dv:_) (zw:_) (k:_) (h0:x=.ref d) (h1:vs=[.ref b,dv]) (h2:H d=Ga (.dT zw)) (h3:H b=Ga (.tup (k.map kV))) (h4:zw.length<Gj) (h5:∀v H',((Y2 zw k=Ga v/\H'=H)\/(Y2 zw k=Gh/\v=dv/\H'=zj H d (.dT (zw++[(k,dv)]))))->Q v H'):Qf2 x vs H Q
def Qs3:V->List V->Hp->VK->Prop:=λx vs H Q=>Qf2 x vs H Q
theorem Qk0{X:Cx}(l:X.A.units+1<DR):MtR X "dict.setdefault" Qs3:=by intro zq s σ H x vs v us Q I n rv h;obtain⟨d,b,a,zw,k,c,e,f,g,i,q⟩:=h;exact Qp3 l zq s σ H x vs v us Q I n rv ⟨d,b,a,zw,k,c,e,f,g,i,λv m=>q v H (.inl ⟨m,Xb⟩),λj=>q a _ (.inr ⟨j,Xb,Xb⟩)⟩
end L2
namespace Sb
open PySem L2
abbrev KI(K:Gd)(f:Gc):Prop:=TY K (.ref f)=Gf
abbrev MG(mg:Ta->Option Value)(x:Ta)(f:Gc):Prop:=mg x=Ga (.ref f)
end Sb
namespace K05
open PySem L2 Sb
variable{f C f0 CW:Gc}{fd:Ts}
structure Jr(mg:Ta->Option Value):Prop where
 len:mg "len"=Gh
 list:mg "list"=Gh
 tuple:mg "tuple"=Gh
 range:mg "range"=Gh
 reversed:mg "reversed"=Gh
 enumerate:mg "enumerate"=Gh
 zip:mg "zip"=Gh
 sorted:mg "sorted"=Gh
theorem Rk(x:V)(vs:List V):atI (x::vs) (0:Int)=Ga x:=Qz (xs:=x::vs) (j:=0) rfl
def Qx0(t:Th):List Xv:=(Qcj t).map SN
theorem Qwp(t:Th):(Qx0 t).map kV=(Qcj t).map V.str:=by unfold Qx0;rw[List.map_map];rfl
inductive Qtt(vs:List V)(H:Hp)(Q:VK):Prop
 |mk (v:V) (t:Th) (h0:vs=[v]) (h1:Yl H v t) (h2:t.size<=1000000) (h3:∀(r:Gc)(H':Hp),Q4 H H'->H' r=Ga (.tup ((Qx0 t).map kV))->Q (.ref r) H'):Qtt vs H Q
def Qq0:Sp:=λvs H Q _=>Qtt vs H Q
section
variable{P:Gg}{w:Gs}{K:Gd}{mg:Ta->Option Value}{base:Heap}
theorem Q2h:Qx ["thing"] ["thing"] (Ql Qw7):=by eq_refl
theorem Q0e(F:Wd K "top_words" "top_words" Qw7 f fd)(B:Jr mg):Qs P w K mg base Z4 1 f fd ["thing"] Qq0:=by
 refine F.ok Q2h (λvs H Q E h=>?_) (λcdv A outer s H vs Q E T h=>?_)
 ·obtain⟨v,t,rfl,_⟩:=h;rfl
 subst_vars;obtain⟨v,t,rfl,L,hsz,q⟩:=h;obtain⟨a,wd,vs,ps,rfl,rfl,z,d⟩:=L.inv;and_intros;refine⟨_,Qh (Qv (Xr Vh rfl B.tuple TX (Qa (Zo Ul (Zt (Qa (Qo Q5 (pv 0) Qk) Qe))
  (Vx (own:=["part"]) (fv:=[]) rfl (S:=(by eq_refl:Wh (Ql Qw7) _)) .nil (Uo (Yu Rz (pv 0) (Yy Qk) Xx))
   (λ_ _ _ _ _=>Xe (i:=0) (nd1 _) rfl (Di Xb) (Es Xb)) (λ_ _ _ _ _=>Ww) (λ_ _ _ _ _=>Qo (r:=Qxk K) Q5 (pv 0) Qk (λ_ _=>rfl)))) Qe))),?_⟩
 simp only[Th.size]at hsz;have N:=Zz ps;have y:=d.length;refine⟨_,Xb,a,_,_,.str wd,Xb,Xb,Z2.of z,Rk _ _,by show 1<=Gj;decide,λl hl=>?_⟩;have s1:=Qg hl (.lst [.str wd]);refine⟨_,Xb,_,Xb,a,_,Xb,Z2.of (s1 _ _ z),Ub _ _,λr k=>?_⟩;rw[Qjo];have s2:=Qg k (.tup vs);refine⟨r,Xb,⟨_,Z2.of Qb⟩,λp C=>?_⟩;have D:=Qg C (.lst []);have O:=(s1.trans s2).trans D;refine Ju (K:=K) (a:=r) (xs:=vs) (small (by lia)) (λi ys σ H2=>(∃G,σ=[G])/\Q4 (zj (zj H l (.lst [.str wd])) r (.tup vs)) H2/\ys=(ps.take i).map λt=>V.str t.word)
  ⟨⟨_,Xb⟩,D,by simp⟩ (λi ys σ H2 _ h=>Z2.of (h.2.1 _ _ Qb)) ?_ ?_
 ·rintro i x ys σ H2 hi u ⟨⟨G,rfl⟩,g,rfl⟩ j;subst_vars;obtain⟨t,n,M⟩:=d.get hi;obtain⟨b,R,us,U,rfl,rfl,hb,_⟩:=M.inv;and_intros;refine⟨_,Xb,b,_,_,.str R,Xb,Xb,Z2.of (g _ _ (s2 _ _ (s1 _ _ hb))),Rk _ _,j,⟨_,Xb⟩,λc o e=>?_,?_⟩
  ·rw[Qf (Qc e C)];exact g _ _ e
  ·rw[List.take_add_one,n,List.map_append];rfl
 ·rintro ys σ H2 u ⟨_,g,rfl⟩ j;have e:ps.take vs.length=ps:=by rw[y,List.take_length]
  rw[e]at j;have I:=g _ _ (s2 _ _ (@Qb H l (.lst [.str wd])));refine⟨l,p,_,_,Xb,Xb,I,j,small (by rw[List.length_map,List.length_singleton];lia),λc hc=>?_⟩;refine⟨c,_,Xb,.inl ⟨Zd.of Qb,λm J=>?_⟩⟩;refine q m _ ((((s1.trans s2).trans g).trans (Qg hc _)).trans (Qg J _)) ?_;rw[Qb,Qwp];simp[Qcj,Th.word,Th.parts]
end
theorem n1:¬(("things":Ta)="forms"):=by decide+kernel
theorem n2:¬(("things":Ta)="known"):=by decide+kernel
theorem n3:¬(("forms":Ta)="known"):=by decide+kernel
theorem Qxz(a f d:Gc):Yi "known" (.ref d) (Yi "forms" (.ref f) (Yi "things" (.ref a) []))=Ib a f d:=by simp only[Yi,Gi n1,Gi n2,Gi n3,Ib]
theorem Qf1(a f d:Gc):(Ib a f d).lookup ("things":Ta)=Ga (.ref a):=by rfl
theorem Quv(a f d:Gc):(Ib a f d).lookup ("forms":Ta)=Ga (.ref f):=by rfl
theorem R6(a f d:Gc):(Ib a f d).lookup ("known":Ta)=Ga (.ref d):=by rfl
theorem Qv8(a f d:Gc):(Ib a f d).lookup ("place_by_form":Ta)=Gh:=by rfl
structure Qev(K:Gd)(mg:Ta->Option Value)(C:Gc):Prop where
 cl:Cls K C
 nT:Yp K C "things"
 nF:Yp K C "forms"
 nN:Yp K C "known"
 mgC:mg "Places"=Ga (.ref C)
section
variable{P:Gg}{w:Gs}{K:Gd}{mg:Ta->Option Value}{base:Heap}
theorem Qty:Qx ["self"] ["self"] (Ql Om):=by eq_refl
theorem Qqg(F:Wd K "__init__" "Places.__init__" Om f fd)(T:Qev K mg C):Qs P w K mg base Z4 1 f fd ["self"] (Qjw P w C):=by
 refine F.ok Qty (λvs H Q E h=>?_) (λcdv A outer s H vs Q E L h=>?_)
 ·obtain⟨p,dx,rfl,_⟩:=h;rfl
 obtain⟨p,dx,rfl,y,q⟩:=h;show∃t,Z7 ?mysPlInit _ t/\_;let J:Subtype (Z7 ?mysPlInit ((Qj Om).drop 2)):=⟨_,Qh (Yw (pv 0) Oc Xb)⟩
 let I:Subtype (Z7 ?mysPlInit ((Qj Om).drop 1)):=⟨_,Qd (Yw (pv 0) (Zt Qe) rfl) J.2⟩
 refine⟨_,Qd (Yw (pv 0) (Zt Qe) rfl) I.2,?_⟩;refine⟨Gw _,λa B=>?_⟩;have c:p≠a:=Qc y B;refine⟨_,Xb,p,C,dx,[],Xb,(by rw[Qf c];exact y),T.cl,T.nT,by show 0<1000;decide,Gw _,λf n=>?_⟩;have g:p≠f:=Qc Qb n;have i:a≠f:=Qc (o:=.lst []) (by rw[Qf (Gp c),Qb]) n;refine⟨_,Xb,p,C,dx,_,Xb,(by rw[Qf g,Qb]),T.cl,T.nF,by show 1<1000;decide,λd hd=>?_⟩;have l:p≠d:=Qc Qb hd;have x:f≠d:=Qc (o:=.lst []) (by rw[Qf (Gp g),Qb]) hd;have u:a≠d:=Qc (o:=.lst []) (by rw[Qf (Gp c),Qf i,Qf (Gp c),Qb]) hd;refine⟨_,Xb,p,C,dx,_,Xb,(by rw[Qf l,Qb]),T.cl,T.nN,by show 2<1000;decide,?_⟩;refine q a f d _ ⟨⟨dx,?_⟩,⟨[],?_,.nil⟩,⟨[],?_,.nil⟩,⟨[],⟨?_,λp y=>nomatch y⟩,Gm _,λj t e=>?_,λk v e=>?_⟩,i,List.nodup_nil,Ql1,λt G=>by simp at G⟩ (λb o e hb=>?_) B ?_ ?_
 ·rw[Qb,Qxz]
 ·rw[Qf (Gp c),Qf u,Qf (Gp c),Qf i,Qf (Gp c),Qb]
 ·rw[Qf (Gp g),Qf x,Qf (Gp g),Qb]
 ·rw[Qf (Gp l),Qb];rfl
 ·simp at e
 ·simp[Yf]at e
 ·have m:b≠a:=Qc e B;have r:b≠f:=λz=>by subst z;rw[Qf hb,Qf m,e]at n;cases n
  have D:b≠d:=λz=>by subst z;rw[Qf hb,Qf r,Qf hb,Qf m,e]at hd;cases hd
  rw[Qf hb,Qf D,Qf hb,Qf r,Qf hb,Qf m];exact e
 ·rw[Qf (Gp g),Qf (Gp i)]at n;exact n
 ·rw[Qf (Gp l),Qf (Gp x),Qf (Gp l),Qf (Gp u)]at hd;exact hd
theorem Qqx:Qx ["self","thing","form"] ["self","thing","form"] (Ql Qhn):=by eq_refl
theorem Qzk{P:Gg}{w:Gs}{H:Hp}{p a d:Gc}{ts:List Th}{zw:List KE}{t:Th}(x:Pl P w C H p a f d ts)(i:∀q∈t.parts,q∈ts)(c:∀(j:Nat)t,ts[j]?=Ga t->Yf zw (Y1 (fm ts t))=Ga (jv j))(g:∀k v,Yf zw k=Ga v->∃t∈ts,k=Y1 (fm ts t)):
  (Yf zw (Y1 (fm ts t))).isSome=decide (t∈ts):=by
 by_cases h:t∈ts
 ·rw[GX h,c _ t (Ip h)];rfl
 ·rw[Gz h];cases e:Yf zw (Y1 (fm ts t))with
  |none=>rfl
  |some v=>exfalso;obtain⟨s,b,es⟩:=g _ _ e;exact h (Ql4 i (Xq x.cl b) (U2 es)▸b)
theorem Q0l{P:Gg}{w:Gs}{H:Hp}{p a d c:Gc}{ts:List Th}{zw:List KE}{us E:List V}{v:V}{t:Th}(x:Pl P w C H p a f d ts)(o:DH P w H d zw)(hl:zw.length<=ts.length)(G:∀(j:Nat)t,ts[j]?=Ga t->Yf zw (Y1 (fm ts t))=Ga (jv j))(I:∀k v,Yf zw k=Ga v->∃t∈ts,k=Y1 (fm ts t))
  (n:H a=Ga (.lst us))(L:Zq H us ts)(hw:H f=Ga (.lst E))(M:Paired (Ra H) E (ts.map (fm ts)))(T:Yl H v t)(ok:t.ok=Gf)(dp:t.depth<=50)(A:∀q∈t.parts,q∈ts)(hc:Ra H (.ref c) (fm ts t))(new:¬t∈ts):
  Pl P w C (zj (zj (zj H d (Ut P w d (Wy zw (Y1 (fm ts t)) c (jv ts.length)))) a (.lst (us++[v]))) f (.lst (E++[.ref c]))) p a f d (ts++[t]):=by
 obtain⟨dx,B⟩:=x.ob;have N:d≠a:=Zi o.at_ n (by intro z;cases z);have O:d≠f:=Zi o.at_ hw (by intro z;cases z);have X:p≠d:=Zi B o.at_ (by intro z;cases z);have W:p≠a:=Zi B n (by intro z;cases z);have Y:p≠f:=Zi B hw (by intro z;cases z);have D:Qu H (zj (zj (zj H d (Ut P w d (Wy zw (Y1 (fm ts t)) c (jv ts.length)))) a (.lst (us++[v]))) f (.lst (E++[.ref c]))):=λb xs e=>by rw[Qf (Zi e hw (by intro z;cases z)),Qf (Zi e n (by intro z;cases z)),Qf (Zi e o.at_ (by intro z;cases z))];exact e
 have Z:Yf zw (Y1 (fm ts t))=Gh:=by
  have:=Qzk x A G I;rw[Gz new]at this;cases e:Yf zw (Y1 (fm ts t))with
  |none=>rfl
  |some u=>rw[e]at this;cases this
 have U:Qat H c (Y1 (fm ts t)):=hc.key (by cases t;simp only[Th.ok,Tn]at ok;exact ok.1);have m:∀s∈ts,fm (ts++[t]) s=fm ts s:=λs g=>Qlm (Xq x.cl g);have i:fm (ts++[t]) t=fm ts t:=Qlm A;refine⟨⟨dx,?_⟩,⟨_,?_,(L.append (.one T)).Qm D⟩,⟨_,Qb,?_⟩,⟨Wy zw (Y1 (fm ts t)) c (jv ts.length),⟨?_,Zg D (o.keys.put U)⟩,?_,λj s e=>?_,λk y e=>?_⟩,x.af,?_,?_,?_⟩
 ·rw[Qf Y,Qf W,Qf X];exact B
 ·rw[Qf x.af,Qb]
 ·have Q:(ts++[t]).map (fm (ts++[t]))=ts.map (fm ts)++[fm ts t]:=by rw[List.map_append,List.map_congr_left m,List.map_cons,List.map_nil,i]
  rw[Q];exact Ys (L2.Paired.Ya M λ_ _ h=>h.Qm D) (.cons (hc.Qm D) .nil)
 ·rw[Qf O,Qf N,Qb]
 ·have:=Qds zw (Y1 (fm ts t)) c (jv ts.length);rw[List.length_append,List.length_singleton];lia
 ·rw[Jy];rcases Tk j ts.length with F|F
  ·rw[List.getElem?_append_left F]at e;have g:=List.mem_of_getElem? e;rw[m s g,Gi (λz=>new (Ql4 (Xq x.cl g) A (U2 z)▸g))];exact G j s e
  ·rw[List.getElem?_append_right F]at e;have R:j - ts.length=0:=by have:=(List.getElem?_eq_some_iff.mp e).1;simp at this;lia
   rw[R]at e;simp at e;subst e;have:j=ts.length:=by lia
   subst this;rw[i,Gn rfl]
 ·rw[Jy]at e;by_cases J:k=Y1 (fm ts t)
  ·exact⟨t,by simp,by rw[i];exact J⟩
  ·rw[Gi J]at e;obtain⟨s,g,es⟩:=I _ _ e;exact⟨s,List.mem_append_left _ g,by rw[m s g];exact es⟩
 ·rw[List.nodup_append];refine⟨x.nd,by simp,λs g u n=>?_⟩;simp at n;subst n;exactλz=>new (z▸g)
 ·intro s g r l;rcases List.mem_append.mp g with g|g
  ·exact List.mem_append_left _ (x.cl s g r l)
  ·simp at g;subst g;cases s with
   |mk w0 ps=>
    simp only[Th.inside,List.mem_append,List.mem_singleton]at l;rcases l with l|l
    ·rw[Xn,List.mem_flatMap]at l;obtain⟨K,S,l⟩:=l;exact List.mem_append_left _ (x.cl K (A K S) r l)
    ·subst l;simp
 ·intro s g;rcases List.mem_append.mp g with g|g
  ·exact x.ok s g
  ·simp at g;subst g;exact⟨ok,dp⟩
theorem Qpx(F:Wd K "place_by_form" "Places.place_by_form" Qhn f0 fd)(T:Qev K mg C)(B:Jr mg):Qs P w K mg base Z4 1 f0 fd ["self","thing","form"] (Qdp P w C):=by
 refine F.ok Qqx (λvs H Q E h=>?_) (λcdv A outer s H vs Q E hr h=>?_)
 ·obtain⟨p,c,v,t,a,f,d,ts,rfl,_⟩:=h;rfl
 obtain⟨p,c,v,t,a,f,d,ts,rfl,x,hv,ok,dp,U,hc,hl,q⟩:=h;have V:=hr.units;refine⟨_,Qd (Zn (Qr (Qda V) (pv 2) (Qn (pv 0) rfl) rfl)
   (Qd (Qaw (Qp Zc rfl B.len GO (Qa (Qn (pv 0) rfl) Qe)) (Qcd (Qn (pv 0) rfl) (pv 2) (Qd3 V)))
   (Qd (Ze (Xw Gu GF GV Z0 (Qn (pv 0) rfl) (Qa (pv 1) Qe)))
   (Qh (Ze (Xw Gu GF GV Z0 (Qn (pv 0) rfl) (Qa (pv 2) Qe)))))) Q7)
  (Qh (Qv (Qo (Ux V) (Qn (pv 0) rfl) (pv 2)))),?_⟩
 subst_vars;obtain⟨dx,k⟩:=x.ob;obtain⟨us,J,u2⟩:=x.th;obtain⟨R,O,w2⟩:=x.fo;obtain⟨zw,D,kl,W,k4⟩:=x.kn;and_intros;have Y:Qat H c (Y1 (fm ts t)):=hc.key (by cases t;simp only[Th.ok,Tn]at ok;exact ok.1);have ul:=u2.length;have wl:R.length=ts.length:=by rw[Gr w2,List.length_map]
 refine⟨_,Xb,_,Xb,p,C,dx,_,_,Xb,k,T.cl,T.nN,R6 _ _ _,c,d,Y1 (fm ts t),zw,Xb,Xb,D,Y,_,Xb,?_⟩;rw[Qzk x U W k4];by_cases i:t∈ts
 ·rw[GX i];refine Zp ?_;have e:=q (ts.idxOf t) H (by rw[Gn i];exact x) (by rw[Gn i];exact Ip i) Fr3.refl;exact⟨_,Xb,p,C,dx,_,_,Xb,k,T.cl,T.nN,R6 _ _ _,_,Xb,d,c,Y1 (fm ts t),zw,_,Xb,Xb,D,Y,W _ t (Ip i),e⟩
 ·rw[Gz i];refine Yv ?_;have fin:=Q0l (c:=c) x D kl W k4 J u2 O w2 hv ok dp U hc i;have da:d≠a:=Zi D.at_ J (by intro z;cases z);have df:d≠f:=Zi D.at_ O (by intro z;cases z);have pd:p≠d:=Zi k D.at_ (by intro z;cases z);have pa:p≠a:=Zi k J (by intro z;cases z);have pf:p≠f:=Zi k O (by intro z;cases z);have e1:(us.length:Int)=((ts.length:Nat):Int):=by rw[ul]
  refine⟨_,Xb,p,C,dx,_,_,Xb,k,T.cl,T.nT,Qf1 _ _ _,a,us,Xb,.inl (Zd.of J),_,Xb,p,C,dx,_,_,Xb,k,T.cl,T.nN,R6 _ _ _,_,Xb,d,c,Y1 (fm ts t),zw,Xb,Xb,D,Y,by rw[GQ];lia,?_⟩;have L:(zj H d (Ut P w d (Wy zw (Y1 (fm ts t)) c (.int us.length)))) a=Ga (.lst us):=by rw[Qf (Gp da)];exact J
  have I:(zj H d (Ut P w d (Wy zw (Y1 (fm ts t)) c (.int us.length)))) p=Ga (.ins C dx (Ib a f d)):=by rw[Qf pd];exact k
  refine⟨_,Xb,p,C,dx,_,_,Xb,I,T.cl,T.nT,Qf1 _ _ _,.inl ⟨Xb,_,Zd.of L⟩,_,Xb,a,us,_,Xb,Xb,L,by rw[GQ];lia,?_⟩;have o2:(zj (zj H d (Ut P w d (Wy zw (Y1 (fm ts t)) c (.int us.length)))) a (.lst (us++[v]))) p=Ga (.ins C dx (Ib a f d)):=by rw[Qf pa];exact I
  have M:(zj (zj H d (Ut P w d (Wy zw (Y1 (fm ts t)) c (.int us.length)))) a (.lst (us++[v]))) f=Ga (.lst R):=by rw[Qf (Gp x.af),Qf (Gp df)];exact O
  refine⟨_,Xb,p,C,dx,_,_,Xb,o2,T.cl,T.nF,Quv _ _ _,.inl ⟨Xb,_,Zd.of M⟩,_,Xb,f,R,_,Xb,Xb,M,by rw[GQ];lia,?_⟩;rw[e1];have fr:Fr3 a f d H (zj (zj (zj H d (Ut P w d (Wy zw (Y1 (fm ts t)) c (jv ts.length)))) a (.lst (us++[v]))) f (.lst (R++[.ref c]))):=⟨λb o e h1 h2 h3=>by rw[Qf h2,Qf h1,Qf h3];exact e,λb hb=>by
    by_cases u:b=f
    ·subst u;rw[Qb]at hb;cases hb
    ·rw[Qf u]at hb;by_cases n:b=a
     ·subst n;rw[Qb]at hb;cases hb
     ·rw[Qf n]at hb;by_cases r:b=d
      ·subst r;rw[Qb]at hb;cases hb
      ·rw[Qf r]at hb;exact hb⟩
  have tn:fm (ts++[t]) t=fm ts t:=Qlm U;have G:(ts++[t])[ts.length]?=Ga t:=by simp
  have m:∀l,Pl P w C l p a f d (ts++[t])->Fr3 a f d H l->∃j g,l p=Ga (.ins C j (Ib a f d))/\DH P w l d g/\Qat l c (Y1 (fm ts t))/\Yf g (Y1 (fm ts t))=Ga (jv ts.length):=λl y fr=>by obtain⟨j,o3⟩:=y.ob;obtain⟨g,S,_,X,_⟩:=y.kn;have N:=X ts.length t G;rw[tn]at N;exact⟨j,g,o3,S,(hc.Qm (fr.Qm x)).key (by cases t;simp only[Th.ok,Tn]at ok;exact ok.1),N⟩
  subst_vars;obtain⟨j,g,o3,S,Z,N⟩:=m _ fin fr;and_intros;exact⟨_,Xb,p,C,j,_,_,Xb,o3,T.cl,T.nN,R6 _ _ _,_,Xb,d,c,Y1 (fm ts t),g,_,Xb,Xb,S,Z,N,q ts.length _ (by rw[Gi i];exact fin) (by rw[Gi i];exact G) fr⟩
end
structure Quo(K:Gd)(mg:Ta->Option Value)(CW:Gc):Prop where
 cl:Cls K CW
 nP:Yp K CW "places"
 nS:Yp K CW "steps"
 mgC:mg "Walk"=Ga (.ref CW)
 few:∃u,mg "FEW_PARTS"=Ga u/\RelV (.int 4) u
 walks:∃u,mg "WALKS_ANEW"=Ga u/\RelV (.int 1024) u
 steps:∃u,mg "STEPS_ANEW"=Ga u/\RelV (.int 40000) u
theorem Qo9(p:Gc)(n:Int):(wfl p n).lookup ("places":Ta)=Ga (.ref p):=by rfl
theorem Qd9(p:Gc)(n:Int):(wfl p n).lookup ("steps":Ta)=Ga (.int n):=by rfl
theorem Qfp(p:Gc)(n:Int):(wfl p n).lookup ("place_within":Ta)=Gh:=by rfl
section
variable{P:Gg}{w:Gs}{K:Gd}{mg:Ta->Option Value}{base:Heap}
theorem Qv3:Qx ["spare","inner"] ["spare","inner"] (Ql Qmp):=by eq_refl
theorem Qu6(F:Wd K "share_of" "share_of" Qmp f0 fd):Qs P w K mg base Z4 1 f0 fd ["spare","inner"] Qgt:=by
 refine F.ok Qv3 (λvs H Q E h=>?_) (λcdv A outer s H vs Q E b h=>?_)
 ·obtain⟨i,j,rfl,_⟩:=h;rfl
 obtain⟨i,j,rfl,a,q⟩:=h;refine⟨_,Qd (Zn (PW.pt (Ov (Qr R9 (pv 1) Qk (Q3 _)) (R1 (Qr R9 (Zo Wa (pv 0) (pv 1)) (Zo Qc0 (pv 1) Qk) (Q3 _))))) (Qh (Qv Qk)) Q7)
  (Qh (Qv (Zo Wa (pv 0) (pv 1)))),?_⟩
 refine⟨_,Xb,_,_,Xb,Xb,_,Xb,?_⟩;by_cases h2:j<2
 ·rw[GX h2];exact Yv (Yv (q 0))
 ·rw[Gz h2];have hd:Q22 i j:=⟨by omega,by omega⟩;refine Zp ⟨_,Xb,_,Xb,_,_,Xb,Xb,hd,_,Xb,_,_,Xb,Xb,_,_,Xb,Xb,_,Xb,?_⟩;refine Vl (λ_=>q 0) (λ_=>?_);exact⟨_,Xb,_,Xb,_,_,Xb,Xb,hd,q _⟩
theorem Qof:Qx ["met","thing","twin","place"] ["met","thing"] (Ql Qld):=by eq_refl
theorem Qva(F:Wd K "place_among" "place_among" Qld f0 fd)(B:Jr mg):Qs P w K mg base Z4 1 f0 fd ["met","thing"] Qhc:=by
 refine F.ok Qof (λvs H Q E h=>?_) (λcdv A outer s H vs Q E r h=>?_)
 ·obtain⟨l,v,t,es,ts,rfl,_⟩:=h;rfl
 obtain⟨l,v,t,es,ts,rfl,hl,g,k,u,Zw,q,z,C⟩:=h;have x:=r.units;have nd:=Qof.nd;refine⟨_,Qd (Yg Gy rfl (Qxi rfl B.reversed (Qa (pv 0) Qe)) (Vr rfl (Zl (Yc 2 nd) (Zl (Yc 3 nd) Wb)))
   (Qh (Zn (Qr (Ql3 x) (pv 2) (pv 1) (Q3 _)) (Qh (Qv (pv 3))) Q7)))
  (Qh (Qv Ur)),?_⟩
 refine⟨_,Xb,l,es,Xb,Zd.of hl,Qrp (K:=K) (a:=l) (xs:=es) (λi σ f=>f=H/\∃o p,σ=[Ga (.ref l),Ga v,o,p])
  ⟨Xb,_,_,Xb⟩ (by rintro i σ f _ ⟨e,_⟩;rw[e];exact Zd.of hl) ?_ ?_⟩
 ·rintro i y σ f hi ⟨rfl,o,p,rfl⟩;subst_vars;obtain⟨c,G,j,D,rfl,hc,m,n⟩:=g y (List.mem_reverse.mp (List.mem_of_getElem? hi));and_intros;have d:=k _ (List.mem_of_getElem? n);refine⟨c,_,Xb,Z2.of hc,Xb,G,_,Xb,jv j,_,Xb,Xb,_,Xb,_,Xb,_,_,m.dt,u.dt,J0 _ d.1,J0 _ Zw,?_,_,Xb,?_⟩
  ·rw[Wl,Wl];have:=d.2;lia
  rw[Qop];by_cases b:D=t
  ·subst b;rw[GX rfl];exact Yv ⟨_,Xb,z j n⟩
  ·rw[Gz b];exact Zp ⟨Xb,_,_,Xb⟩
 ·rintro σ f ⟨rfl,_⟩;exact C
theorem Quf:Qx ["self","places"] ["self","places"] (Ql Qgp):=by eq_refl
theorem Qo8(F:Wd K "__init__" "Walk.__init__" Qgp f0 fd)(T:Quo K mg CW):Qs P w K mg base Z4 1 f0 fd ["self","places"] (Qjb CW):=by
 refine F.ok Quf (λvs H Q E h=>?_) (λcdv A outer s H vs Q E c h=>?_)
 ·obtain⟨a,dx,p,rfl,_⟩:=h;rfl
 obtain⟨a,dx,p,rfl,hw,q⟩:=h;refine⟨_,Qd (Yw (pv 0) (pv 1) rfl) (Qh (Yw (pv 0) Qk Xb)),?_⟩;refine⟨_,Xb,_,Xb,a,CW,dx,[],Xb,hw,T.cl,T.nP,by show 0<1000;decide,?_⟩;refine⟨_,Xb,a,CW,dx,_,Xb,Qb,T.cl,T.nS,by show 1<1000;decide,?_⟩;refine q _ ⟨dx,0,by rw[Qb,Q0n]⟩ (λb o e hb=>by rw[Qf hb,Qf hb];exact e) λb hb=>?_;by_cases h:b=a
 ·subst h;rw[Qb]at hb;cases hb
 ·rw[Qf h,Qf h]at hb;exact hb
end
section
variable{P:Gg}{w:Gs}{K:Gd}{mg:Ta->Option Value}{base:Heap}
theorem Qfo:Qx ["self","thing","near","spare","met","place","inner","share","scope","parts","part"] ["self","thing","near","spare"] (Ql Yt):=by eq_refl
theorem Qp1{n:Nat}{fT fA fS fB:Gc}{bh be bg bf:Ts}(F:Wd K "place_within" "Walk.place_within" Yt f0 fd)(T:Qev K mg C)(TW:Quo K mg CW)(B:Jr mg)(mP:Z9 K CW "place_within" f0)(bP:Binds K fd ["self","thing","near","spare"] [])
  (G:Qs P w K mg base Z4 (n+1) f0 fd ["self","thing","near","spare"] (Qar P w C CW n))(GT:Qs P w K mg base Z4 1 fT bh ["thing"] Qq0)(kT:KI K fT)(bT:Binds K bh ["thing"] [])(mT:MG mg "top_words" fT)
  (GA:Qs P w K mg base Z4 1 fA be ["met","thing"] Qhc)(kA:KI K fA)(bA:Binds K be ["met","thing"] [])(mA:MG mg "place_among" fA)
  (GS:Qs P w K mg base Z4 1 fS bg ["spare","inner"] Qgt)(kS:KI K fS)(bS:Binds K bg ["spare","inner"] [])(mS:MG mg "share_of" fS)
  (mB:Z9 K C "place_by_form" fB)(GB:Qs P w K mg base Z4 1 fB bf ["self","thing","form"] (Qdp P w C))(bB:Binds K bf ["self","thing","form"] []):
  Qs P w K mg base Z4 (n+2) f0 fd ["self","thing","near","spare"] (Qar P w C CW (n+1)):=by
 refine F.ok Qfo (λvs H Q E h=>?_) (λcdv A outer s H vs Q E hr h=>?_)
 ·obtain⟨J,p,dn,v,sp,t,a,f,d,D,S,m,ts,rfl,_⟩:=h;rfl
 subst_vars;obtain⟨J,p,dn,v,sp,t,a,f,d,D,S,m,ts,rfl,W,x,xn,hD,aS,fS,ht,Zw,bY,bm,hm,b5,q⟩:=h;have hu:=hr.units;have aJ:Yb 1 _:=hr.mono (by omega);have nd:=Qfo.nd;obtain⟨u1,mF,rF⟩:=TW.few;obtain⟨u3,mN,rN⟩:=TW.steps;and_intros;show∃t,Z7 ?mysPlaceIn _ t/\_;let co:Subtype (Z7 ?mysPlaceIn ((Qj Yt).drop 11)):=⟨_,Qh (Qv (pv 5))⟩
 let cn:Subtype (Z7 ?mysPlaceIn ((Qj Yt).drop 10)):=⟨_,Qd (Ze (Xw Gu GF GV Z0 (pv 4) (Qa (Zb (Qa (pv 1) (Qa (pv 5) Qe))) Qe))) co.2⟩
 let cm:Subtype (Z7 ?mysPlaceIn ((Qj Yt).drop 9)):=⟨_,Qd (Qt 5 nd (Q9 (Qn (pv 0) rfl) T.cl mB GB aJ bB .nil Q6 (Qa (pv 1) (Qa (Zb (Qa (Qo Q5 (pv 1) Qk) (Qa (Xr Vh rfl B.tuple TX (Qa (pv 9) Qe)) Qe))) Qe)))) cn.2⟩
 let w9:Subtype (Z7 ?mysPlaceIn ((Qj Yt).drop 8)):=⟨_,Qd (Yg Gy rfl (Uo (Yu Rz (pv 1) (Yy Qk) Xx)) (Yc 10 nd)
   (Qd (Zn (PW.pt (Vs (Qr Qc4 (pv 7) Qk (Q3 _)) (Wr (PW.pt (Ov (Qr Qnu (pv 6) (Oq rfl mF rF) (Q3 _)) (R1 (Qr R9 (Qn (pv 0) rfl) (Oq rfl mN rN) (Q3 _))))))))
    (Qh (Qt 8 nd Of))
    (Qh (Zn (PW.pt (Vs (Qkn (pv 9) (λ_=>rfl)) (Wr (Qr (Ql3 hu) (pv 10) (Qo Q5 (pv 1) (Qp Zc rfl B.len GO (Qa (pv 9) Qe))) (Q3 _)))))
     (Qd (Ze (Xw Gu GF GV Z0 (pv 9) (Qa (Qo Zh (pv 9) (Qbc J1 Qk)) Qe)))
     (Qh Qj3)) Q7)))
   (Qh (Ze (Xw Gu GF GV Z0 (pv 9) (Qa (Q9 (pv 0) TW.cl mP G hr bP .nil Q6 (Qa (pv 10) (Qa (pv 8) (Qa (Qtb (pv 7) (pv 3)) Qe)))) Qe)))))) cm.2⟩
 let w8:Subtype (Z7 ?mysPlaceIn ((Qj Yt).drop 7)):=⟨_,Qd (Qt 9 nd (Zt Qe)) w9.2⟩
 let w7:Subtype (Z7 ?mysPlaceIn ((Qj Yt).drop 6)):=⟨_,Qd (Qt 8 nd (pv 2)) w8.2⟩
 let w6:Subtype (Z7 ?mysPlaceIn ((Qj Yt).drop 5)):=⟨_,Qd (Qt 7 nd (Qup (Qr R9 (Qn (pv 0) rfl) (Oq rfl mN rN) (Q3 _)) (Z1 GS aJ rfl mS kS bS .nil Q6 (Qa (pv 3) (Qa (pv 6) Qe))) Qk)) w7.2⟩
 let w5:Subtype (Z7 ?mysPlaceIn ((Qj Yt).drop 4)):=⟨_,Qd (Qt 6 nd (Qp Zc rfl B.len GO (Qa (Vx (own:=["part"]) (fv:=[]) rfl (S:=(by eq_refl:Wh (Ql Yt) _)) .nil (Uo (Yu Rz (pv 1) (Yy Qk) Xx))
   (λ_ _ _ _ _=>Xe (i:=0) (nd1 _) rfl (Di Xb) (Es Xb)) (λ_ _ _ _ _=>Qiq (Qr Qc4 (Qp (r:=λxs H Q=>∃p ys,xs=[.ref p]/\(Zd K H p ys\/Z2 K H p ys)/\Q (.int ys.length) H) Zc rfl B.len GO (Qa (pv 0) Qe)) Qk (Q3 _))) (λ_ _ _ _ _=>pv 0)) Qe))) w6.2⟩
 let w4:Subtype (Z7 ?mysPlaceIn ((Qj Yt).drop 3)):=⟨_,Qd (Zn (R0 (Qn3 (pv 5))) (Qh (Qv (pv 5))) Q7) w5.2⟩
 let w3:Subtype (Z7 ?mysPlaceIn ((Qj Yt).drop 2)):=⟨_,Qd (Qt 5 nd (Z1 GA aJ rfl mA kA bA .nil Q6 (Qa (pv 4) (Qa (pv 1) Qe)))) w4.2⟩
 let w2:Subtype (Z7 ?mysPlaceIn ((Qj Yt).drop 1)):=⟨_,Qd (Qt 4 nd (Xw Ef El Em (Qk0 (U6 hr)) (pv 2) (Qa (Z1 GT aJ rfl mT kT bT .nil Q6 (Qa (pv 1) Qe)) (Qa (Zt Qe) Qe)))) w3.2⟩
 refine⟨_,Qd (Yw (pv 0) (Zo Qaq (Qn (pv 0) rfl) Qk) rfl) w2.2,?_⟩;obtain⟨aq,k0,ow⟩:=W;refine⟨_,Xb,J,CW,aq,_,_,Xb,ow,TW.cl,TW.nS,Qd9 _ _,_,_,Xb,Xb,_,Xb,J,CW,aq,_,Xb,ow,TW.cl,TW.nS,(by show 2<1000;decide),?_⟩;rw[Qwx];subst_vars;obtain⟨cv,op⟩:=x.ob;obtain⟨cC,u1,_⟩:=x.th;obtain⟨cE,w1,_⟩:=x.fo;obtain⟨cx,D1,_⟩:=x.kn;and_intros;generalize aF:zj H J (.ins CW aq (wfl p (k0+1)))=H0;have af:∀b o,H b=Ga o->b≠J->H0 b=Ga o:=λb o e h=>by rw[<-aF,Qf h];exact e
 have a7:H0 J=Ga (.ins CW aq (wfl p (k0+1))):=by rw[<-aF,Qb]
 have bE:∀b,H0 b=Gh->H b=Gh:=λb hb=>by
  by_cases h:b=J
  ·subst h;rw[a7]at hb;cases hb
  ·rw[<-aF,Qf h]at hb;exact hb
 clear aF;have t0:Qu H H0:=λb xs e=>af b _ e (Zi e ow (by intro z;cases z));have x0:Pl P w C H0 p a f d ts:=x.keep (λo e=>af _ _ e (Zi op ow Q3u)) (λo e=>af _ _ e (Zi u1 ow (by intro z;cases z))) (λo e=>af _ _ e (Zi w1 ow (by intro z;cases z))) (λo e=>af _ _ e (Zi D1.at_ ow (by intro z;cases z))) t0;have bH:Nrw H0 D S m ts:=xn.keep (λb hb o e=>by
   obtain⟨kv,h,_⟩:=xn.at_ b hb;exact af _ _ e (Zi h ow (by intro z;cases z))) (λb hb o e=>by
   obtain⟨kv,h,_⟩:=xn.ls b hb;exact af _ _ e (Zi h ow (by intro z;cases z))) t0 (λ_ _ h=>h) (Gm _)
 have br:=ht.Qm t0;have sz:=Qd4 t;obtain⟨zw,ad,kv2,_⟩:=bH.at_ dn hD;refine⟨_,Xb,.inr (.inr (.inl ⟨Xb,.inr ⟨zw,ad⟩⟩)),_,Xb,v,t,Xb,br,by omega,λr H1 g1 h1=>⟨Gw _,λq1 aI=>?_⟩⟩;have g2:=g1.trans (Qg aI (.lst []));refine⟨dn,r,.ref q1,zw,Qx0 t,Xb,Xb,g2 _ _ ad,(Qg aI (.lst [])) _ _ h1,by rw[GQ];omega,λnv H3 aw=>?_⟩;subst_vars;obtain⟨l,S1,rfl,lS,a9,bD,bw,aj,cj⟩:=Qvw bH hD ad g1 aI aw;and_intros;clear aw g2 h1 g1 aI;have t3:Qu H0 H3:=λb xs e=>aj b _ e (Zi e ad (by intro z;cases z));have a2:=br.Qm t3;have a8:H3 J=Ga (.ins CW aq (wfl p (k0+1))):=aj _ _ a7 (Zi a7 ad (by intro z;cases z));have W3:Rg CW H3 J p:=⟨_,_,a8⟩;have x3:Pl P w C H3 p a f d ts:=by obtain⟨dx,o1⟩:=x0.ob;obtain⟨us,u1,_⟩:=x0.th;obtain⟨ws,w1,_⟩:=x0.fo;obtain⟨kv,D,_⟩:=x0.kn;exact x0.keep (λo e=>aj _ _ e (Zi o1 ad (by intro z;cases z))) (λo e=>aj _ _ e (Zi u1 ad (by intro z;cases z))) (λo e=>aj _ _ e (Zi w1 ad (by intro z;cases z))) (λo e=>aj _ _ e (Zi D.at_ ad (by intro z;cases z))) t3
 have F3:Frw a f d J D D S S1 H H3:=⟨λb o e _ _ _ h4 h5 _=>aj b o (af b o e h4) (λz=>h5 (z▸hD)),λ_ h=>.inl h,λb hb=>(bw b hb).elim .inl λz=>.inr (bE b z),λ_ h=>h,bD,λb hb=>bE b (cj b hb)⟩;have aO:∀c,c∉S->H c≠Gh->c∉S1:=λc h1 h2 z=>by
  rcases F3.Qgv c z with z|z
  ·exact h1 z
  ·exact h2 z
 have bI:a∉S1:=aO a aS (by rw[u1];intro z;cases z);have bV:f∉S1:=aO f fS (by rw[w1];intro z;cases z);obtain⟨es,hl,cz,bO⟩:=a9.ls l lS;refine⟨_,Xb,_,Xb,l,v,t,es,ts,Xb,hl,bO,x3.ok,a2,Zw,bm,λj ej=>?_,?_⟩
 ·have e:=Qom x.cl (List.mem_of_getElem? ej);refine⟨_,Xb,Gf,by rw[Gz nofun];rfl,Yv ⟨_,Xb,q j D S1 H3 W3 (by rw[e];exact x3) (by rw[e];exact a9.mono (by omega)) (by rw[e];exact ej) F3⟩⟩
 refine⟨_,Xb,Gq,by rw[GX rfl];rfl,Zp ?_⟩;subst_vars;obtain⟨b0,wd,vs,ps,rfl,rfl,bi,a1⟩:=a2.inv;and_intros;simp only[Th.size,Th.depth]at hm b5 bY bm;have ar:okL ps=Gf:=by simp only[Th.ok,Tn]at Zw;exact Zw.2
 have b9:=a1.length;have cA:=Zz ps;refine⟨_,Xb,_,Xb,b0,_,Xb,Z2.of bi,Ub _ _,λrA bo=>?_⟩;rw[Qjo];have sA:=Qg bo (.tup vs);refine⟨rA,Xb,⟨_,Z2.of Qb⟩,λpA a0=>?_⟩;refine Qmh (K:=K) (a:=rA) (xs:=vs) (λi ys σ H2=>(∃x0,σ=[x0])/\Q4 (zj H3 rA (.tup vs)) H2) (small (by omega)) ⟨⟨_,Xb⟩,Qg a0 (.lst [])⟩ (λi ys σ H2 _ h=>Z2.of (h.2 _ _ Qb)) ?_ ?_
 ·rintro i y ys σ H2 hi ⟨⟨x0,rfl⟩,g⟩ gp;subst_vars;obtain⟨ty,L,hy⟩:=a1.get hi;obtain⟨b,wb,us,qs,rfl,rfl,hb,_⟩:=hy.inv;and_intros;refine⟨_,Xb,b,_,Xb,.inr (Z2.of (g _ _ (sA _ _ hb))),_,_,Xb,Xb,_,Xb,?_⟩;refine Vl (λ_=>?_) (λ_=>⟨gp,⟨_,Xb⟩,g⟩);exact⟨_,Xb,gp,⟨_,Xb⟩,λc o e=>by rw[Qf (Qc e a0)];exact g _ _ e⟩
 rintro ys σ H4 b7 ⟨_,gA⟩ gp;have ag:Q4 H3 H4:=sA.trans gA;refine⟨pA,ys,Xb,.inl (Zd.of gp),?_⟩;refine⟨_,Xb,J,CW,aq,_,_,Xb,ag _ _ a8,TW.cl,TW.nS,Qd9 _ _,_,_,Xb,Xb,_,Xb,?_⟩;refine Q1v (λX6=>Vl (λ_=>⟨_,Xb,_,Xb,_,_,Xb,by omega,λr=>X6 r⟩) (λ_=>X6 0)) (λsh=>?_);have W4:Rg CW H4 J p:=⟨_,_,ag _ _ a8⟩;have x4:=x3.same ag;have au:=a9.same ag;have F4:Frw a f d J D D S S1 H H4:=F3.trans (Frw.of ag);have bs:=a2.same ag;have aU:=ag _ _ bi;have ax:=a1.same ag;generalize (ys.length:Int)=a3;clear gA gp b7 bo a0;refine⟨_,Xb,Gw _,λI M=>?_⟩;have s4:=Qg M (.lst []);refine⟨_,Xb,_,Xb,b0,_,Xb,Z2.of (s4 _ _ aU),Ub _ _,λr2 bn=>?_⟩;rw[Qjo];have s5:=Qg bn (.tup vs);have aL:=s4.trans s5;have q5:=s5 _ _ (@Qb H4 I (.lst []));have r5:=@Qb (zj H4 I (.lst [])) r2 (.tup vs);have b3:I≠r2:=Qc Qb bn;have x5:=x4.same aL;have cq:=au.same aL;have W5:Rg CW (zj (zj H4 I (.lst [])) r2 (.tup vs)) J p:=by obtain⟨dx,k,o⟩:=W4;exact⟨dx,k,aL _ _ o⟩
 generalize cw:zj (zj H4 I (.lst [])) r2 (.tup vs)=H5 at*;subst_vars;obtain⟨cB,bF,cu⟩:=x4.th;obtain⟨cD,bW,_⟩:=x4.fo;obtain⟨cs,D3,_⟩:=x4.kn;obtain⟨bL,k4,o4⟩:=W4;and_intros;have bx:I≠a:=λz=>by rw[z,bF]at M;cases M
 have bz:I≠f:=λz=>by rw[z,bW]at M;cases M
 have ch:I≠d:=λz=>by rw[z,D3.at_]at M;cases M
 have bC:I≠J:=λz=>by rw[z,o4]at M;cases M
 have cg:I∉S1:=λz=>by obtain⟨xs,h,_⟩:=au.ls _ z;rw[h]at M;cases M
 have cf:I∉D:=λz=>by obtain⟨xs,h,_⟩:=au.at_ _ z;rw[h]at M;cases M
 have W4:Rg CW H4 J p:=⟨bL,k4,o4⟩;refine⟨r2,Xb,⟨_,Z2.of r5⟩,Qhg (K:=K) (a:=r2) (xs:=vs) (λi σ X=>XE5 λ(D6 Y:List Gc)(ds:Gc)(u:List Nat)(ak:Option V)=>Qzo (σ=[Ga (.ref J),Ga (.ref b0),Ga (.ref dn),Ga (.int sp),Ga (.ref l),Ga .non,Ga (.int a3),Ga (.int sh),Ga (.ref ds),Ga (.ref I),ak]) (Rg CW X J p) (Pl P w C X p a f d (Yr ts (Za (ps.take i)))) (Nrw X D6 Y (m+1+2*Qw (ps.take i)) (Yr ts (Za (ps.take i)))) (ds∈D6) (Frw a f d J D D6 S1 Y H4 X) (I∉D6) (I∉Y) (a∉Y) (f∉Y) (X I=Ga (.lst (u.map jv))) (u.length=i) (∀(k j:Nat),u[k]?=Ga j->∃s,ps[k]?=Ga s/\(Yr ts (Za (ps.take i)))[j]?=Ga s) (X r2=Ga (.tup vs)))
  ⟨D,S1,dn,[],_,Xb,W5,?_,?_,hD,Frw.of aL,cf,cg,bI,bV,q5,Xb,λk j h=>by simp at h,r5⟩ (by rintro i σ X _ ⟨_,_,_,_,_,_,_,_,_,_,_,_,_,_,_,_,_,_,h⟩;exact Z2.of h) ?_ ?_⟩
 ·simp only[List.take_zero,Za,Ie];exact x5
 ·simp only[List.take_zero,Za,Qw,Ie,Nat.mul_zero,Fd];exact cq
 ·intro i y;have eS:∀ty,ps[i]?=Ga ty->Yr (Yr ts (Za (ps.take i))) ty.inside=Yr ts (Za (ps.take (i+1))):=λty L=>by rw[Qg0 ps i ty L,Ue]
  have fin:∀(ty:Th)(aD:Gc)(D7 S7:List Gc)(H7:Hp)(u:List Nat)(j:Nat)(ak:Option V),ps[i]?=Ga ty->u.length=i->(∀(k j:Nat),u[k]?=Ga j->∃s,ps[k]?=Ga s/\(Yr ts (Za (ps.take i)))[j]?=Ga s)->Rg CW H7 J p->Pl P w C H7 p a f d (Yr ts (Za (ps.take (i+1))))->Nrw H7 D7 S7 (m+1+2*Qw (ps.take (i+1))) (Yr ts (Za (ps.take (i+1))))->aD∈D7->Frw a f d J D D7 S1 S7 H4 H7->I∉D7->I∉S7->a∉S7->f∉S7->H7 I=Ga (.lst (u.map jv))->H7 r2=Ga (.tup vs)->(Yr ts (Za (ps.take (i+1))))[j]?=Ga ty->
    XE5 λ(D6 Y:List Gc)(ds:Gc)(a4:List Nat)(bG:Option V)=>Qzo ([Ga (.ref J),Ga (.ref b0),Ga (.ref dn),Ga (.int sp),Ga (.ref l),Ga .non,Ga (.int a3),Ga (.int sh),Ga (.ref aD),Ga (.ref I),ak]=[Ga (.ref J),Ga (.ref b0),Ga (.ref dn),Ga (.int sp),Ga (.ref l),Ga .non,Ga (.int a3),Ga (.int sh),Ga (.ref ds),Ga (.ref I),bG]) (Rg CW (zj H7 I (.lst (u.map jv++[jv j]))) J p) (Pl P w C (zj H7 I (.lst (u.map jv++[jv j]))) p a f d (Yr ts (Za (ps.take (i+1))))) (Nrw (zj H7 I (.lst (u.map jv++[jv j]))) D6 Y (m+1+2*Qw (ps.take (i+1))) (Yr ts (Za (ps.take (i+1))))) (ds∈D6) (Frw a f d J D D6 S1 Y H4 (zj H7 I (.lst (u.map jv++[jv j])))) (I∉D6) (I∉Y) (a∉Y) (f∉Y) ((zj H7 I (.lst (u.map jv++[jv j]))) I=Ga (.lst (a4.map jv))) (a4.length=i+1) (∀(k j:Nat),a4[k]?=Ga j->∃s,ps[k]?=Ga s/\(Yr ts (Za (ps.take (i+1))))[j]?=Ga s) ((zj H7 I (.lst (u.map jv++[jv j]))) r2=Ga (.tup vs)):=by
   intro ty aD D7 S7 H7 u j ak L lw N W7 x7 aB ba Z am an aP aT q7 r7 e7;obtain⟨bM,k7,o7⟩:=W7;refine⟨D7,S7,aD,u++[j],ak,Xb,⟨bM,k7,by rw[Qf (Gp bC)];exact o7⟩,x7.but q7 bx bz,?_,ba,?_,am,an,aP,aT,?_,by rw[List.length_append,List.length_singleton,lw],λk j' hk=>?_,?_⟩
   ·refine aB.keep (λb hb o e=>?_) (λb hb o e=>?_) (Zs λxs e=>by rw[q7]at e;cases e) (λ_ _ h=>h) (Gm _)
    ·rw[Qf (show b≠I fromλz=>am (by rw[<-z];exact hb))];exact e
    ·rw[Qf (show b≠I fromλz=>an (by rw[<-z];exact hb))];exact e
   ·refine⟨λb o e h1 h2 h3 h4 h5 h6=>?_,Z.Qk8,Z.Qgv,Z.Qpy,Z.Qo1,λb hb=>?_⟩
    ·rw[Qf (Qc e M)];exact Z.keep b o e h1 h2 h3 h4 h5 h6
    ·by_cases bk:b=I
     ·subst bk;rw[Qb]at hb;cases hb
     ·rw[Qf bk]at hb;exact Z.there b hb
   ·rw[Qb,List.map_append];rfl
   ·rcases Tk k u.length with aY|aY
    ·rw[List.getElem?_append_left aY]at hk;obtain⟨s0,h1,h2⟩:=N k j' hk;refine⟨s0,h1,?_⟩;rw[<-eS ty L];exact Qcp h2
    ·rw[List.getElem?_append_right aY]at hk;have h0:k - u.length=0:=by have:=(List.getElem?_eq_some_iff.mp hk).1;simp at this;omega
     rw[h0]at hk;simp at hk;subst hk;have:k=i:=by omega
     subst this;exact⟨ty,L,e7⟩
   ·rw[Qf (Gp b3)];exact r7
  refine' Q3q (F:=λbK H'=>vs[i]?=Ga y/\∃(D' S':List Gc)(u:List Nat),Rg CW H' J p/\Pl P w C H' p a f d (Yr ts (Za (ps.take i)))/\Nrw H' D' S' (m+1+2*Qw (ps.take i)) (Yr ts (Za (ps.take i)))/\bK∈D'/\Frw a f d J D D' S1 S' H4 H'/\I∉D'/\I∉S'/\a∉S'/\f∉S'/\H' I=Ga (.lst (u.map jv))/\u.length=i/\(∀(k j:Nat),u[k]?=Ga j->∃s,ps[k]?=Ga s/\(Yr ts (Za (ps.take i)))[j]?=Ga s)/\H' r2=Ga (.tup vs)) (λX6=>?myk) ?myh
  case myk=>
   rintro σ X hi ⟨D6,Y,ds,u,ak,rfl,W6,x6,U,ap,F6,O,R,aa,ac,q6,lw,N,r6⟩;have b1:i<vs.length:=(List.getElem?_eq_some_iff.mp hi).1;obtain⟨ty,L,hy⟩:=ax.get hi;have ae:ty∈ps:=List.mem_of_getElem? L;have a6:ty.ok=Gf:=by rw[Iq,List.all_eq_true]at ar;exact ar ty ae
   have m2:=We ae;have m4:=Rp ps i ty L;have t6:Qu H4 X:=F6.Qm W4 x4 au;have aV:=t6 _ _ aU;obtain⟨ab,k6,o6⟩:=W6;have W6:Rg CW X J p:=⟨ab,k6,o6⟩;have aN:=X6 ds X ⟨hi,D6,Y,u,W6,x6,U,ap,F6,O,R,aa,ac,q6,lw,N,r6⟩;dsimp only[Vt,List.set_cons_succ,List.set_cons_zero]
   refine' Qzy (λYq bc=>?mykk) ?mythn ?myels
   case mykk=>refine⟨_,Xb,_,_,Xb,Xb,_,Xb,Vl (λ_=>?_) (λ_=>Zp bc)⟩;refine⟨_,Xb,_,_,Xb,Xb,_,Xb,Vl (λ_=>Yv Yq) (λ_=>?_)⟩;exact⟨_,Xb,J,CW,ab,_,_,Xb,o6,TW.cl,TW.nS,Qd9 _ _,_,_,Xb,Xb,_,Xb,Vl (λ_=>Yq) (λ_=>bc)⟩
   case myels=>
    by_cases aZ:u=[]
    ·exact⟨_,Xb,Gq,.inl ⟨_,Zd.of q6,by rw[aZ];rfl⟩,Zp (Zp aN)⟩
    ·have cr:0<u.length:=List.length_pos_iff.mpr aZ;have ay:(u.map jv).length=u.length:=List.length_map _;obtain⟨vp,bd⟩:∃vp,vs[i - 1]?=Ga vp:=⟨_,List.getElem?_eq_getElem (show i - 1<vs.length by omega)⟩;obtain⟨tp,aR,b6⟩:=ax.get bd;have cd:tp.ok=Gf:=by rw[Iq,List.all_eq_true]at ar;exact ar tp (List.mem_of_getElem? aR)
     have m3:=We (List.mem_of_getElem? aR);have bJ:atI (V.str wd::vs) (((u.map jv).length:Nat):Int)=Ga vp:=by refine Qz ?_;rw[ay,lw,show i=(i - 1)+1 by omega,List.getElem?_cons_succ];exact bd
     refine⟨_,Xb,Gf,.inl ⟨_,Zd.of q6,by cases u with|nil=>exact absurd rfl aZ|cons _ _=>rfl⟩,Yv ?_⟩;refine⟨_,Xb,_,Xb,_,Xb,I,u.map jv,Xb,.inl (Zd.of q6),b0,_,_,vp,Xb,Xb,Z2.of aV,bJ,_,_,(hy.Qm t6).dt,(b6.Qm t6).dt,J0 _ a6,J0 _ cd,?_,_,Xb,?_⟩
     ·rw[Wl,Wl];omega
     rw[Qop];by_cases aX:ty=tp
     ·rw[GX aX];refine Yv ?_;obtain⟨vl,al,bl⟩:=Qwu (u.map jv) (by omega);rw[List.getElem?_map,ay]at bl;subst_vars;obtain⟨jl,b2,rfl⟩:∃jl,u[u.length - 1]?=Ga jl/\vl=jv jl:=by
       cases e:u[u.length - 1]? with
       |none=>rw[e]at bl;cases bl
       |some jl=>rw[e]at bl;exact⟨jl,Xb,(Tj bl).symm⟩
      obtain⟨sl,bp,bq⟩:=N _ _ b2;and_intros;have bU:sl=ty:=by rw[lw,aR]at bp;rw[aX];exact(Tj bp).symm
      subst bU;have eD:Yr ts (Za (ps.take (i+1)))=Yr ts (Za (ps.take i)):=by rw[<-eS sl L];exact Qom x6.cl (List.mem_of_getElem? bq)
      refine⟨_,Xb,.inl ⟨Xb,_,Zd.of q6⟩,_,Xb,_,Xb,I,u.map jv,_,_,Xb,Xb,Zd.of q6,al,I,u.map jv,jv jl,Xb,Xb,q6,by rw[ay,GQ];omega,?_⟩;exact fin sl ds D6 Y X u jl _ L lw N W6 (by rw[eD];exact x6) (by rw[eD];exact U.mono (by omega)) ap F6 O R aa ac q6 r6 (by rw[eD];exact bq)
     ·rw[Gz aX];exact Zp aN
   case mythn=>
    intro cc av;have sc:=Qg av (.dT []);refine X6 cc (zj X cc (.dT [])) ⟨hi,cc::D6,Y,u,⟨ab,k6,sc _ _ o6⟩,x6.same sc,U.more av,List.mem_cons_self,?_,?_,R,aa,ac,sc _ _ q6,lw,N,sc _ _ r6⟩
    ·have Z:=F6.trans (Frw.of (D:=D6) (S:=Y) sc);exact⟨Z.keep,λb hb=>(List.mem_cons.mp hb).elim (λz=>.inr (by rw[z];exact F6.there _ av)) (Z.Qk8 b),Z.Qgv,λb hb=>List.mem_cons_of_mem _ (Z.Qpy b hb),Z.Qo1,Z.there⟩
    ·intro z;rcases List.mem_cons.mp z with z|z
     ·rw[<-z,q6]at av;cases av
     ·exact O z
  case myh=>
   rintro ds X ⟨hi,D6,Y,u,W6,x6,U,ap,F6,O,R,aa,ac,q6,lw,N,r6⟩;have b1:i<vs.length:=(List.getElem?_eq_some_iff.mp hi).1;obtain⟨ty,L,hy⟩:=ax.get hi;have ae:ty∈ps:=List.mem_of_getElem? L;have m1:=Rp ps i ty L;have m2:=We ae;have m3:=W8 ps (i+1);have a6:ty.ok=Gf:=by rw[Iq,List.all_eq_true]at ar;exact ar ty ae
   have t6:Qu H4 X:=F6.Qm W4 x4 au;have ai:=Qco (Za (ps.take i)) ts;rw[Uh]at ai;obtain⟨ab,k6,o6⟩:=W6;have W6:Rg CW X J p:=⟨ab,k6,o6⟩;refine⟨_,Xb,.inl ⟨Xb,_,Zd.of q6⟩,_,Xb,J,ab,_,Xb,o6,Qfp _ _,_,Xb,_,Xb,sh,sp,Xb,Xb,λz=>?_⟩;refine⟨J,p,ds,y,z,ty,a,f,d,D6,Y,_,_,Xb,W6,x6,U,ap,aa,ac,hy.Qm t6,a6,by omega,by omega,by omega,by omega,λj D7 S7 H7 W7 x7 aB e7 Z=>?_⟩;have q7:H7 I=Ga (.lst (u.map jv)):=Z.keep _ _ q6 bx bz ch bC O R;have a5:∀c,c∉Y->X c≠Gh->c∉S7:=λc h1 h2 z=>by
    rcases Z.Qgv c z with z|z
    ·exact h1 z
    ·exact h2 z
   have an:I∉S7:=a5 I R (by rw[q6];intro z;cases z);have am:I∉D7:=λz=>by
    rcases Z.Qk8 _ z with z|z
    ·exact O z
    ·rw[q6]at z;cases z
   subst_vars;obtain⟨ck,aM,_⟩:=x6.th;obtain⟨cp,aE,_⟩:=x6.fo;and_intros;have aP:a∉S7:=a5 a aa (by rw[aM];intro z;cases z);have aT:f∉S7:=a5 f ac (by rw[aE];intro z;cases z);refine⟨I,u.map jv,jv j,Xb,Xb,q7,by rw[List.length_map,GQ];omega,?_⟩;have r7:H7 r2=Ga (.tup vs):=Z.Qm W6 x6 U _ _ r6;rw[eS ty L]at x7 aB e7;have eM:m+1+2*Qw (ps.take i)+2*ty.size=m+1+2*Qw (ps.take (i+1)):=by omega
   rw[eM]at aB;exact fin ty ds D7 S7 H7 u j _ L lw N W7 x7 aB (Z.Qpy _ ap) (F6.trans Z) am an aP aT q7 r7 e7
 ·rintro σ X ⟨D6,Y,ds,u,ak,rfl,W6,x6,U,ap,F6,O,R,aa,ac,q6,lw,N,r6⟩;have ep:ps.take vs.length=ps:=by rw[b9,List.take_length]
  rw[ep]at x6 U N;have t6:Qu H4 X:=F6.Qm W4 x4 au;have aV:=t6 _ _ aU;obtain⟨bb,ce⟩:=x6.ob;obtain⟨ab,k6,o6⟩:=W6;have b8:=Qco (Za ps) ts;rw[Uh]at b8;have aK:=F6.Qo1 l lS;have pin:∀s0∈ps,s0∈Yr ts (Za ps):=λs0 b4=>(Qc6 _ _ _).mpr (.inr (by rw[Xn,List.mem_flatMap];exact⟨s0,b4,Qoc s0⟩));have bQ:u=ps.map λs0=>(Yr ts (Za ps)).idxOf s0:=by
   refine List.ext_getElem? λk=>?_;rw[List.getElem?_map];cases e:u[k]? with
   |none=>
    have:u.length<=k:=by simpa using e
    rw[List.getElem?_eq_none (by omega)];rfl
   |some j0=>obtain⟨s0,h1,h2⟩:=N k j0 e;rw[h1,TZ,Rq x6.nd h2]
  refine⟨_,Xb,J,CW,ab,_,_,Xb,o6,TW.cl,TW.nP,Qo9 _ _,p,bb,_,Xb,ce,Qv8 _ _ _,_,Xb,_,Xb,b0,_,_,.str wd,Xb,Xb,Z2.of aV,Rk _ _,_,Xb,I,_,Xb,.inl ⟨Zd.of q6,λe0 bZ=>?_⟩⟩;have s6:=Qg bZ (.tup (u.map jv));refine⟨by show 2<=Gj;decide,λc0 bX=>?_⟩;have s7:=Qg bX (.tup [.str wd,.ref e0]);have az:=s6.trans s7;refine⟨p,c0,.ref b0,.mk wd ps,a,f,d,_,Xb,x6.same az,(bs.Qm t6).same az,Zw,by simp only[Th.depth];omega,pin,⟨c0,e0,Xb,Qb,?_⟩,by omega,λj H8 x8 e8 F8=>?_⟩
  ·rw[s7 _ _ Qb,bQ];rfl
  have eI:(Th.mk wd ps).inside=Za ps++[Th.mk wd ps]:=by simp[Th.inside]
  have eD:Yr ts (Th.mk wd ps).inside=if Th.mk wd ps∈Yr ts (Za ps)then Yr ts (Za ps)else Yr ts (Za ps)++[Th.mk wd ps]:=by rw[eI,Qpn]
  rw[<-eD]at x8 e8;have ci:Qu X H8:=λb xs e=>(F8.Qm (x6.same az)) b xs (az _ _ e);have ao:Fr3 a f d X H8:=(Fr3.of az).trans F8;subst_vars;obtain⟨aQ,ai,cy,bN⟩:=U.ls l aK;have bu:l≠a:=λz=>aa (z▸aK);have bv:l≠f:=λz=>ac (z▸aK);obtain⟨ck,aM,_⟩:=x6.th;obtain⟨cp,aE,_⟩:=x6.fo;obtain⟨ct,aC,_⟩:=x6.kn;and_intros;have ca:l≠d:=Zi ai aC.at_ (by intro z;cases z);have cb:l≠J:=Zi ai o6 (by intro z;cases z);have aH:=ao.keep _ _ ai bu bv ca;have o8:=ao.keep _ _ o6 (Zi o6 aM (by intro z;cases z)) (Zi o6 aE (by intro z;cases z)) (Zi o6 aC.at_ (by intro z;cases z));refine⟨_,Xb,.inl ⟨Xb,_,Zd.of aH⟩,_,Xb,_,Xb,by show 2<=Gj;decide,λc9 aW=>?_⟩;have s9:=Qg aW (.tup [.ref b0,jv j]);refine⟨l,aQ,.ref c9,Xb,Xb,s9 _ _ aH,by rw[GQ];omega,?_⟩;have x9:=x8.same s9;have sE:(Th.mk wd ps).size=Qw ps+1:=by simp[Th.size]
  have aA:Qu X (zj (zj H8 c9 (.tup [.ref b0,jv j])) l (.lst (aQ++[.ref c9]))):=λb xs e=>by rw[Qf (Zi e ai (by intro z;cases z))];exact s9 _ _ (ci _ _ e)
  have bt:(zj (zj H8 c9 (.tup [.ref b0,jv j])) l (.lst (aQ++[.ref c9]))) c9=Ga (.tup [.ref b0,jv j]):=by rw[Qf (λz=>by rw[z,aH]at aW;cases aW),Qb]
  refine⟨_,Xb,q j D6 Y _ ⟨ab,k6,by rw[Qf (Gp cb)];exact s9 _ _ o8⟩ (x9.but (s9 _ _ aH) bu bv) ⟨λb hb=>?_,λb hb=>?_⟩ e8 ?_⟩
  ·obtain⟨kv,k1,k2,k3⟩:=U.at_ b hb;refine⟨kv,?_,by rw[sE];omega,k3⟩;rw[Qf (Zi k1 ai (by intro z;cases z))];exact s9 _ _ (ao.keep _ _ k1 (Zi k1 aM (by intro z;cases z)) (Zi k1 aE (by intro z;cases z)) (Zi k1 aC.at_ (by intro z;cases z)))
  ·by_cases aG:b=l
   ·subst aG;refine⟨_,Qb,by rw[List.length_append,List.length_singleton,sE];omega,λe he=>?_⟩;rcases List.mem_append.mp he with he|he
    ·subst_vars;obtain⟨c,v,j0,t0,k1,k2,k3,k4⟩:=bN e he;and_intros;refine⟨c,v,j0,t0,k1,aA _ _ k2,k3.Qm aA,?_⟩;rw[eI,Ue];exact Qcp k4
    ·rw[List.mem_singleton]at he;subst he;exact⟨c9,.ref b0,j,_,Xb,bt,(bs.Qm t6).Qm aA,e8⟩
   ·obtain⟨bR,k1,k2,k3⟩:=U.ls b hb;refine⟨bR,?_,by rw[sE];omega,λe he=>?_⟩
    ·rw[Qf aG];exact s9 _ _ (ao.keep _ _ k1 (λz=>aa (z▸hb)) (λz=>ac (z▸hb)) (Zi k1 aC.at_ (by intro z;cases z)))
    ·subst_vars;obtain⟨c,v,j0,t0,k4,k5,k6,k7⟩:=k3 e he;and_intros;refine⟨c,v,j0,t0,k4,aA _ _ k5,k6.Qm aA,?_⟩;rw[eI,Ue];exact Qcp k7
  ·have ah:=F4.trans F6;refine⟨λb o e h1 h2 h3 h4 h5 h6=>?_,ah.Qk8,ah.Qgv,ah.Qpy,ah.Qo1,λb hb=>?_⟩
   ·have e9:=ah.keep b o e h1 h2 h3 h4 h5 h6;have aG:b≠l:=λz=>by
     rcases ah.Qgv l aK with w1|w1
     ·exact h6 (z▸w1)
     ·rw[<-z,e]at w1;cases w1
    rw[Qf aG];exact s9 _ _ (ao.keep _ _ e9 h1 h2 h3)
   ·refine ah.there b (ao.there b ?_);by_cases bj:b=l
    ·subst bj;rw[Qb]at hb;cases hb
    ·rw[Qf bj]at hb;exact s9.free hb
theorem Qwk:Qs P w K mg base Z4 1 f fd ["self","thing","near","spare"] (Qar P w C CW 0):=by
 have no:∀vs H Q E,¬Qar P w C CW 0 vs H Q E:=λvs H Q E h=>by obtain⟨c,p,b,v,sp,t,a,f,d,D,S,m,ts,_,_,_,_,_,_,_,_,_,h1,_⟩:=h;have:=Qay t;lia
 exact⟨λvs H Q E h=>absurd h (no vs H Q E),λA outer s H args us vs Q E _ _ _ _ h=>absurd h (no vs H Q E)⟩
theorem Qee{f i g h s C e:Gc}{fd d a c b:Ts}(F:Wd K "place_within" "Walk.place_within" Yt f fd)(T:Qev K mg C)(m:Quo K mg e)(B:Jr mg)(y:Z9 K e "place_within" f)(q:Binds K fd ["self","thing","near","spare"] [])
  (GT:Qs P w K mg base Z4 1 i d ["thing"] Qq0)(v:KI K i)(r:Binds K d ["thing"] [])(A:MG mg "top_words" i)
  (j:Qs P w K mg base Z4 1 g a ["met","thing"] Qhc)(t:KI K g)(o:Binds K a ["met","thing"] [])(mA:MG mg "place_among" g)
  (l:Qs P w K mg base Z4 1 h c ["spare","inner"] Qgt)(u:KI K h)(bS:Binds K c ["spare","inner"] [])(z:MG mg "share_of" h)
  (x:Z9 K C "place_by_form" s)(k:Qs P w K mg base Z4 1 s b ["self","thing","form"] (Qdp P w C))(p:Binds K b ["self","thing","form"] []):∀n:Nat,Qs P w K mg base Z4 (n+1) f fd ["self","thing","near","spare"] (Qar P w C e n)
 |0=>Qwk
 |n+1=>Qp1 F T m B y q (Qee F T m B y q GT v r A j t o mA l u bS z x k p n) GT v r A j t o mA l u bS z x k p
theorem Qp5:Qx ["self","thing"] ["self","thing"] (Ql Qdb):=by eq_refl
theorem Qky{N O:Gc}{n r:Ts}(F:Wd K "place_of" "Places.place_of" Qdb f0 fd)(D:Quo K mg CW)(U:Mk K CW N)(T:Qs P w K mg base Z4 1 N n ["self","places"] (Qjb CW))(W:Binds K n ["self","places"] [])(mW:Z9 K CW "place_within" O)(X:Binds K r ["self","thing","near","spare"] [])
  (G:Qs P w K mg base Z4 51 O r ["self","thing","near","spare"] (Qar P w C CW 50)):Qs P w K mg base Z4 52 f0 fd ["self","thing"] (Qf4 P w C):=by
 refine F.ok Qp5 (λvs H Q E h=>?_) (λcdv A outer s H vs Q E R h=>?_)
 ·obtain⟨p,v,t,a,f,d,ts,rfl,_⟩:=h;rfl
 obtain⟨p,v,t,a,f,d,ts,rfl,x,ht,Zw,y,ab,q⟩:=h;obtain⟨u2,mN,rN⟩:=D.walks;have J:Yb 2 _:=R.mono (by decide);refine⟨_,Qh (Qv (Q9 (Qg4 U T J rfl D.mgC W .nil Q6 (Qa (pv 0) Qe)) D.cl mW G R X .nil Q6 (Qa (pv 1) (Qa Of (Qa (Oq rfl mN rN) Qe))))),?_⟩;refine⟨_,Xb,λB dx i I aa=>?_⟩;have s0:Q4 H (zj (zj H dx (.own B)) B (.ins CW dx [])):=λc o e=>by rw[Qf (Qc e i),Qf (Qc e I)];exact e
 refine⟨B,dx,p,Xb,Qb,λH1 V k1 ac=>⟨Xb,?_⟩⟩;have s1:Q4 H H1:=λc o e=>k1 c o (s0 c o e) (Qc e i);obtain⟨m,kw,S⟩:=V;refine⟨B,m,_,Xb,S,Qfp _ _,_,Xb,λM u=>?_⟩;have s2:=Qg u (.dT []);have g:=s1.trans s2;refine⟨B,p,M,v,_,t,a,f,d,[M],[],0,ts,Xb,⟨m,kw,s2 _ _ S⟩,x.same g,⟨λb hb=>?_,λl hl=>nomatch hl⟩,by simp,by simp,by simp,ht.same g,Zw,y,y,by lia,by lia,λj D' S' H' W' x' n' Y L=>?_⟩
 ·rw[List.mem_singleton]at hb;subst hb;exact⟨[],Qb,Gm _,λk v e=>by rw[Qdj]at e;cases e⟩
 ·refine q j H' x' Y ⟨λb o e h1 h2 Z=>L.keep b o (g _ _ e) h1 h2 Z (Qc e i) (λz=>?_) (by simp),λb hb=>g.free (L.there b hb)⟩;rw[List.mem_singleton]at z;exact Qc (s1 _ _ e) u z
end
end K05
namespace Nt
variable{up:Nat->Option Nat}{p a b m n q x lo hi:Nat}{l S cl:List Nat}
inductive Ch(up:Nat->Option Nat):Nat->List Nat->Prop
 |top {p:Nat}:up p=Gh->Ch up p [p]
 |step {p q:Nat} {l:List Nat}:up p=Ga q->Ch up q l->Ch up p (p::l)
theorem Ch.uniq{up:Nat->Option Nat}:∀{p:Nat}{l m:List Nat},Ch up p l->Ch up p m->l=m
 |_,_,_,.top e,.top _=>rfl
 |_,_,_,.top e,.step f _=>by rw[e]at f;cases f
 |_,_,_,.step e _,.top f=>by rw[e]at f;cases f
 |_,_,_,.step e h,.step f k=>by rw[e]at f;cases f;rw[Ch.uniq h k]
theorem Ch.ne(h:Ch up p l):l≠[]:=by cases h<;>simp
theorem Ch.head(h:Ch up p l):∃r,l=p::r:=by cases h<;>exact⟨_,Xb⟩
theorem Ch.suffix{up:Nat->Option Nat}:∀{p:Nat}{l a:List Nat}{z:Nat}{b:List Nat},Ch up p l->l=a++z::b->Ch up z (z::b)
 |p,_,[],z,b,h,e=>by simp only[List.nil_append]at e;obtain⟨r,c⟩:=h.head;rw[e]at c;cases c;rw[<-e];exact h
 |p,_,x::a,z,b,.top _,e=>by simp at e
 |p,_,x::a,z,b,.step f h,e=>by simp only[List.cons_append,List.cons.injEq]at e;exact Ch.suffix h e.2
theorem Ch.nodup{up:Nat->Option Nat}:∀{p:Nat}{l:List Nat},Ch up p l->l.Nodup
 |_,_,.top _=>by simp
 |p,_,.step (l:=l) e h=>by rw[List.nodup_cons];refine⟨λc=>?_,h.nodup⟩;obtain⟨a,b,rfl⟩:=List.append_of_mem c;have h1:=h.suffix rfl;have h2:Ch up p (p::(a++p::b)):=.step e h;have:=congrArg List.length (h1.uniq h2);simp at this;lia
def Zu(l:List Nat):Nat:=l.getLastD 0
theorem Qae(h:l≠[]):Zu (p::l)=Zu l:=by
 cases l with
 |nil=>exact absurd rfl h
 |cons x r=>simp[Zu,List.getLastD]
theorem Qra{a b:List Nat}(h:b≠[]):Zu (a++b)=Zu b:=by
 induction a with
 |nil=>rfl
 |cons x r c=>rw[List.cons_append,Qae (by simp[h]),c]
theorem Ch.R3{z:Nat}(h:Ch up p l)(hz:z∈l):∃m,Ch up z m/\Zu m=Zu l:=by obtain⟨a,b,rfl⟩:=List.append_of_mem hz;exact⟨z::b,h.suffix Xb,by rw[Qra (by simp)]⟩
def Qdx(up:Nat->Option Nat)(p:Nat)(v:Nat):Nat->Option Nat:=λq=>if q=p then Ga v else up q
def Xm(up:Nat->Option Nat):Nat->List Nat->(Nat->Option Nat)
 |_,[]=>up
 |over,c::r=>Xm (Qdx up c over) c r
theorem U3:∀{l:List Nat}{up:Nat->Option Nat}{over q:Nat},q∉l->Xm up over l q=up q
 |[],_,_,_,_=>rfl
 |c::r,up,over,q,h=>by simp only[List.mem_cons,not_or]at h;show Xm (Qdx up c over) c r q=_;rw[U3 h.2];unfold Qdx;rw[Gi h.1]
theorem Ch.Qcy{up:Nat->Option Nat}{low:List Nat}{over:Nat}:∀{p:Nat}{l:List Nat},Ch up p l->(∀z∈l,z∉low)->Ch (Xm up over low) p l
 |p,_,.top e,h=>.top (by rw[U3 (h p (by simp))];exact e)
 |p,_,.step e k,h=>.step (by rw[U3 (h p (by simp))];exact e) (Ch.Qcy k λz hz=>h z (by simp[hz]))
theorem Qgy:∀{low:List Nat}{up:Nat->Option Nat}{over:Nat}{m:List Nat},low.Nodup->Ch (Xm up over low) over m->∀z∈low,∃l,Ch (Xm up over low) z l/\Zu l=Zu m
 |[],_,_,_,_,_,z,hz=>by simp at hz
 |c::r,up,over,m,nd,b,z,hz=>by
  rw[List.nodup_cons]at nd;have hc:Xm up over (c::r) c=Ga over:=by show Xm (Qdx up c over) c r c=_;rw[U3 nd.1];unfold Qdx;rw[Gn rfl]
  have h1:Ch (Xm up over (c::r)) c (c::m):=.step hc b;have a:Zu (c::m)=Zu m:=Qae b.ne;rcases List.mem_cons.mp hz with rfl|hz
  ·exact⟨_,h1,a⟩
  ·obtain⟨l,d,e⟩:=Qgy (low:=r) (up:=Qdx up c over) (over:=c) (m:=c::m) nd.2 h1 z hz;exact⟨l,d,by rw[e,a]⟩
theorem Qrc{low:List Nat}{over:Nat}{m:List Nat}(nd:low.Nodup)(c:Ch (Xm up over low) over m):∀{p:Nat}{l:List Nat},Ch up p l->(∃z∈l,z∈low)->∃a,Ch (Xm up over low) p a/\Zu a=Zu m:=by
 intro p l h;induction h with
 |@top p e=>rintro⟨z,hz,hl⟩;simp at hz;subst hz;exact Qgy nd c _ hl
 |@step p q l e k f=>
  rintro⟨z,hz,hl⟩;by_cases b:p∈low
  ·exact Qgy nd c p b
  ·rcases List.mem_cons.mp hz with rfl|hz
   ·exact absurd hl b
   ·obtain⟨a,d,g⟩:=f ⟨z,hz,hl⟩;exact⟨p::a,.step (by rw[U3 b];exact e) d,by rw[Qae d.ne,g]⟩
theorem Qce:∀{l:List Nat}{up:Nat->Option Nat}{over p q:Nat},l.Nodup->Xm up over l p=Ga q->up p=Ga q\/(∃r,l=p::r/\q=over)\/∃a b,l=a++q::p::b
 |[],_,_,_,_,_,h=>.inl h
 |c::r,up,over,p,q,nd,h=>by
  rw[List.nodup_cons]at nd;have h:Xm (Qdx up c over) c r p=Ga q:=h;rcases Qce nd.2 h with h|⟨d,rfl,rfl⟩|⟨a,b,rfl⟩
  ·unfold Qdx at h;by_cases e:p=c
   ·rw[Gn e]at h;cases h;subst e;exact .inr (.inl ⟨r,Xb,Xb⟩)
   ·rw[Gi e]at h;exact .inl h
  ·exact .inr (.inr ⟨[],d,Xb⟩)
  ·exact .inr (.inr ⟨c::a,b,Xb⟩)
theorem Ch.Qey{up:Nat->Option Nat}:∀{a:List Nat}{p x y:Nat}{b l:List Nat},Ch up p l->l=a++x::y::b->up x=Ga y
 |[],p,x,y,b,_,.top _,e=>by simp at e
 |[],p,x,y,b,_,.step f h,e=>by simp only[List.nil_append,List.cons.injEq]at e;obtain⟨rfl,rfl⟩:=e;obtain⟨r,c⟩:=h.head;cases c;exact f
 |z::a,p,x,y,b,_,.top _,e=>by simp at e
 |z::a,p,x,y,b,_,.step f h,e=>by simp only[List.cons_append,List.cons.injEq]at e;exact Ch.Qey h e.2
variable{α:Type}
inductive Cn(ls:List (Nat×Nat×α)):Nat->Nat->Prop
 |refl (p:Nat):Cn ls p p
 |symm {p q:Nat}:Cn ls p q->Cn ls q p
 |trans {p q r:Nat}:Cn ls p q->Cn ls q r->Cn ls p r
 |link {p q:Nat} {r:α}:(p,q,r)∈ls->Cn ls p q
theorem Cn.mono{ls a:List (Nat×Nat×α)}(h:∀x∈ls,x∈a):∀{p q:Nat},Cn ls p q->Cn a p q:=by
 intro p q c;induction c with
 |refl p=>exact .refl p
 |symm _ b=>exact .symm b
 |trans _ _ i1 i2=>exact .trans i1 i2
 |link m=>exact .link (h _ m)
theorem Cn.Qou{ls:List (Nat×Nat×α)}(h:m<=n)(c:Cn (ls.take m) p q):Cn (ls.take n) p q:=
 c.mono λx a=>by
  have:ls.take m=(ls.take n).take m:=by rw[List.take_take,E4 h]
  rw[this]at a;exact List.mem_of_mem_take a
structure Fst(S:List Nat)(ls:List (Nat×Nat×α))(Xf:Nat->Nat->Option Nat)(up:Nat->Option Nat):Prop where
 Qey:∀p q,up p=Ga q->∃n,Xf p q=Ga n
 Qg1:∀p q n,Xf p q=Ga n->∃r,ls[n]?=Ga (p,q,r)\/ls[n]?=Ga (q,p,r)
 all:∀(n p q:Nat)r,ls[n]?=Ga (p,q,r)->Xf p q=Ga n/\Xf q p=Ga n
 sep:∀(n p q:Nat)r,ls[n]?=Ga (p,q,r)->¬Cn (ls.take n) p q
 chain:∀p∈S,∃l,Ch up p l
 inS:∀p q,up p=Ga q->p∈S/\q∈S
theorem Fst.Qcr{ls:List (Nat×Nat×α)}{Xf:Nat->Nat->Option Nat}(F:Fst S ls Xf up)(h:Xf p q=Ga n):Xf q p=Ga n:=by
 obtain⟨r,h|h⟩:=F.Qg1 p q n h
 ·exact(F.all _ _ _ _ h).2
 ·exact(F.all _ _ _ _ h).1
inductive Pth(Xf:Nat->Nat->Option Nat):Nat->List Nat->Nat->Prop
 |nil (p:Nat):Pth Xf p [] p
 |cons {p q r n:Nat} {ns:List Nat}:Xf p q=Ga n->Pth Xf q ns r->Pth Xf p (n::ns) r
theorem Pth.app{Xf:Nat->Nat->Option Nat}:∀{p q r:Nat}{a b:List Nat},Pth Xf p a q->Pth Xf q b r->Pth Xf p (a++b) r
 |_,_,_,_,_,.nil _,k=>k
 |_,_,_,_,_,.cons e h,k=>.cons e (h.app k)
theorem Pth.rev{Xf:Nat->Nat->Option Nat}(b:∀p q n,Xf p q=Ga n->Xf q p=Ga n):∀{p q:Nat}{a:List Nat},Pth Xf p a q->Pth Xf q a.reverse p
 |_,_,_,.nil _=>.nil _
 |_,_,_,.cons e h=>by rw[List.reverse_cons];exact(h.rev b).app (.cons (b _ _ _ e) (.nil _))
theorem Pth.split{Xf:Nat->Nat->Option Nat}{n:Nat}{b:List Nat}:∀{a:List Nat}{p q:Nat}{l:List Nat},Pth Xf p l q->l=a++n::b->∃x y,Pth Xf p a x/\Xf x y=Ga n/\Pth Xf y b q
 |a,p,_,_,.nil _,e=>by simp at e
 |[],p,q,_,.cons f h,e=>by simp only[List.nil_append,List.cons.injEq]at e;obtain⟨rfl,rfl⟩:=e;exact⟨p,_,.nil p,f,h⟩
 |z::a,p,q,_,.cons f h,e=>by simp only[List.cons_append,List.cons.injEq]at e;obtain⟨rfl,e⟩:=e;obtain⟨x,y,h1,h2,c⟩:=h.split e;exact⟨x,y,.cons f h1,h2,c⟩
theorem Qef:∀{l:List Nat},l≠[]->∃m∈l,∀k∈l,k<=m
 |[x],_=>⟨x,by simp,λk a=>by simp at a;lia⟩
 |x::y::r,_=>by
  obtain⟨m,h1,h2⟩:=Qef (l:=y::r) (by simp);by_cases e:x<=m
  ·refine⟨m,List.mem_cons_of_mem _ h1,λk a=>?_⟩;rcases List.mem_cons.mp a with rfl|a
   ·exact e
   ·exact h2 k a
  ·refine⟨x,List.mem_cons_self,λk a=>?_⟩;rcases List.mem_cons.mp a with rfl|a
   ·exact Gm _
   ·have:=h2 k a;lia
section
variable{S:List Nat}{ls:List (Nat×Nat×α)}{Xf:Nat->Nat->Option Nat}{up:Nat->Option Nat}
theorem Fst.Qlj(F:Fst S ls Xf up){M:Nat}:∀{p q:Nat}{a:List Nat},Pth Xf p a q->(∀k∈a,k<M)->Cn (ls.take M) p q
 |_,_,_,.nil _,_=>.refl _
 |p,_,_,.cons (n:=n) e h,b=>by
  refine .trans ?_ (F.Qlj h λk d=>b k (List.mem_cons_of_mem _ d));have c:=b n List.mem_cons_self;obtain⟨r,h1|h1⟩:=F.Qg1 _ _ _ e
  ·exact .link (r:=r) (List.mem_of_getElem? (i:=n) (by rw[List.getElem?_take,Gn c];exact h1))
  ·exact .symm (.link (r:=r) (List.mem_of_getElem? (i:=n) (by rw[List.getElem?_take,Gn c];exact h1)))
theorem Fst.early(F:Fst S ls Xf up){a:List Nat}(h:Pth Xf p a q)(nd:a.Nodup)(c:Cn (ls.take n) p q):∀k∈a,k<n:=by
 intro k g;obtain⟨M,v,f⟩:=Qef (l:=a) (by intro z;rw[z]at g;simp at g);by_cases i:M<n
 ·exact DS (f k g) i
 exfalso;obtain⟨b,d,rfl⟩:=List.append_of_mem v;obtain⟨x,y,h1,h2,u⟩:=h.split rfl;rw[List.nodup_append]at nd;obtain⟨n1,n2,n3⟩:=nd;rw[List.nodup_cons]at n2;have b1:∀k∈b,k<M:=λk g=>by have:=f k (List.mem_append_left _ g);have:=n3 k g M List.mem_cons_self;lia
 have t:∀k∈d,k<M:=λk g=>by have:=f k (List.mem_append_right _ (List.mem_cons_of_mem _ g));have:k≠M:=λz=>n2.1 (z▸g);lia
 have m:=F.Qlj h1 b1;have o:=F.Qlj u t;have s:Cn (ls.take M) p q:=c.Qou (by lia);have j:Cn (ls.take M) x y:=.trans (.symm m) (.trans s (.symm o));obtain⟨r,e|e⟩:=F.Qg1 _ _ _ h2
 ·exact F.sep _ _ _ _ e j
 ·exact F.sep _ _ _ _ e (.symm j)
def num(Xf:Nat->Nat->Option Nat)(up:Nat->Option Nat)(x:Nat):Nat:=((up x).bind (Xf x)).getD 0
theorem Fst.Qdu(F:Fst S ls Xf up){y:Nat}(h:up x=Ga y):Xf x y=Ga (num Xf up x):=by obtain⟨n,a⟩:=F.Qey x y h;unfold num;rw[h];simp[a]
theorem Fst.Qwz(F:Fst S ls Xf up){y d i:Nat}(h:up x=Ga d)(k:up y=Ga i)(e:num Xf up x=num Xf up y):x=y:=by
 have h1:=F.Qdu h;have m:=F.Qdu k;rw[e]at h1;obtain⟨r,h2⟩:=F.Qg1 _ _ _ h1;obtain⟨p,a⟩:=F.Qg1 _ _ _ m;have swap:x=i->d=y->x=y:=λn o=>by
  subst n o;exfalso;obtain⟨l,hl⟩:=F.chain x (F.inS _ _ h).1;have nd:=hl.nodup;cases hl with
  |top f=>rw[h]at f;cases f
  |step f g=>
   rw[h]at f;cases f;cases g with
   |top b=>rw[k]at b;cases b
   |step b j=>rw[k]at b;cases b;obtain⟨q,c⟩:=j.head;subst c;simp at nd
 rcases h2 with h2|h2<;>rcases a with a|a<;>rw[h2]at a<;>simp only[RF,Df]at a
 ·exact a.1
 ·exact swap a.1 a.2.1
 ·exact swap a.2.1 a.1
 ·exact a.2.1
theorem Fst.Qle(F:Fst S ls Xf up){m:Nat}{s:List Nat}:∀{P:List Nat}{p:Nat}{l:List Nat},Ch up p l->l=P++m::s->Pth Xf p (P.map (num Xf up)) m
 |[],p,_,h,e=>by obtain⟨r,a⟩:=h.head;rw[e]at a;simp only[List.nil_append,List.cons.injEq]at a;rw[a.1];exact .nil _
 |z::P,p,_,.top _,e=>by simp at e
 |z::P,p,_,.step (q:=q) f h,e=>by simp only[List.cons_append,List.cons.injEq]at e;obtain⟨rfl,e⟩:=e;rw[List.map_cons];exact .cons (F.Qdu f) (F.Qle h e)
theorem Ch.Qr9{P:List Nat}{s:List Nat}(h:Ch up p l)(e:l=P++m::s)(c:x∈P):∃y,up x=Ga y:=by
 obtain⟨a,b,rfl⟩:=List.append_of_mem c;cases b with
 |nil=>exact⟨m,h.Qey (a:=a) (b:=s) (by rw[e];simp)⟩
 |cons y b=>exact⟨y,h.Qey (a:=a) (b:=b++m::s) (by rw[e];simp)⟩
theorem Oa{f:Nat->Nat}:∀{l:List Nat},l.Nodup->(∀x∈l,∀y∈l,f x=f y->x=y)->(l.map f).Nodup
 |[],_,_=>by simp
 |x::r,nd,h=>by rw[List.nodup_cons]at nd;rw[List.map_cons,List.nodup_cons];refine⟨λz=>?_,Oa nd.2 λa d b hb=>h a (List.mem_cons_of_mem _ d) b (List.mem_cons_of_mem _ hb)⟩;obtain⟨y,c,e⟩:=List.mem_map.mp z;exact nd.1 (h y (List.mem_cons_of_mem _ c) x List.mem_cons_self e▸c)
theorem O5{x y:Nat}:∀{l:List Nat},(x,y)∈l.zip (l.drop 1)->∃a b,l=a++x::y::b
 |[],h=>by simp at h
 |[z],h=>by simp at h
 |z::w::r,h=>by
  simp only[List.drop_succ_cons,List.drop_zero,List.zip_cons_cons,List.mem_cons,Df]at h;rcases h with⟨rfl,rfl⟩|h
  ·exact⟨[],r,Xb⟩
  ·obtain⟨a,b,e⟩:=O5 (l:=w::r) (by simpa using h);exact⟨z::a,b,by rw[e];rfl⟩
theorem Fst.way(F:Fst S ls Xf up){one f:Nat}{l1 l2 P Q s:List Nat}(h1:Ch up one l1)(h2:Ch up f l2)(l:l1=P++m::s)(o:l2=Q++m::s)(C:P=[]\/Q=[]\/P.getLast?≠Q.getLast?):
  ∀x y,(x,y)∈(P++m::Q.reverse).zip ((P++m::Q.reverse).drop 1)->∃k,Xf x y=Ga k/\∀n,Cn (ls.take n) one f->k<n:=by
 have dis:∀z∈P,z∉Q:=λz V W=>by
  obtain⟨M,w,rfl⟩:=List.append_of_mem V;obtain⟨N,O,rfl⟩:=List.append_of_mem W;have R:=h1.suffix (a:=M) (z:=z) (b:=w++m::s) (by rw[l];simp);have T:=h2.suffix (a:=N) (z:=z) (b:=O++m::s) (by rw[o];simp);have e:=R.uniq T;simp only[List.cons.injEq,true_and]at e;have e:=List.append_cancel_right e;subst e;rcases C with h|h|h
  ·simp at h
  ·simp at h
  ·refine h ?_;rw[List.getLast?_append,List.getLast?_append];have:(z::w).getLast?=Ga ((z::w).getLast (by simp)):=List.getLast?_eq_some_getLast (by simp);rw[this];rfl
 have G:P.Nodup:=by have:=h1.nodup;rw[l,List.nodup_append]at this;exact this.1
 have H:Q.Nodup:=by have:=h2.nodup;rw[o,List.nodup_append]at this;exact this.1
 have v:∀x∈P++Q.reverse,∃y,up x=Ga y:=λx i=>by
  rcases List.mem_append.mp i with i|i
  ·exact h1.Qr9 l i
  ·exact h2.Qr9 o (List.mem_reverse.mp i)
 have nd:(P++Q.reverse).Nodup:=by rw[List.nodup_append];refine⟨G,by rw[List.Nodup,List.pairwise_reverse];exact H.imp λh=>Gp h,λa X b hb z=>?_⟩;subst z;exact dis a X (List.mem_reverse.mp hb)
 have I:((P++Q.reverse).map (num Xf up)).Nodup:=Oa nd λx i y E e=>by obtain⟨x',ex⟩:=v x i;obtain⟨y',U⟩:=v y E;exact F.Qwz ex U e
 have J:Pth Xf one ((P++Q.reverse).map (num Xf up)) f:=by rw[List.map_append,List.map_reverse];exact(F.Qle h1 l).app ((F.Qle h2 o).rev λ_ _ _=>F.Qcr)
 intro x y D;obtain⟨a,b,e⟩:=O5 D;have fin:∀z L,up z=Ga L->z∈P++Q.reverse->Xf x y=Ga (num Xf up z)->∃k,Xf x y=Ga k/\∀n,Cn (ls.take n) one f->k<n:=λz L _ hz Y=>⟨_,Y,λn c=>F.early J I c _ (List.mem_map.mpr ⟨z,hz,Xb⟩)⟩
 have p:(∃z,z∈P/\x=z/\up z=Ga y)\/(∃z,z∈Q/\y=z/\up z=Ga x):=by
  rcases Tk a.length P.length with B|A
  ·left;have i:P[a.length]?=Ga x:=by
    have:(P++m::Q.reverse)[a.length]?=(a++x::y::b)[a.length]?:=by rw[e]
    rw[List.getElem?_append_left B,List.getElem?_append_right (Gm _)]at this;simpa using this
   refine⟨x,List.mem_of_getElem? i,Xb,?_⟩;have g:P++[m]=a++x::y::(P++[m]).drop (a.length+2):=by
    have t:=congrArg (List.take (P.length+1)) e;have Z:(P++m::Q.reverse).take (P.length+1)=P++[m]:=by rw[show P++m::Q.reverse=(P++[m])++Q.reverse by simp,List.take_left' (by simp)]
    rw[Z]at t;have t2:(a++x::y::b).take (P.length+1)=a++x::y::b.take (P.length+1 - a.length - 2):=by rw[List.take_append,List.take_of_length_le (by lia)];congr 1;obtain⟨d,hd⟩:∃d,P.length+1 - a.length=d+2:=⟨P.length+1 - a.length - 2,by lia⟩;rw[hd];simp
    rw[t2]at t;rw[t];congr 3;rw[List.drop_append];simp
   exact h1.Qey (a:=a) (b:=(P++[m]).drop (a.length+2)++s) (by rw[l,show P++m::s=(P++[m])++s by simp,g];simp[List.append_assoc])
  ·right;obtain⟨j,rfl⟩:∃j,a=P++j:=by refine⟨a.drop P.length,?_⟩;have t:=congrArg (List.take P.length) e;rw[List.take_left' Xb,List.take_append_of_le_length A]at t;exact(List.take_append_drop P.length a).symm.trans (by rw[<-t])
   rw[List.append_assoc]at e;have e:=List.append_cancel_left e;have r:=congrArg List.reverse e;rw[List.reverse_cons,List.reverse_reverse]at r;simp only[List.reverse_append,List.reverse_cons,List.append_assoc,List.cons_append,List.nil_append]at r;have K:Q++m::s=b.reverse++y::x::(j.reverse++s):=by rw[show Q++m::s=(Q++[m])++s by simp,r];simp
   refine⟨y,?_,Xb,h2.Qey (a:=b.reverse) (b:=j.reverse++s) (by rw[o,K])⟩;have q:b.reverse.length<Q.length:=by have:=congrArg List.length r;simp at this;simp;lia
   have E:Q[b.reverse.length]?=Ga y:=by
    have:(Q++m::s)[b.reverse.length]?=(b.reverse++y::x::(j.reverse++s))[b.reverse.length]?:=by rw[K]
    rw[List.getElem?_append_left q,List.getElem?_append_right (Gm _)]at this;simpa using this
   exact List.mem_of_getElem? E
 rcases p with⟨z,hz,rfl,u⟩|⟨z,hz,rfl,u⟩
 ·exact fin x y u (List.mem_append_left _ hz) (F.Qdu u)
 ·exact fin y x u (List.mem_append_right _ (List.mem_reverse.mpr hz)) (F.Qcr (F.Qdu u))
end
variable{W ρ:Type}[DecidableEq W]
structure Nst(W ρ:Type) where
 S:List Nat
 lead:Nat->Nat
 mem:Nat->List Nat
 Xh:Nat->List Nat
 tab:W×List Nat->Option Nat
 links:List (Nat×Nat×Option ρ)
 Xf:Nat->Nat->Option Nat
 up:Nat->Option Nat
def Zj(wd:Nat->W)(pt:Nat->List Nat)(ld:Nat->Nat)(p:Nat):W×List Nat:=(wd p,(pt p).map ld)
inductive Cj(S:List Nat)(ld:Nat->Nat)(pend:List (Nat×Nat×Option ρ)):Nat->Nat->Prop
 |lead {p q:Nat}:p∈S->q∈S->ld p=ld q->Cj S ld pend p q
 |wait {p q:Nat} {r:Option ρ}:(p,q,r)∈pend->Cj S ld pend p q
 |symm {p q:Nat}:Cj S ld pend p q->Cj S ld pend q p
 |trans {p q r:Nat}:Cj S ld pend p q->Cj S ld pend q r->Cj S ld pend p r
theorem Cj.map{ld d:Nat->Nat}{pend pend':List (Nat×Nat×Option ρ)}(h1:∀p∈S,∀q∈S,ld p=ld q->Cj S d pend' p q)(h2:∀p q r,(p,q,r)∈pend->Cj S d pend' p q):∀{p q:Nat},Cj S ld pend p q->Cj S d pend' p q:=by
 intro p q c;induction c with
 |lead a b e=>exact h1 _ a _ b e
 |wait m=>exact h2 _ _ _ m
 |symm _ f=>exact .symm f
 |trans _ _ i1 i2=>exact .trans i1 i2
theorem Cj.nil{ld:Nat->Nat}(c:Cj (ρ:=ρ) S ld [] p q):ld p=ld q:=by
 induction c with
 |lead _ _ e=>exact e
 |wait m=>simp at m
 |symm _ a=>exact a.symm
 |trans _ _ i1 i2=>exact i1.trans i2
def Two(F:Nat->Nat->Prop)(ps a:List Nat):Prop:=ps.length=a.length/\∀(i p q:Nat),ps[i]?=Ga p->a[i]?=Ga q->F p q
theorem Qb5{f:Nat->Nat}{ps a:List Nat}:ps.map f=a.map f↔Two (λp q=>f p=f q) ps a:=by
 constructor
 ·intro h;have hl:=congrArg List.length h;simp at hl;refine⟨hl,λi p q b c=>?_⟩;have:(ps.map f)[i]?=(a.map f)[i]?:=by rw[h]
  simpa[b,c]using this
 ·rintro⟨hl,h⟩;refine List.ext_getElem? λi=>?_;rw[List.getElem?_map,List.getElem?_map];rcases Tk i ps.length with hi|hi
  ·have h1:=List.getElem?_eq_getElem hi;have h2:=List.getElem?_eq_getElem (show i<a.length by lia);rw[h1,h2,TZ,TZ,h i _ _ h1 h2]
  ·rw[List.getElem?_eq_none hi,List.getElem?_eq_none (by lia)]
structure X8(wd:Nat->W)(pt:Nat->List Nat)(x:Nst W ρ)(pend:List (Nat×Nat×Option ρ)):Prop where
 nd:x.S.Nodup
 pt_:∀p∈x.S,∀q∈pt p,q∈x.S
 ld:∀p∈x.S,x.lead p∈x.S
 idem:∀p∈x.S,x.lead (x.lead p)=x.lead p
 Qbz:∀l∈x.S,x.lead l=l->∀p,p∈x.mem l↔p∈x.S/\x.lead p=l
 Ql7:∀l∈x.S,x.lead l=l->(x.mem l).Nodup
 Qi2:∀l∈x.S,∀p∈x.Xh l,p∈x.S
 Qwf:∀p∈x.S,∀q∈pt p,p∈x.Xh (x.lead q)
 tabS:∀k u,x.tab k=Ga u->u∈x.S/\wd u=k.1/\(∀q∈k.2,q∈x.S)/\(pt u).map x.lead=k.2.map x.lead
 Qs4:∀p∈x.S,∃u,x.tab (Zj wd pt x.lead p)=Ga u/\Cj x.S x.lead pend u p
 pnd:∀a b r,(a,b,r)∈pend->a∈x.S/\b∈x.S/\(r=Gh->wd a=wd b/\(pt a).map x.lead=(pt b).map x.lead)
 fst:Fst x.S x.links x.Xf x.up
 lnk:∀(n a b:Nat)r,x.links[n]?=Ga (a,b,r)->a∈x.S/\b∈x.S/\(r=Gh->wd a=wd b/\Two (Cn (x.links.take n)) (pt a) (pt b))
 conn:∀p∈x.S,∀q∈x.S,(x.lead p=x.lead q↔Cn x.links p q)
 root:∀p q l m,p∈x.S->q∈x.S->Ch x.up p l->Ch x.up q m->(x.lead p=x.lead q↔Zu l=Zu m)
def scan(ky:Nat->W×List Nat):List Nat->(W×List Nat->Option Nat)->List (Nat×Nat×Option ρ)->(W×List Nat->Option Nat)×List (Nat×Nat×Option ρ)
 |[],t,f=>(t,f)
 |u::r,t,f=>match t (ky u)with
  |some v=>scan ky r t (if v=u then f else f++[(u,v,Gh)])
  |none=>scan ky r (λk=>if k=ky u then Ga u else t k) f
theorem U8{ky:Nat->W×List Nat}:∀{l:List Nat}{t:W×List Nat->Option Nat}{f:List (Nat×Nat×Option ρ)}{k:W×List Nat}{v:Nat},t k=Ga v->(scan ky l t f).1 k=Ga v
 |[],_,_,_,_,h=>h
 |u::r,t,f,k,v,h=>by
  unfold scan;cases e:t (ky u)with
  |some w=>exact U8 h
  |none=>
   refine U8 ?_;have:k≠ky u:=λz=>by rw[z,e]at h;cases h
   simp only[Gi this];exact h
theorem scan_keep{ky:Nat->W×List Nat}:∀{l:List Nat}{t:W×List Nat->Option Nat}{f:List (Nat×Nat×Option ρ)}{y},y∈f->y∈(scan ky l t f).2
 |[],_,_,_,h=>h
 |u::r,t,f,y,h=>by
  unfold scan;cases e:t (ky u)with
  |some w=>
   refine scan_keep ?_;split
   ·exact h
   ·exact List.mem_append_left _ h
  |none=>exact scan_keep h
theorem Qcm{ky:Nat->W×List Nat}:∀{l:List Nat}{t:W×List Nat->Option Nat}{f:List (Nat×Nat×Option ρ)}{u:Nat},u∈l->∃v,(scan ky l t f).1 (ky u)=Ga v/\(v=u\/(u,v,Gh)∈(scan ky l t f).2)
 |[],_,_,_,h=>by simp at h
 |z::r,t,f,u,h=>by
  unfold scan;rcases List.mem_cons.mp h with rfl|h
  ·cases e:t (ky u)with
   |some w=>
    refine⟨w,U8 e,?_⟩;by_cases hw:w=u
    ·exact .inl hw
    ·right;refine scan_keep ?_;rw[Gi hw];simp
   |none=>exact⟨u,U8 (by simp),.inl Xb⟩
  ·cases e:t (ky z)with
   |some w=>exact Qcm h
   |none=>exact Qcm h
theorem Qdk{ky:Nat->W×List Nat}:∀{l:List Nat}{t:W×List Nat->Option Nat}{f:List (Nat×Nat×Option ρ)}{k:W×List Nat}{v:Nat},(scan ky l t f).1 k=Ga v->t k=Ga v\/(v∈l/\k=ky v)
 |[],_,_,_,_,h=>.inl h
 |u::r,t,f,k,v,h=>by
  unfold scan at h;cases e:t (ky u)with
  |some w=>
   rw[e]at h;rcases Qdk h with h|⟨h1,h2⟩
   ·exact .inl h
   ·exact .inr ⟨List.mem_cons_of_mem _ h1,h2⟩
  |none=>
   rw[e]at h;rcases Qdk h with h|⟨h1,h2⟩
   ·by_cases a:k=ky u
    ·simp only[Gn a]at h;cases h;exact .inr ⟨List.mem_cons_self,a⟩
    ·simp only[Gi a]at h;exact .inl h
   ·exact .inr ⟨List.mem_cons_of_mem _ h1,h2⟩
theorem V4{ky:Nat->W×List Nat}:∀{l:List Nat}{t:W×List Nat->Option Nat}{f:List (Nat×Nat×Option ρ)}{a b:Nat}{r:Option ρ},(a,b,r)∈(scan ky l t f).2->(a,b,r)∈f\/(r=Gh/\a∈l/\(scan ky l t f).1 (ky a)=Ga b)
 |[],_,_,_,_,_,h=>.inl h
 |u::l,t,f,a,b,r,h=>by
  unfold scan at h⊢;cases e:t (ky u)with
  |some w=>
   rw[e]at h;rcases V4 h with h|⟨h1,h2,c⟩
   ·split at h
    ·exact .inl h
    ·rcases List.mem_append.mp h with h|h
     ·exact .inl h
     ·simp at h;obtain⟨rfl,rfl,rfl⟩:=h;exact .inr ⟨Xb,List.mem_cons_self,U8 e⟩
   ·exact .inr ⟨h1,List.mem_cons_of_mem _ h2,c⟩
  |none=>
   rw[e]at h;rcases V4 h with h|⟨h1,h2,c⟩
   ·exact .inl h
   ·exact .inr ⟨h1,List.mem_cons_of_mem _ h2,c⟩
theorem scan_len{ky:Nat->W×List Nat}:∀{l:List Nat}{t:W×List Nat->Option Nat}{f:List (Nat×Nat×Option ρ)},(scan ky l t f).2.length<=f.length+l.length
 |[],_,_=>by simp[scan]
 |u::l,t,f=>by
  unfold scan;cases e:t (ky u)with
  |some w=>
   have:=scan_len (ky:=ky) (l:=l) (t:=t) (f:=if w=u then f else f++[(u,w,Gh)]);simp only[List.length_cons];split at this
   ·rename_i h
    simp only[Gn h];lia
   ·rename_i h
    simp only[Gi h];rw[List.length_append,List.length_singleton]at this;lia
  |none=>have:=scan_len (ky:=ky) (l:=l) (t:=λk=>if k=ky u then Ga u else t k) (f:=f);simp only[List.length_cons];lia
def Q8(x:Nst W ρ)(a kept:Nat):Nat->Nat:=λp=>if p∈x.mem a then kept else x.lead p
def V8(wd:Nat->W)(pt:Nat->List Nat)(x:Nst W ρ)(a kept:Nat):Nst W ρ×List (Nat×Nat×Option ρ):=
 ({x with lead:=Q8 x a kept,mem:=(λp=>if p=kept then x.mem kept++x.mem a else x.mem p),Xh:=(λp=>if p=kept then x.Xh kept++x.Xh a else x.Xh p),tab:=(scan (ρ:=ρ) (Zj wd pt (Q8 x a kept)) (x.Xh a) x.tab []).1},(scan (Zj wd pt (Q8 x a kept)) (x.Xh a) x.tab []).2)
def Qa9(Xf:Nat->Nat->Option Nat)(a b n:Nat):Nat->Nat->Option Nat:=λp q=>if(p=a/\q=b)\/(p=b/\q=a)then Ga n else Xf p q
def Yj(wd:Nat->W)(pt:Nat->List Nat)(x:Nst W ρ)(a b:Nat)(r:Option ρ)(lo hi:Nat)(cl:List Nat):Nst W ρ×List (Nat×Nat×Option ρ):=
 V8 wd pt {x with links:=x.links++[(a,b,r)],Xf:=Qa9 x.Xf a b x.links.length,up:=Xm x.up hi cl} (x.lead lo) (x.lead hi)
section
variable{wd:Nat->W}{pt:Nat->List Nat}{x:Nst W ρ}{pend:List (Nat×Nat×Option ρ)}
theorem Qxx{ls:List (Nat×Nat×Option ρ)}{r:Option ρ}(c:Cn (ls++[(a,b,r)]) p q):Cn ls p q\/(Cn ls p a/\Cn ls b q)\/(Cn ls p b/\Cn ls a q):=by
 induction c with
 |refl p=>exact .inl (.refl p)
 |symm _ f=>
  rcases f with h|⟨h1,h2⟩|⟨h1,h2⟩
  ·exact .inl (.symm h)
  ·exact .inr (.inr ⟨.symm h2,.symm h1⟩)
  ·exact .inr (.inl ⟨.symm h2,.symm h1⟩)
 |trans _ _ i1 i2=>
  rcases i1 with h|⟨h1,h2⟩|⟨h1,h2⟩<;>rcases i2 with k|⟨e,d⟩|⟨e,d⟩
  ·exact .inl (.trans h k)
  ·exact .inr (.inl ⟨.trans h e,d⟩)
  ·exact .inr (.inr ⟨.trans h e,d⟩)
  ·exact .inr (.inl ⟨h1,.trans h2 k⟩)
  ·exact .inr (.inl ⟨h1,d⟩)
  ·exact .inl (.trans h1 d)
  ·exact .inr (.inr ⟨h1,.trans h2 k⟩)
  ·exact .inl (.trans h1 d)
  ·exact .inr (.inr ⟨h1,d⟩)
 |link m=>
  rcases List.mem_append.mp m with m|m
  ·exact .inl (.link m)
  ·simp at m;obtain⟨rfl,rfl,rfl⟩:=m;exact .inr (.inl ⟨.refl _,.refl _⟩)
theorem X8.Qun(I:X8 wd pt x pend){g k:Nat}(b:g∈x.S)(a:x.lead g=g)(c:p∈x.S):Q8 x g k p=if x.lead p=g then k else x.lead p:=by
 unfold Q8;by_cases h:x.lead p=g
 ·rw[Gn h,Gn ((I.Qbz g b a p).mpr ⟨c,h⟩)]
 ·rw[Gi h,Gi λz=>h ((I.Qbz g b a p).mp z).2]
end
variable{W ρ:Type}[DecidableEq W]
section
variable{wd:Nat->W}{pt:Nat->List Nat}{x:Nst W ρ}{pend:List (Nat×Nat×Option ρ)}
theorem X8.join(I:X8 wd pt x (pend++[(a,b,r)]))(ac:x.lead a≠x.lead b)(Q:(lo=a/\hi=b)\/(lo=b/\hi=a))(hc:Ch x.up lo cl):
  X8 wd pt (Yj wd pt x a b r lo hi cl).1 (pend++(Yj wd pt x a b r lo hi cl).2)/\(∀p∈x.S,(Yj wd pt x a b r lo hi cl).1.lead p=if x.lead p=x.lead lo then x.lead hi else x.lead p):=by
 obtain⟨aS,bS,N⟩:=I.pnd a b r (by simp);have M:lo∈x.S:=by rcases Q with⟨h,_⟩|⟨h,_⟩<;>rw[h]<;>assumption
 have G:hi∈x.S:=by rcases Q with⟨_,h⟩|⟨_,h⟩<;>rw[h]<;>assumption
 have s:x.lead lo≠x.lead hi:=by
  rcases Q with⟨h1,h2⟩|⟨h1,h2⟩<;>rw[h1,h2]
  ·exact ac
  ·exact Gp ac
 obtain⟨lh,D⟩:=I.fst.chain hi G;have Z:=I.ld lo M;have gg:=I.idem lo M;have kS:=I.ld hi G;have kk:=I.idem hi G;generalize hG:x.lead lo=g at*;generalize hK:x.lead hi=k at*;have ab:(x.lead a=g/\x.lead b=k)\/(x.lead a=k/\x.lead b=g):=by
  rcases Q with⟨h1,h2⟩|⟨h1,h2⟩
  ·left;rw[<-h1,<-h2];exact⟨hG,hK⟩
  ·right;rw[<-h1,<-h2];exact⟨hK,hG⟩
 have L:∀p∈x.S,Q8 x g k p=if x.lead p=g then k else x.lead p:=λp d=>I.Qun Z gg d;have eJ:Yj wd pt x a b r lo hi cl=V8 wd pt {x with links:=x.links++[(a,b,r)],Xf:=Qa9 x.Xf a b x.links.length,up:=Xm x.up hi cl} g k:=by unfold Yj;rw[hG,hK]
 rw[eJ];have nC:¬Cn x.links a b:=λc=>ac ((I.conn a aS b bS).mpr c);have W:∀p∈x.S,∀q∈x.S,x.lead p=x.lead q->Q8 x g k p=Q8 x g k q:=λp d q j e=>by rw[L p d,L q j,e]
 have LS:∀p∈x.S,Q8 x g k p∈x.S:=λp d=>by
  rw[L p d];split
  ·exact kS
  ·exact I.ld p d
 have Lk:Q8 x g k k=k:=by rw[L k kS,kk,Gi (Gp s)]
 have Li:∀p∈x.S,Q8 x g k (Q8 x g k p)=Q8 x g k p:=λp d=>by
  by_cases h:x.lead p=g
  ·rw[L p d,Gn h,Lk]
  ·rw[L p d,Gi h,L _ (I.ld p d),I.idem p d,Gi h]
 have Mp:∀p∈x.S,∀q∈x.S,(pt p).map x.lead=(pt q).map x.lead->(pt p).map (Q8 x g k)=(pt q).map (Q8 x g k):=λp d q j e=>by rw[Qb5]at e⊢;exact⟨e.1,λi u v F K=>W u (I.pt_ p d u (List.mem_of_getElem? F)) v (I.pt_ q j v (List.mem_of_getElem? K)) (e.2 i u v F K)⟩
 have TS:∀ky u,(scan (ρ:=ρ) (Zj wd pt (Q8 x g k)) (x.Xh g) x.tab []).1 ky=Ga u->u∈x.S/\wd u=ky.1/\(∀q∈ky.2,q∈x.S)/\(pt u).map (Q8 x g k)=ky.2.map (Q8 x g k):=λky u h=>by
  rcases Qdk h with h|⟨h1,h2⟩
  ·obtain⟨k1,k2,k3,k4⟩:=I.tabS ky u h;refine⟨k1,k2,k3,?_⟩;rw[Qb5]at k4⊢;exact⟨k4.1,λi u' v F K=>W u' (I.pt_ u k1 u' (List.mem_of_getElem? F)) v (k3 v (List.mem_of_getElem? K)) (k4.2 i u' v F K)⟩
  ·have uS:=I.Qi2 g Z u h1;subst h2;refine⟨uS,Xb,λq j=>?_,?_⟩
   ·obtain⟨q',B,rfl⟩:=List.mem_map.mp j;exact LS q' (I.pt_ u uS q' B)
   ·show(pt u).map (Q8 x g k)=((pt u).map (Q8 x g k)).map (Q8 x g k);rw[List.map_map];refine List.map_congr_left λq j=>?_;exact(Li q (I.pt_ u uS q j)).symm
 have dis:∀z∈lh,z∉cl:=λz hz T=>by
  obtain⟨m1,X,O⟩:=D.R3 hz;obtain⟨m2,Y,J⟩:=hc.R3 T;have:Zu lh=Zu cl:=by rw[<-O,<-J,X.uniq Y]
  exact s ((I.root lo hi cl lh M G hc D).mpr this.symm|>λe=>by rw[hG,hK]at e;exact e)
 have hh:Ch (Xm x.up hi cl) hi lh:=D.Qcy dis;have R:∀p∈x.S,∀lp,Ch x.up p lp->∃l,Ch (Xm x.up hi cl) p l/\(x.lead p=g->Zu l=Zu lh)/\(x.lead p≠g->Zu l=Zu lp):=λp d lp w=>by
  by_cases h:∃z∈lp,z∈cl
  ·obtain⟨l,h1,h2⟩:=Qrc hc.nodup hh w h;refine⟨l,h1,λ_=>h2,λA=>?_⟩;exfalso;obtain⟨z,hz,T⟩:=h;obtain⟨m1,X,O⟩:=w.R3 hz;obtain⟨m2,Y,J⟩:=hc.R3 T;have:Zu lp=Zu cl:=by rw[<-O,<-J,X.uniq Y]
   exact A (by rw[<-hG];exact(I.root p lo lp cl d M w hc).mpr this)
  ·have h1:Ch (Xm x.up hi cl) p lp:=w.Qcy λz hz T=>h ⟨z,hz,T⟩;refine⟨lp,h1,λe=>?_,λ_=>rfl⟩;exfalso;have:=(I.root p lo lp cl d M w hc).mp (by rw[hG];exact e);have m1:Zu lp∈lp:=by have:=w.ne;unfold Zu;rw[List.getLastD_eq_getLast?,List.getLast?_eq_some_getLast this];exact List.getLast_mem this
   have m2:Zu cl∈cl:=by have:=hc.ne;unfold Zu;rw[List.getLastD_eq_getLast?,List.getLast?_eq_some_getLast this];exact List.getLast_mem this
   exact h ⟨_,m1,by rw[this];exact m2⟩
 have C1:∀p∈x.S,∀q∈x.S,(Q8 x g k p=Q8 x g k q↔Cn (x.links++[(a,b,r)]) p q):=λp d q j=>by
  have mono:∀{u v:Nat},Cn x.links u v->Cn (x.links++[(a,b,r)]) u v:=λc=>c.mono λy hy=>List.mem_append_left _ hy;have lk:Cn (x.links++[(a,b,r)]) a b:=.link (r:=r) (by simp);have gk:∀u∈x.S,∀v∈x.S,x.lead u=g->x.lead v=k->Cn (x.links++[(a,b,r)]) u v:=λu F v K O J=>by
   rcases ab with⟨h1,h2⟩|⟨h1,h2⟩
   ·exact .trans (mono ((I.conn u F a aS).mp (O.trans h1.symm))) (.trans lk (mono ((I.conn b bS v K).mp (h2.trans J.symm))))
   ·exact .trans (mono ((I.conn u F b bS).mp (O.trans h2.symm))) (.trans (.symm lk) (mono ((I.conn a aS v K).mp (h1.trans J.symm))))
  constructor
  ·intro e;rw[L p d,L q j]at e;by_cases h1:x.lead p=g<;>by_cases h2:x.lead q=g
   ·exact mono ((I.conn p d q j).mp (h1.trans h2.symm))
   ·rw[Gn h1,Gi h2]at e;exact gk p d q j h1 e.symm
   ·rw[Gi h1,Gn h2]at e;exact .symm (gk q j p d h2 e)
   ·rw[Gi h1,Gi h2]at e;exact mono ((I.conn p d q j).mp e)
  ·intro c;have ae:Q8 x g k a=Q8 x g k b:=by
    rw[L a aS,L b bS];rcases ab with⟨h1,h2⟩|⟨h1,h2⟩
    ·rw[Gn h1,Gi (by rw[h2];exact Gp s),h2]
    ·rw[Gn h2,Gi (by rw[h1];exact Gp s),h1]
   rcases Qxx c with c|⟨X,Y⟩|⟨X,Y⟩
   ·exact W p d q j ((I.conn p d q j).mpr c)
   ·exact(W p d a aS ((I.conn p d a aS).mpr X)).trans (ae.trans (W b bS q j ((I.conn b bS q j).mpr Y)))
   ·exact(W p d b bS ((I.conn p d b bS).mpr X)).trans (ae.symm.trans (W a aS q j ((I.conn a aS q j).mpr Y)))
 have tk:∀{n:Nat},n<=x.links.length->(x.links++[(a,b,r)]).take n=x.links.take n:=λh=>List.take_append_of_le_length h;have gl:∀{n:Nat}{y},(x.links++[(a,b,r)])[n]?=Ga y->(n<x.links.length/\x.links[n]?=Ga y)\/(n=x.links.length/\y=(a,b,r)):=λ{n y}h=>by
  rcases Tk n x.links.length with A|A
  ·rw[List.getElem?_append_left A]at h;exact .inl ⟨A,h⟩
  ·rw[List.getElem?_append_right A]at h;have:n - x.links.length=0:=by have:=(List.getElem?_eq_some_iff.mp h).1;simp at this;lia
   rw[this]at h;simp at h;exact .inr ⟨by lia,h.symm⟩
 have P:∀p q,Xm x.up hi cl p=Ga q->x.up p=Ga q\/(p=lo/\q=hi)\/x.up q=Ga p:=λp q h=>by
  rcases Qce hc.nodup h with h|⟨C,e,J⟩|⟨H,U,e⟩
  ·exact .inl h
  ·obtain⟨ag,e3⟩:=hc.head;rw[e]at e3;cases e3;exact .inr (.inl ⟨Xb,J⟩)
  ·exact .inr (.inr (hc.Qey e))
 refine⟨⟨I.nd,I.pt_,LS,Li,λl hl e p=>?_,λl hl e=>?_,λl hl p d=>?_,λp d q j=>?_,TS,λp d=>?_,λH U C h=>?_,⟨λp q h=>?_,λp q n h=>?_,λn p q C h=>?_,λn p q C h=>?_,λp d=>?_,λp q h=>?_⟩,λn H U C h=>?_,C1,λp q l m d j h1 h2=>?_⟩,λp d=>L p d⟩
 ·
  have e:Q8 x g k l=l:=e;have lg:x.lead l≠g:=λz=>by rw[L l hl,Gn z]at e;rw[<-e,kk]at z;exact s z.symm
  have ll:x.lead l=l:=by rw[L l hl,Gi lg]at e;exact e
  show p∈(if l=k then x.mem k++x.mem g else x.mem l)↔p∈x.S/\Q8 x g k p=l;by_cases E:l=k
  ·rw[Gn E,List.mem_append,I.Qbz k kS kk,I.Qbz g Z gg];constructor
   ·rintro(⟨h1,h2⟩|⟨h1,h2⟩)
    ·exact⟨h1,by rw[L p h1,h2,Gi (Gp s),E]⟩
    ·exact⟨h1,by rw[L p h1,Gn h2,E]⟩
   ·rintro⟨h1,h2⟩;rw[L p h1]at h2;by_cases V:x.lead p=g
    ·exact .inr ⟨h1,V⟩
    ·rw[Gi V]at h2;exact .inl ⟨h1,h2.trans E⟩
  ·rw[Gi E,I.Qbz l hl ll];constructor
   ·rintro⟨h1,h2⟩;exact⟨h1,by rw[L p h1,Gi (by rw[h2,<-ll];exact lg),h2]⟩
   ·rintro⟨h1,h2⟩;rw[L p h1]at h2;by_cases V:x.lead p=g
    ·rw[Gn V]at h2;exact absurd h2.symm E
    ·rw[Gi V]at h2;exact⟨h1,h2⟩
 ·have e:Q8 x g k l=l:=e;have lg:x.lead l≠g:=λz=>by rw[L l hl,Gn z]at e;rw[<-e,kk]at z;exact s z.symm
  have ll:x.lead l=l:=by rw[L l hl,Gi lg]at e;exact e
  show(if l=k then x.mem k++x.mem g else x.mem l).Nodup;by_cases E:l=k
  ·rw[Gn E,List.nodup_append];refine⟨I.Ql7 k kS kk,I.Ql7 g Z gg,λu F v K z=>?_⟩;subst z;have h1:=((I.Qbz k kS kk u).mp F).2;have h2:=((I.Qbz g Z gg u).mp K).2;exact s (h2.symm.trans h1)
  ·rw[Gi E];exact I.Ql7 l hl ll
 ·have d:p∈(if l=k then x.Xh k++x.Xh g else x.Xh l):=d;by_cases E:l=k
  ·rw[Gn E]at d;rcases List.mem_append.mp d with h|h
   ·exact I.Qi2 k kS p h
   ·exact I.Qi2 g Z p h
  ·rw[Gi E]at d;exact I.Qi2 l hl p d
 ·show p∈(if Q8 x g k q=k then x.Xh k++x.Xh g else x.Xh (Q8 x g k q));have o:=I.Qwf p d q j;have qS:=I.pt_ p d q j;by_cases h:x.lead q=g
  ·rw[L q qS,Gn h,Gn rfl];rw[h]at o;exact List.mem_append_right _ o
  ·rw[L q qS,Gi h];by_cases E:x.lead q=k
   ·rw[Gn E];rw[E]at o;exact List.mem_append_left _ o
   ·rw[Gi E];exact o
 ·
  show∃u,(scan (ρ:=ρ) (Zj wd pt (Q8 x g k)) (x.Xh g) x.tab []).1 (Zj wd pt (Q8 x g k) p)=Ga u/\Cj x.S (Q8 x g k) (pend++(scan (Zj wd pt (Q8 x g k)) (x.Xh g) x.tab []).2) u p;by_cases h:∃q∈pt p,x.lead q=g
  ·obtain⟨q,j,e⟩:=h;have F:=I.Qwf p d q j;rw[e]at F;obtain⟨v,h1,h2⟩:=Qcm (ρ:=ρ) (ky:=Zj wd pt (Q8 x g k)) (t:=x.tab) (f:=[]) F;refine⟨v,h1,?_⟩;rcases h2 with rfl|h2
   ·exact .lead d d rfl
   ·exact .symm (.wait (r:=Gh) (List.mem_append_right _ h2))
  ·obtain⟨u,h1,h2⟩:=I.Qs4 p d;have ek:Zj wd pt (Q8 x g k) p=Zj wd pt x.lead p:=by unfold Zj;refine L4 rfl (List.map_congr_left λq j=>?_);rw[L q (I.pt_ p d q j),Gi λz=>h ⟨q,j,z⟩]
   refine⟨u,by rw[ek];exact U8 h1,h2.map (λp d q j e=>.lead d j (W p d q j e)) λp q C m=>?_⟩;rcases List.mem_append.mp m with m|m
   ·exact .wait (List.mem_append_left _ m)
   ·simp at m;obtain⟨rfl,rfl,rfl⟩:=m;exact .lead aS bS ((C1 _ aS _ bS).mpr (.link (r:=C) (by simp)))
 ·
  rcases List.mem_append.mp h with h|h
  ·obtain⟨h1,h2,V⟩:=I.pnd H U C (List.mem_append_left _ h);exact⟨h1,h2,λe=>⟨(V e).1,Mp H h1 U h2 (V e).2⟩⟩
  ·rcases V4 (show(H,U,C)∈(scan (Zj wd pt (Q8 x g k)) (x.Xh g) x.tab []).2 from h)with h|⟨h1,h2,V⟩
   ·simp at h
   ·have ad:=I.Qi2 g Z H h2;obtain⟨k1,k2,k3,k4⟩:=TS _ _ V;refine⟨ad,k1,λ_=>⟨k2.symm,?_⟩⟩;show(pt H).map (Q8 x g k)=(pt U).map (Q8 x g k);rw[k4];show _=((pt H).map (Q8 x g k)).map (Q8 x g k);rw[List.map_map];exact List.map_congr_left λq j=>(Li q (I.pt_ H ad q j)).symm
 ·
  show∃n,Qa9 x.Xf a b x.links.length p q=Ga n;unfold Qa9;by_cases A:(p=a/\q=b)\/(p=b/\q=a)
  ·exact⟨_,Gn A⟩
  ·rw[Gi A];rcases P p q h with h|⟨O,J⟩|h
   ·exact I.fst.Qey p q h
   ·exfalso;apply A;rcases Q with⟨h1,h2⟩|⟨h1,h2⟩
    ·exact .inl ⟨O.trans h1,J.trans h2⟩
    ·exact .inr ⟨O.trans h1,J.trans h2⟩
   ·obtain⟨n,A⟩:=I.fst.Qey q p h;exact⟨n,I.fst.Qcr A⟩
 ·have h:Qa9 x.Xf a b x.links.length p q=Ga n:=h;unfold Qa9 at h;show∃C,(x.links++[(a,b,r)])[n]?=Ga (p,q,C)\/(x.links++[(a,b,r)])[n]?=Ga (q,p,C);by_cases A:(p=a/\q=b)\/(p=b/\q=a)
  ·rw[Gn A]at h;cases h;refine⟨r,?_⟩;rcases A with⟨rfl,rfl⟩|⟨rfl,rfl⟩
   ·left;simp
   ·right;simp
  ·rw[Gi A]at h;obtain⟨C,h|h⟩:=I.fst.Qg1 p q n h
   ·exact⟨C,.inl (by rw[List.getElem?_append_left (List.getElem?_eq_some_iff.mp h).1];exact h)⟩
   ·exact⟨C,.inr (by rw[List.getElem?_append_left (List.getElem?_eq_some_iff.mp h).1];exact h)⟩
 ·show Qa9 x.Xf a b x.links.length p q=Ga n/\Qa9 x.Xf a b x.links.length q p=Ga n;rcases gl h with⟨A,h'⟩|⟨A,h⟩
  ·have no:¬((p=a/\q=b)\/(p=b/\q=a)):=by
    rintro(⟨rfl,rfl⟩|⟨rfl,rfl⟩)
    ·exact nC (.link (List.mem_of_getElem? h'))
    ·exact nC (.symm (.link (List.mem_of_getElem? h')))
   have af:¬((q=a/\p=b)\/(q=b/\p=a)):=λz=>no (z.elim (λ⟨y1,y2⟩=>.inr ⟨y2,y1⟩) λ⟨y1,y2⟩=>.inl ⟨y2,y1⟩);unfold Qa9;rw[Gi no,Gi af];exact I.fst.all n p q C h'
  ·simp only[Df]at h;obtain⟨rfl,rfl,rfl⟩:=h;subst A;unfold Qa9;exact⟨Gn (.inl ⟨Xb,Xb⟩),Gn (.inr ⟨Xb,Xb⟩)⟩
 ·show¬Cn ((x.links++[(a,b,r)]).take n) p q;rcases gl h with⟨A,h⟩|⟨A,h⟩
  ·rw[tk (by lia)];exact I.fst.sep n p q C h
  ·simp only[Df]at h;obtain⟨rfl,rfl,rfl⟩:=h;rw[tk (by lia),A,List.take_length];exact nC
 ·obtain⟨lp,w⟩:=I.fst.chain p d;obtain⟨l,h1,_⟩:=R p d lp w;exact⟨l,h1⟩
 ·rcases P p q h with h|⟨O,J⟩|h
  ·exact I.fst.inS p q h
  ·rw[O,J];exact⟨M,G⟩
  ·exact(I.fst.inS q p h).symm
 ·show H∈x.S/\U∈x.S/\(C=Gh->wd H=wd U/\Two (Cn ((x.links++[(a,b,r)]).take n)) (pt H) (pt U));rcases gl h with⟨A,h⟩|⟨A,h⟩
  ·rw[tk (by lia)];exact I.lnk n H U C h
  ·simp only[Df]at h;obtain⟨rfl,rfl,rfl⟩:=h;rw[tk (by lia),A,List.take_length];refine⟨aS,bS,λe=>⟨(N e).1,?_⟩⟩;have t:=Qb5.mp (N e).2;exact⟨t.1,λi u v F K=>(I.conn u (I.pt_ _ aS u (List.mem_of_getElem? F)) v (I.pt_ _ bS v (List.mem_of_getElem? K))).mp (t.2 i u v F K)⟩
 ·show Q8 x g k p=Q8 x g k q↔Zu l=Zu m;obtain⟨lp,w⟩:=I.fst.chain p d;obtain⟨lq,aa⟩:=I.fst.chain q j;obtain⟨l',p1,p2,p3⟩:=R p d lp w;obtain⟨m',q1,q2,q3⟩:=R q j lq aa;have el:=Ch.uniq (show Ch (Xm x.up hi cl) p l from h1) p1;have em:=Ch.uniq (show Ch (Xm x.up hi cl) q m from h2) q1;subst el em;have rp:=I.root p hi lp lh d G w D;have rq:=I.root q hi lq lh j G aa D;rw[hK]at rp rq;rw[L p d,L q j];by_cases o:x.lead p=g<;>by_cases B:x.lead q=g
  ·rw[Gn o,Gn B,p2 o,q2 B];exact⟨λ_=>rfl,λ_=>rfl⟩
  ·rw[Gn o,Gi B,p2 o,q3 B];exact⟨λe=>(rq.mp e.symm).symm,λe=>(rq.mpr e.symm).symm⟩
  ·rw[Gi o,Gn B,p3 o,q2 B];exact rp
  ·rw[Gi o,Gi B,p3 o,q3 B];exact I.root p q lp lq d j w aa
end
variable{W ρ:Type}[DecidableEq W]
section
variable{wd:Nat->W}{pt:Nat->List Nat}{x:Nst W ρ}{pend pend':List (Nat×Nat×Option ρ)}
theorem X8.Qn5(I:X8 wd pt x pend)(h1:∀p q r,(p,q,r)∈pend->Cj x.S x.lead pend' p q)(h2:∀a b r,(a,b,r)∈pend'->a∈x.S/\b∈x.S/\(r=Gh->wd a=wd b/\(pt a).map x.lead=(pt b).map x.lead)):X8 wd pt x pend':=
 ⟨I.nd,I.pt_,I.ld,I.idem,I.Qbz,I.Ql7,I.Qi2,I.Qwf,I.tabS,λp d=>by obtain⟨u,e,c⟩:=I.Qs4 p d;exact⟨u,e,c.map (λp d q f e=>.lead d f e) h1⟩,h2,I.fst,I.lnk,I.conn,I.root⟩
theorem X8.drop{r:Option ρ}(I:X8 wd pt x (pend++[(a,b,r)]))(e:x.lead a=x.lead b):X8 wd pt x pend:=by
 obtain⟨aS,bS,_⟩:=I.pnd a b r (by simp);refine I.Qn5 (λp q c m=>?_) λd f c m=>I.pnd d f c (List.mem_append_left _ m);rcases List.mem_append.mp m with m|m
 ·exact .wait m
 ·simp at m;obtain⟨rfl,rfl,rfl⟩:=m;exact .lead aS bS e
theorem X8.cong(I:X8 wd pt x [])(a:p∈x.S)(b:q∈x.S)(e:Zj wd pt x.lead p=Zj wd pt x.lead q):x.lead p=x.lead q:=by obtain⟨u,h1,h2⟩:=I.Qs4 p a;obtain⟨v,c,d⟩:=I.Qs4 q b;rw[e,c]at h1;cases h1;exact h2.nil.symm.trans d.nil
structure Ec(wd:Nat->W)(pt:Nat->List Nat)(S:List Nat)(E:Nat->Nat->Prop):Prop where
 refl:∀p,E p p
 symm:∀p q,E p q->E q p
 trans:∀p q r,E p q->E q r->E p r
 cong:∀p∈S,∀q∈S,wd p=wd q->Two E (pt p) (pt q)->E p q
def Snd(E:Nat->Nat->Prop)(x:Nst W ρ)(pend:List (Nat×Nat×Option ρ)):Prop:=(∀p∈x.S,∀q∈x.S,x.lead p=x.lead q->E p q)/\∀a b r,(a,b,r)∈pend->E a b
theorem Snd.join{E:Nat->Nat->Prop}{a b:Nat}{r:Option ρ}(H:Snd E x (pend++[(a,b,r)]))(X:Ec wd pt x.S E)(I:X8 wd pt x (pend++[(a,b,r)]))(A:x.lead a≠x.lead b){lo hi:Nat}{cl:List Nat}(c:(lo=a/\hi=b)\/(lo=b/\hi=a))(hc:Ch x.up lo cl):
  Snd E (Yj wd pt x a b r lo hi cl).1 (pend++(Yj wd pt x a b r lo hi cl).2):=by
 obtain⟨J,L⟩:=I.join A c hc;obtain⟨aS,bS,_⟩:=I.pnd a b r (by simp);have g:E a b:=H.2 a b r (by simp);have B:lo∈x.S:=by rcases c with⟨h,_⟩|⟨h,_⟩<;>rw[h]<;>assumption
 have z:hi∈x.S:=by rcases c with⟨_,h⟩|⟨_,h⟩<;>rw[h]<;>assumption
 have y:E lo hi:=by
  rcases c with⟨h1,h2⟩|⟨h1,h2⟩<;>rw[h1,h2]
  ·exact g
  ·exact X.symm _ _ g
 have C:∀u∈x.S,∀v∈x.S,x.lead u=x.lead lo->x.lead v=x.lead hi->E u v:=λu l v n s w=>X.trans _ _ _ (H.1 u l lo B s) (X.trans _ _ _ y (H.1 hi z v n w.symm));have S1:∀p∈x.S,∀q∈x.S,(Yj wd pt x a b r lo hi cl).1.lead p=(Yj wd pt x a b r lo hi cl).1.lead q->E p q:=λp j q k e=>by
  rw[L p j,L q k]at e;by_cases h1:x.lead p=x.lead lo<;>by_cases h2:x.lead q=x.lead lo
  ·exact H.1 p j q k (h1.trans h2.symm)
  ·rw[Gn h1,Gi h2]at e;exact C p j q k h1 e.symm
  ·rw[Gi h1,Gn h2]at e;exact X.symm _ _ (C q k p j h2 e)
  ·rw[Gi h1,Gi h2]at e;exact H.1 p j q k e
 refine⟨S1,λd f o m=>?_⟩;rcases List.mem_append.mp m with h|h
 ·exact H.2 d f o (List.mem_append_left _ h)
 ·obtain⟨h1,h2,D⟩:=J.pnd d f o m;have F:o=Gh:=by
   rcases V4 (show(d,f,o)∈(scan _ _ _ []).2 from h)with h|⟨h1,_⟩
   ·simp at h
   ·exact h1
  obtain⟨s,w⟩:=D F;have t:=Qb5.mp w;exact X.cong d h1 f h2 s ⟨t.1,λi u v l n=>S1 u (I.pt_ d h1 u (List.mem_of_getElem? l)) v (I.pt_ f h2 v (List.mem_of_getElem? n)) (t.2 i u v l n)⟩
theorem Qkv{r:Option ρ}{d e:Nat}{c:Option ρ}(h:(d,e,c)∈(Yj wd pt x a b r lo hi cl).2):c=Gh:=by
 rcases V4 (show(d,e,c)∈(scan _ _ _ []).2 from h)with h|⟨h1,_⟩
 ·simp at h
 ·exact h1
def cls(x:Nst W ρ):Nat:=x.S.countP λp=>decide (x.lead p=p)
def V3(x:Nst W ρ):Nat:=(x.S.map λp=>if x.lead p=p then(x.Xh p).length else 0).sum
theorem Qd2{α:Type}{p q:α->Bool}:∀{l:List α},(∀x∈l,p x=Gf->q x=Gf)->l.countP p<=l.countP q
 |[],_=>by simp
 |x::r,h=>by
  have b:=Qd2 (l:=r) (λy a=>h y (List.mem_cons_of_mem _ a));have h1:=h x List.mem_cons_self;rw[List.countP_cons,List.countP_cons];cases e:p x with
  |true=>rw[h1 e];simp;exact b
  |false=>simp;omega
theorem Qdl{α:Type}{p q:α->Bool}:∀{l:List α},(∀x∈l,p x=Gf->q x=Gf)->(∃x∈l,q x=Gf/\p x=Gq)->l.countP p<l.countP q
 |[],_,h=>by obtain⟨x,c,_⟩:=h;simp at c
 |x::r,h,⟨y,a,h1,h2⟩=>by
  rw[List.countP_cons,List.countP_cons];rcases List.mem_cons.mp a with rfl|a
  ·have:=Qd2 (l:=r) (λy a=>h y (List.mem_cons_of_mem _ a));rw[h1,h2];simp;lia
  ·have d:=Qdl (l:=r) (λy a=>h y (List.mem_cons_of_mem _ a)) ⟨y,a,h1,h2⟩;have b:=h x List.mem_cons_self;cases e:p x with
   |true=>rw[b e];simp;exact d
   |false=>simp;lia
theorem Qrd{f a:Nat->Nat}:∀{S:List Nat},(∀p∈S,f p=a p)->(S.map f).sum=(S.map a).sum:=λh=>by rw[List.map_congr_left h]
theorem Qoi{f b:Nat->Nat}{g k:Nat}(d:g≠k):∀{S:List Nat},S.Nodup->g∈S->k∈S->b g+b k=f g+f k->(∀p∈S,p≠g->p≠k->b p=f p)->(S.map b).sum=(S.map f).sum
 |[],_,h,_,_,_=>by simp at h
 |x::r,nd,q,t,e,h=>by
  rw[List.nodup_cons]at nd;have one:∀{u v:Nat}{S:List Nat},S.Nodup->v∈S->u∉S->(∀p∈S,p≠u->p≠v->b p=f p)->(S.map b).sum+f v=(S.map f).sum+b v:=by
   intro u v S;induction S with
   |nil=>intro _ h;simp at h
   |cons z s w=>
    intro nd n m o;rw[List.nodup_cons]at nd;simp only[List.mem_cons,not_or]at m;simp only[List.map_cons,List.sum_cons];rcases List.mem_cons.mp n with rfl|n
    ·have:(s.map b).sum=(s.map f).sum:=Qrd λp a=>o p (List.mem_cons_of_mem _ a) (λz=>m.2 (z▸a)) (λz=>nd.1 (z▸a));lia
    ·have:=w nd.2 n m.2 λp a=>o p (List.mem_cons_of_mem _ a);have hz:=o z List.mem_cons_self (Gp m.1) (λy=>nd.1 (y▸n));lia
  simp only[List.map_cons,List.sum_cons];by_cases j:x=g
  ·subst j;have i:k∈r:=(List.mem_cons.mp t).resolve_left (Gp d);have:=one (u:=x) nd.2 i nd.1 λp a h1 h2=>h p (List.mem_cons_of_mem _ a) h1 h2;lia
  ·by_cases l:x=k
   ·subst l;have c:g∈r:=(List.mem_cons.mp q).resolve_left d;have:=one (u:=x) nd.2 c nd.1 λp a h1 h2=>h p (List.mem_cons_of_mem _ a) h2 h1;lia
   ·have c:g∈r:=(List.mem_cons.mp q).resolve_left (Gp j);have i:k∈r:=(List.mem_cons.mp t).resolve_left (Gp l);have:=Qoi d nd.2 c i e λp a=>h p (List.mem_cons_of_mem _ a);have:=h x List.mem_cons_self j l;lia
theorem Je{f:Nat->Nat}:∀{S:List Nat}{p:Nat},p∈S->f p<=(S.map f).sum
 |x::r,p,h=>by
  simp only[List.map_cons,List.sum_cons];rcases List.mem_cons.mp h with rfl|h
  ·lia
  ·have:=Je (f:=f) h;lia
theorem X8.less{r:Option ρ}(I:X8 wd pt x (pend++[(a,b,r)]))(i:x.lead a≠x.lead b)(d:(lo=a/\hi=b)\/(lo=b/\hi=a))(hc:Ch x.up lo cl):
  cls (Yj wd pt x a b r lo hi cl).1<cls x/\V3 (Yj wd pt x a b r lo hi cl).1=V3 x/\(Yj wd pt x a b r lo hi cl).2.length<=V3 x/\(Yj wd pt x a b r lo hi cl).1.links.length=x.links.length+1:=by
 obtain⟨J,L⟩:=I.join i d hc;obtain⟨aS,bS,_⟩:=I.pnd a b r (by simp);have n:lo∈x.S:=by rcases d with⟨h,_⟩|⟨h,_⟩<;>rw[h]<;>assumption
 have m:hi∈x.S:=by rcases d with⟨_,h⟩|⟨_,h⟩<;>rw[h]<;>assumption
 have c:x.lead lo≠x.lead hi:=by
  rcases d with⟨h1,h2⟩|⟨h1,h2⟩<;>rw[h1,h2]
  ·exact i
  ·exact Gp i
 have k:=I.ld lo n;have q:=I.idem lo n;have u:=I.ld hi m;have s:=I.idem hi m;have g:∀p∈x.S,(Yj wd pt x a b r lo hi cl).1.lead p=p->x.lead p=p/\p≠x.lead lo:=λp j e=>by
  rw[L p j]at e;by_cases h:x.lead p=x.lead lo
  ·rw[Gn h]at e;rw[<-e,s]at h;exact absurd h.symm c
  ·rw[Gi h]at e;exact⟨e,λz=>h (by rw[e];exact z)⟩
 refine⟨Qdl (λp j e=>GX (g p j (TJ e)).1) ⟨x.lead lo,k,GX q,Gz λz=>(g _ k z).2 Xb⟩,?_,?_,by simp[Yj,V8]⟩
 ·refine Qoi c I.nd k u ?_ λp j h1 h2=>?_
  ·have v:¬(Yj wd pt x a b r lo hi cl).1.lead (x.lead lo)=x.lead lo:=λz=>(g _ k z).2 rfl;have w:(Yj wd pt x a b r lo hi cl).1.lead (x.lead hi)=x.lead hi:=by rw[L _ u,s,Gi (Gp c)]
   rw[Gi v,Gn w,Gn q,Gn s];have:(Yj wd pt x a b r lo hi cl).1.Xh (x.lead hi)=x.Xh (x.lead hi)++x.Xh (x.lead lo):=by simp[Yj,V8]
   rw[this,List.length_append];lia
  ·have:(Yj wd pt x a b r lo hi cl).1.Xh p=x.Xh p:=by simp[Yj,V8,h2]
   rw[this];by_cases e:x.lead p=p
   ·have o:(Yj wd pt x a b r lo hi cl).1.lead p=p:=by rw[L p j,Gi (by rw[e];exact h1),e]
    rw[Gn e,Gn o]
   ·have o:¬(Yj wd pt x a b r lo hi cl).1.lead p=p:=λz=>e (g p j z).1;rw[Gi e,Gi o]
 ·have h1:=scan_len (ρ:=ρ) (ky:=Zj wd pt (Q8 {x with links:=x.links++[(a,b,r)],Xf:=Qa9 x.Xf a b x.links.length,up:=Xm x.up hi cl} (x.lead lo) (x.lead hi))) (l:=x.Xh (x.lead lo)) (t:=x.tab) (f:=[]);have h2:=Je (f:=λp=>if x.lead p=p then(x.Xh p).length else 0) k;simp only[q,Gn]at h2;refine Tt h1 (by simpa[V3]using h2)
end
variable{W ρ:Type}[DecidableEq W]
def Yz(pt:Nat->List Nat)(S:List Nat)(q:Nat):List Nat:=S.flatMap λp=>List.replicate ((pt p).count q) p
def Qbe(wd:Nat->W)(pt:Nat->List Nat)(S:List Nat)(k:W×List Nat):Option Nat:=S.find? λp=>decide (Zj wd pt id p=k)
def fresh(wd:Nat->W)(pt:Nat->List Nat)(S:List Nat):Nst W ρ:=⟨S,id,λp=>[p],Yz pt S,Qbe wd pt S,[],λ_ _=>Gh,λ_=>Gh⟩
theorem Q04{α:Type}(c:Cn (α:=α) [] p q):p=q:=by
 induction c with
 |refl _=>rfl
 |symm _ a=>exact a.symm
 |trans _ _ i1 i2=>exact i1.trans i2
 |link m=>simp at m
theorem Qoy{wd:Nat->W}{pt:Nat->List Nat}(nd:S.Nodup)(cl:∀p∈S,∀q∈pt p,q∈S)(inj:∀p∈S,∀q∈S,wd p=wd q->pt p=pt q->p=q):X8 (ρ:=ρ) wd pt (fresh wd pt S) [] where
 nd:=nd
 pt_:=cl
 ld:=λp h=>h
 idem:=λ_ _=>rfl
 Qbz:=λl hl _ p=>by show p∈[l]↔p∈S/\p=l;simp only[List.mem_singleton];exact⟨λe=>⟨e▸hl,e⟩,λe=>e.2⟩
 Ql7:=λl _ _=>by simp[fresh]
 Qi2:=λl _ p a=>by obtain⟨u,g,h⟩:=List.mem_flatMap.mp a;rw[List.mem_replicate]at h;rw[h.2];exact g
 Qwf:=λp a q b=>List.mem_flatMap.mpr ⟨p,a,List.mem_replicate.mpr ⟨by have:=List.count_pos_iff.mpr b;show(pt p).count q≠0;lia,Xb⟩⟩
 tabS:=λk u h=>by
  have h:S.find? (λp=>decide (Zj wd pt id p=k))=Ga u:=h;have h1:=List.mem_of_find?_eq_some h;have h2:Zj wd pt id u=k:=TJ (by simpa using List.find?_some h);subst h2;refine⟨h1,Xb,λq b=>?_,?_⟩
  ·simp only[Zj,List.map_id]at b;exact cl u h1 q b
  ·simp[Zj,fresh]
 Qs4:=λp a=>by
  show∃u,S.find? (λq=>decide (Zj wd pt id q=Zj wd pt id p))=Ga u/\_;cases e:S.find? (λq=>decide (Zj wd pt id q=Zj wd pt id p))with
  |none=>have:=List.find?_eq_none.mp e p a;simp at this
  |some u=>have h1:=List.mem_of_find?_eq_some e;have h2:Zj wd pt id u=Zj wd pt id p:=TJ (by simpa using List.find?_some e);simp only[Zj,List.map_id,Df]at h2;exact⟨u,Xb,.lead h1 a (inj u h1 p a h2.1 h2.2)⟩
 pnd:=λ_ _ _ h=>by simp at h
 fst:=⟨λ_ _ h=>by simp[fresh]at h,λ_ _ _ h=>by simp[fresh]at h,λ_ _ _ _ h=>by simp[fresh]at h,λ_ _ _ _ h=>by simp[fresh]at h,λp _=>⟨[p],.top Xb⟩,λ_ _ h=>by simp[fresh]at h⟩
 lnk:=λ_ _ _ _ h=>by simp[fresh]at h
 conn:=λp _ q _=>⟨λ(e:p=q)=>by subst e;exact .refl _,λc=>Q04 c⟩
 root:=λp q l m _ _ h1 h2=>by have d:l=[p]:=h1.uniq (.top Xb);have f:m=[q]:=h2.uniq (.top Xb);subst d f;simp[Zu,fresh]
theorem Qtl(pt:Nat->List Nat)(S:List Nat)(p q:Nat):Yz pt (S++[p]) q=Yz pt S q++List.replicate ((pt p).count q) p:=by simp[Yz]
theorem Qsv(wd:Nat->W)(pt:Nat->List Nat)(new:∀q∈S,Zj wd pt id q≠Zj wd pt id p)(k:W×List Nat):Qbe wd pt (S++[p]) k=if k=Zj wd pt id p then Ga p else Qbe wd pt S k:=by
 unfold Qbe;rw[List.find?_append];by_cases h:k=Zj wd pt id p
 ·rw[Gn h];have:S.find? (λp=>decide (Zj wd pt id p=k))=Gh:=List.find?_eq_none.mpr λq a=>by have:=new q a;simp[h,this]
  rw[this];simp[h]
 ·rw[Gi h];have:[p].find? (λp=>decide (Zj wd pt id p=k))=Gh:=by simp[Gp h]
  rw[this,Option.or_none]
end Nt
namespace Sb
open PySem PySem.Spec PyProof.Rows L2 Nt
variable{p:Nat}{S:List Nat}{f:Nat->V}{b:Gc}
def ki(p:Nat):Xv:=.inl (p:Int)
def dS(S:List Nat)(f:Nat->V):List (Xv×V):=S.map λp=>(ki p,f p)
theorem Jd{q:Nat}(h:ki p=ki q):p=q:=by unfold ki at h;injection h with h;lia
theorem Q3d(p:Nat):kV (ki p)=jv p:=rfl
theorem Qf5(h:p∈S):Y2 (dS S f) (ki p)=Ga (f p):=by
 induction S with
 |nil=>simp at h
 |cons q r b=>
  by_cases e:q=p
  ·subst e;exact Xo (p:=(ki q,f q)) rfl
  ·have a:¬(ki q=ki p):=λz=>e (Jd z);show Y2 ((ki q,f q)::dS r f) (ki p)=_;rw[Xi (p:=(ki q,f q)) a];exact b ((List.mem_cons.mp h).resolve_left λz=>e z.symm)
theorem Qma(h:p∉S):Y2 (dS S f) (ki p)=Gh:=by
 induction S with
 |nil=>exact Qdj
 |cons q r b=>simp only[List.mem_cons,not_or]at h;have a:¬(ki q=ki p):=λz=>h.1 (Jd z).symm;show Y2 ((ki q,f q)::dS r f) (ki p)=_;rw[Xi (p:=(ki q,f q)) a];exact b h.2
theorem Qod:(Y2 (dS S f) (ki p)).isSome=decide (p∈S):=by
 by_cases h:p∈S
 ·rw[Qf5 h,GX h];rfl
 ·rw[Qma h,Gz h];rfl
theorem Va(S:List Nat)(f:Nat->V):(dS S f).length=S.length:=by simp[dS]
theorem Qk9{v:V}(h:p∈S):W9 (dS S f) (ki p) v=dS S (λq=>if q=p then v else f q):=by
 unfold W9;have a:((dS S f).any λb=>decide (b.1=ki p))=Gf:=by rw[U4,Qf5 h];rfl
 rw[Gn a];unfold dS;rw[List.map_map];refine List.map_congr_left λq _=>?_;show(if ki q=ki p then(ki q,v)else(ki q,f q))=(ki q,if q=p then v else f q);by_cases e:q=p
 ·subst e;rw[Gn Xb,Gn rfl]
 ·rw[Gi (λz=>e (Jd z)),Gi e]
theorem Qaj{v:V}(h:p∉S):W9 (dS S f) (ki p) v=dS (S++[p]) (λq=>if q=p then v else f q):=by rw[Qq5 _ (Qma h)];unfold dS;rw[List.map_append,List.map_cons,List.map_nil];show _=_++[(ki p,if p=p then v else f p)];rw[Gn rfl];congr 1;refine List.map_congr_left λq a=>?_;show _=(ki q,if q=p then v else f q);rw[Gi (λz:q=p=>h (z▸a))]
theorem Wt{g:Nat->V}(h:∀p∈S,f p=g p):dS S f=dS S g:=List.map_congr_left λp a=>by rw[h p a]
inductive Jb where
 |told (n:Nat)
 |asked
def Qp8(H:Hp)(v:V):Option Jb->Prop
 |none=>v=.non
 |some (.told n)=>∃c,v=.ref c/\H c=Ga (.tup [.str "told",jv n])
 |some .asked=>∃c,v=.ref c/\H c=Ga (.tup [.str "asked"])
theorem Qp8.Qm{H H':Hp}(e:Qu H H'){v:V}:∀{r:Option Jb},Qp8 H v r->Qp8 H' v r
 |none,h=>h
 |some (.told n),⟨c,h1,h2⟩=>⟨c,h1,e _ _ h2⟩
 |some .asked,⟨c,h1,h2⟩=>⟨c,h1,e _ _ h2⟩
abbrev Lk:=Nat×Nat×Option Jb
inductive Iz(H:Hp)(v:V)(l:Lk):Prop
 |mk (c:_) (r:_) (h0:v=.ref c) (h1:H c=Ga (.tup [jv l.1,jv l.2.1,r])) (h2:Qp8 H r l.2.2):Iz H v l
theorem Iz.Qm{H H':Hp}(e:Qu H H'){v:V}{l:Lk}(h:Iz H v l):Iz H' v l:=by obtain⟨c,r,h1,h2,a⟩:=h;exact⟨c,r,h1,e _ _ h2,a.Qm e⟩
abbrev Nn:=Nst Ta Jb
def Ye(fs:List Fm)(p:Nat):Ta:=(fs.getD p (Eo,[])).1
def Zk(fs:List Fm)(p:Nat):List Nat:=(fs.getD p (Eo,[])).2
theorem Qgj{fs:List Fm}(h:p<fs.length):fs[p]?=Ga (Ye fs p,Zk fs p):=by unfold Ye Zk;rw[List.getD_eq_getElem?_getD,List.getElem?_eq_getElem h];rfl
structure Na where
 f:Gc
 l:Gc
 m:Gc
 u:Gc
 t:Gc
 k:Gc
 a:Gc
 v:Gc
 ml:Nat->Gc
 ul:Nat->Gc
def Y9(A:Na):List (Ta×V):=[("forms",.ref A.f),("leads",.ref A.l),("members",.ref A.m),("users",.ref A.u),("table",.ref A.t),("links",.ref A.k),("link_at",.ref A.a),("above",.ref A.v)]
def ov:Option Nat->V
 |none=>.non
 |some p=>jv p
structure Ap(A:Na)(S:List Nat):Prop where
 lm:A.l≠A.m
 lu:A.l≠A.u
 lv:A.l≠A.v
 mu:A.m≠A.u
 mv:A.m≠A.v
 uv:A.u≠A.v
 kf:A.k≠A.f
 mm:∀p∈S,∀q∈S,A.ml p=A.ml q->p=q
 uu:∀p∈S,∀q∈S,A.ul p=A.ul q->p=q
 mul:∀p∈S,∀q∈S,A.ml p≠A.ul q
 mkf:∀p∈S,A.ml p≠A.k/\A.ml p≠A.f
 ukf:∀p∈S,A.ul p≠A.k/\A.ul p≠A.f
structure Z6(P:Gg)(w:Gs)(C:Gc)(H:Hp)(n:Gc)(A:Na)(fs:List Fm)(tb:Nat)(x:Nn):Prop where
 ob:∃dx,H n=Ga (.ins C dx (Y9 A))
 fo:∃ws,H A.f=Ga (.lst ws)/\Paired (Ra H) ws fs
 le:H A.l=Ga (.dK (dS x.S λp=>jv (x.lead p)))
 me:H A.m=Ga (.dK (dS x.S λp=>.ref (A.ml p)))
 us:H A.u=Ga (.dK (dS x.S λp=>.ref (A.ul p)))
 ta:∃zw,DH P w H A.t zw/\zw.length<=tb/\∀k:Fm,Yf zw (Y1 k)=(x.tab k).map jv
 li:∃ls,H A.k=Ga (.lst ls)/\Paired (Iz H) ls x.links
 at_:∃zw,H A.a=Ga (.dT zw)/\zw.length<=2*x.links.length/\∀i j:Nat,Y2 zw [ki i,ki j]=(x.Xf i j).map jv
 ab:H A.v=Ga (.dK (dS x.S λp=>ov (x.up p)))
 ml:∀p∈x.S,H (A.ml p)=Ga (.lst ((x.mem p).map jv))
 ul:∀p∈x.S,H (A.ul p)=Ga (.lst ((x.Xh p).map jv))
 ap:Ap A x.S
def Own(A:Na)(S:List Nat)(b:Gc):Prop:=b=A.l\/b=A.m\/b=A.u\/b=A.t\/b=A.k\/b=A.a\/b=A.v\/∃p∈S,b=A.ml p\/b=A.ul p
structure Rn(A:Na)(S:List Nat)(H H':Hp):Prop where
 keep:∀b o,H b=Ga o->¬Own A S b->H' b=Ga o
 there:∀b,H' b=Gh->H b=Gh
theorem Rn.trans{A:Na}{H H1 H2:Hp}(x:Rn A S H H1)(y:Rn A S H1 H2):Rn A S H H2:=⟨λb o e h=>y.keep b o (x.keep b o e h) h,λb h=>x.there b (y.there b h)⟩
theorem Rn.of{A:Na}{H H':Hp}(g:Q4 H H'):Rn A S H H':=⟨λb o e _=>g b o e,λb h=>g.free h⟩
theorem Rn.zj{A:Na}{S:List Nat}{H:Hp}{b:Gc}{o:HO}(h:Own A S b):Rn A S H (zj H b o):=⟨λc u e hc=>by rw[Qf (show c≠b fromλz=>hc (by rw[z];exact h))];exact e,λc hc=>by
 by_cases e:c=b
 ·subst e;rw[Qb]at hc;cases hc
 ·rw[Qf e]at hc;exact hc⟩
section
variable{P:Gg}{w:Gs}{C:Gc}{H H':Hp}{n:Gc}{A:Na}{fs:List Fm}{tb:Nat}{x:Nn}
theorem Z6.own(X:Z6 P w C H n A fs tb x)(h:Own A x.S b):(∃zw,H b=Ga (.dK zw))\/(∃zw,H b=Ga (.dT zw))\/(∃o,H b=Ga (.ext o))\/∃xs,H b=Ga (.lst xs):=by
 obtain⟨zw,D,_⟩:=X.ta;obtain⟨ls,L,_⟩:=X.li;obtain⟨c,T,_⟩:=X.at_;rcases h with rfl|rfl|rfl|rfl|rfl|rfl|rfl|⟨p,a,rfl|rfl⟩
 ·exact .inl ⟨_,X.le⟩
 ·exact .inl ⟨_,X.me⟩
 ·exact .inl ⟨_,X.us⟩
 ·exact .inr (.inr (.inl ⟨_,D.at_⟩))
 ·exact .inr (.inr (.inr ⟨_,L⟩))
 ·exact .inr (.inl ⟨_,T⟩)
 ·exact .inl ⟨_,X.ab⟩
 ·exact .inr (.inr (.inr ⟨_,X.ml p a⟩))
 ·exact .inr (.inr (.inr ⟨_,X.ul p a⟩))
theorem Z6.Ql5(X:Z6 P w C H n A fs tb x){xs:List V}(h:H b=Ga (.tup xs)):¬Own A x.S b:=λz=>by rcases X.own z with⟨_,e⟩|⟨_,e⟩|⟨_,e⟩|⟨_,e⟩<;>rw[h]at e<;>cases e
theorem Z6.Q0t(X:Z6 P w C H n A fs tb x)(h:H b=Gh):¬Own A x.S b:=λz=>by rcases X.own z with⟨_,e⟩|⟨_,e⟩|⟨_,e⟩|⟨_,e⟩<;>rw[h]at e<;>cases e
theorem Z6.same(g:Q4 H H')(X:Z6 P w C H n A fs tb x):Z6 P w C H' n A fs tb x:=by obtain⟨dx,l⟩:=X.ob;obtain⟨m,i,j⟩:=X.fo;obtain⟨zw,D,e,f⟩:=X.ta;obtain⟨ls,l1,l2⟩:=X.li;obtain⟨k,c,d⟩:=X.at_;have b:=Qu.of g;exact⟨⟨dx,g _ _ l⟩,⟨m,g _ _ i,L2.Paired.Ya j λ_ _ h=>h.Qm b⟩,g _ _ X.le,g _ _ X.me,g _ _ X.us,⟨zw,⟨g _ _ D.at_,Zg b D.keys⟩,e,f⟩,⟨ls,g _ _ l1,L2.Paired.Ya l2 λ_ _ h=>h.Qm b⟩,⟨k,g _ _ c,d⟩,g _ _ X.ab,λp a=>g _ _ (X.ml p a),λp a=>g _ _ (X.ul p a),X.ap⟩
theorem Z6.keep(X:Z6 P w C H n A fs tb x)(a:∀b o,H b=Ga o->(Own A x.S b\/b=A.f\/b=n)->H' b=Ga o)(d:Qu H H'):Z6 P w C H' n A fs tb x:=by
 obtain⟨dx,q⟩:=X.ob;obtain⟨r,k,l⟩:=X.fo;obtain⟨zw,D,i,j⟩:=X.ta;obtain⟨ls,l1,l2⟩:=X.li;obtain⟨m,e,g⟩:=X.at_;refine⟨⟨dx,a _ _ q (.inr (.inr Xb))⟩,⟨r,a _ _ k (.inr (.inl Xb)),L2.Paired.Ya l λ_ _ h=>h.Qm d⟩,a _ _ X.le (.inl (.inl Xb)),a _ _ X.me (.inl (.inr (.inl Xb))),a _ _ X.us (.inl (.inr (.inr (.inl Xb)))),⟨zw,⟨a _ _ D.at_ (.inl (.inr (.inr (.inr (.inl Xb))))),Zg d D.keys⟩,i,j⟩,
  ⟨ls,a _ _ l1 (.inl (.inr (.inr (.inr (.inr (.inl Xb)))))),L2.Paired.Ya l2 λ_ _ h=>h.Qm d⟩,⟨m,a _ _ e (.inl (.inr (.inr (.inr (.inr (.inr (.inl Xb))))))),g⟩,a _ _ X.ab (.inl (.inr (.inr (.inr (.inr (.inr (.inr (.inl Xb)))))))),λp c=>?_,λp c=>?_,X.ap⟩
 ·exact a _ _ (X.ml p c) (.inl (.inr (.inr (.inr (.inr (.inr (.inr (.inr ⟨p,c,.inl Xb⟩))))))))
 ·exact a _ _ (X.ul p c) (.inl (.inr (.inr (.inr (.inr (.inr (.inr (.inr ⟨p,c,.inr Xb⟩))))))))
theorem Z6.mono{a:Nat}(h:tb<=a)(X:Z6 P w C H n A fs tb x):Z6 P w C H n A fs a x:=by obtain⟨zw,D,c,b⟩:=X.ta;exact⟨X.ob,X.fo,X.le,X.me,X.us,⟨zw,D,by omega,b⟩,X.li,X.at_,X.ab,X.ml,X.ul,X.ap⟩
end
end Sb
namespace L2
open PySem PySem.Spec PyProof.Rows
variable{X:Cx}{σ:St}{H:Hp}
inductive Qe6(P:Gg)(w:Gs)(x:V)(vs:List V)(H:Hp)(Q:VK):Prop
 |mk (d:_) (b:_) (dv:_) (zw:_) (k:_) (h0:x=.ref d) (h1:vs=[.ref b,dv]) (h2:DH P w H d zw) (h3:Qat H b k) (h4:zw.length<Gj) (h5:(∀v,Yf zw k=Ga v->Q v H)) (h6:(Yf zw k=Gh->Q dv (zj H d (Ut P w d (zw++[(k,b,dv)]))))):Qe6 P w x vs H Q
def Qr1(P:Gg)(w:Gs):V->List V->Hp->VK->Prop:=λx vs H Q=>Qe6 P w x vs H Q
theorem Qmi(M:X.A.units+64<DR):MtR X "dict.setdefault" (Qr1 X.prog X.w):=by
 intro zq s σ H x vs v us Q I K rv h;obtain⟨d,b,f,zw,k,rfl,rfl,D,r,hz,E,G⟩:=h;cases(show v=Value.ref d from K);obtain⟨L,l,rfl,J,j⟩:=vals2 rv;cases(show L=Value.ref b from J);obtain⟨z,hd,xs,rel,g⟩:=Qjz I D.at_ D.keys;have C:zw.length=xs.length:=Gr rel;refine Fa F.slot_dict_setdefault g.typeIs F.entry_dict_setdefault (F.args_dict_setdefault_3 _ _ _) (Wq (Vq X.prog X.w) d b hd l) ⟨by first|(show X.A.units+1+10<DR;lia)|(show X.A.units+1+1+10<DR;lia),k,xs,r.is I,g,by lia,λp u=>?_,λt h' e B=>?_⟩
 ·have a:=rel.val k;rw[u]at a;cases q:Yf zw k with
  |none=>rw[q]at a;exact(show False from a).elim
  |some y=>rw[q]at a;exact⟨y,H,I.tok _,a,E y q⟩
 ·have a:=rel.val k;rw[t]at a;cases q:Yf zw k with
  |some y=>rw[q]at a;exact(show False from a).elim
  |none=>obtain⟨ob,es,ep,i,h2,m,n,_,o⟩:=e;have c:KX (zw++[(k,b,f)]) (xs++[(k,b,l)]):=DI rel ⟨Xb,Xb,j⟩;refine⟨f,_,Ir (ob:=Ut X.prog X.w d (zw++[(k,b,f)])) I (by rw[D.at_];exact TC) B ⟨ob,i⟩ (Qlk ⟨by rw[List.length_append,List.length_singleton];lia,hd,_,c,ob,es,ep,i,h2,m,n,o⟩),j,G q⟩
section
variable{X:Cx}{o e:T3}{es:List T3}{to:TE}{t:TA}{name:Ta}{apos cpos:SX}{id:String}{r:V->List V->Hp->VK->Prop}
theorem Qkk{zq:List (Gc×Eg)}{s:Gk}{d:Gc}{zw:List KE}(I:Inv X zq σ H s)(e:H d=Ga (Ut X.prog X.w d zw)):
  s.TypeIs (.ref d) "dict"/\∀a,Value.ref d=.ref a->∃ob,s.heap.get? a=Ga ob/\ob.dict=Gh:=by
 obtain⟨z,y,xs,r,o,es,ep,h1,h2,b,c,f⟩:=Qad I e;exact⟨⟨o,h1,h2.1⟩,λa e=>by cases e;exact⟨o,h1,h2.2.1⟩⟩
def Q5f(P:Gg)(w:Gs)(r:V->List V->Hp->VK->Prop)(to:TE)(t:TA):TE:=λσ H Q=>to σ H λx H1=>(∃d zw,x=.ref d/\H1 d=Ga (Ut P w d zw))/\t σ H1 λxs H2=>r x xs H2 Q
theorem Qz8(slot:Slot "dict" name id)(g:typeOf (.builtin id)=pure (.type "method_descriptor"))(n:MtR X id r)(p:PE X o to)(m:PA X (e::es) t)
  (b:attributeBase o name X.env (eval o X.env)=eval o X.env:=by rfl)
  (f:((DQ cpos (Te (e::es) X.env)).all (λx=>!x.1)&&(backToKw cpos (keywordEach [] X.env)).all (λx=>x.1.isSome)
   &&decide ((e::es).length+([]:List L6).length+(if([]:List L6).isEmpty then 0 else 1)<30))=Gf:=by rfl)
  (c:(apos.endLine==cpos.line)=Gf:=by rfl)(q:Te (e::es) X.env=(Gq,eval e X.env)::Te es X.env:=by rfl)(a:(DQ cpos (Te es X.env)).any (·.1)=Gq:=by rfl):
  PE X (.Call (.Attribute o name apos) (e::es) [] cpos) (Q5f X.prog X.w r to t):=by
 intro zq s σ H Q I h;refine SV b f c rfl (Yq (p zq s σ H _ I h) λv s1⟨x,H1,i,z,ty,u⟩=>?_);obtain⟨d,zw,rfl,l⟩:=ty;cases(show v=Value.ref d from z);obtain⟨h1,h2⟩:=Qkk i l;refine⟨"dict",id,Ef,slot,g,h1,h2,?_⟩;have j:=m cpos zq s1 σ H1 _ i u;rw[q]at j⊢;refine Ei (by show(Gq||(DQ cpos (Te es X.env)).any (·.1))=Gq;rw[a]<;>rfl) (Lh ?_);exact Yq j λus s2⟨vs,H2,k,A,y⟩=>n zq s2 σ H2 (.ref d) vs _ us Q k rfl A y
end
theorem Qcv{c:TT}{tb:TS}{D:Ends}(Pv:Nat->St->Hp->Prop)(f:∃m,Pv m σ H)
  (g:∀m σ H,Pv m σ H->c σ H λb H1=>if b=Gf then tb {D with nx:=λa H'=>∃d,d<m/\Pv d a H',ct:=λa H'=>∃d,d<m/\Pv d a H',bk:=D.nx} σ H1 else D.nx σ H1)
  (mono:∀σ H Q e,(∀b H1,Q b H1->e b H1)->c σ H Q->c σ H e):Qq6 c tb D σ H:=by
 refine⟨Pv,f,λm σ H p=>mono σ H _ _ (λb H1 q=>?_) (g m σ H p)⟩;cases b with
 |true=>exact⟨_,λa H' h=>h,q⟩
 |false=>exact q
theorem Inv.turns{zq:List (Gc×Eg)}{σ:List (Option V)}{s:Gk}{h':Heap}{t':Nat}{fp:List Gc}(I:Inv X zq σ H s)(k:∀b o,b∉fp->s.heap.get? b=Ga o->h'.get? b=Ga o)(d:∀b∈fp,Qas X zq H b):
  Inv X zq σ H {s with heap:=h',toks:=t'}:=by
 have a:∀b u,H b=Ga u->b∉fp:=λb u e z=>by rw[(d b z).1]at e;cases e
 refine I.step (g':=s.gens) (d':=s.drawn) (ch:=fp) (λb hb=>?_) (λb o _ _ hc e _=>k b o hc e) (λb o _ _ hc e _=>⟨o.slots,k b o hc e⟩) (λ_ _ _ _ n=>n)
  (λb o hc e=>⟨o,k b o hc e⟩) (λ_ _ e=>e) (λ_ _ _ e=>e) (λb ps e=>⟨#[],by rw[e];simp⟩) (λm j=>?_) (λb u e=>?_) I.bare
 ·obtain⟨p,f,t,g,h,i⟩:=d b hb;exact⟨g,f,h,i⟩
 ·obtain⟨o,es,ep,l,r⟩:=j;exact⟨o,es,ep,k _ o (λz=>(d _ z).2.1 Xb) l,r⟩
 ·refine(I.Zw b u e).Qkm (λc v hc q=>k c v ?_ q) (λ_ q=>q) λ_ _ q=>q;rcases hc with z|z
  ·rw[z];exact a b u e
  ·exact a c _ z
def ItE(K:Gd)(a:Gc):It:=
 ⟨λi H=>∃xs x,Zd K H a xs/\xs[i]?=Ga x,λi H v H'=>∃c x,v=.ref c/\H c=Gh/\(∀xs,Zd K H a xs->xs[i]?=Ga x)/\H'=zj H c (.tup [.int (i:Int),x]),λi H=>∃xs,Zd K H a xs/\xs.length<=i⟩
theorem Qql{P:Gg}{w:Gs}{K:Gd}{l:List T3}{k:Nat}{pos:SX}(a e it:Gc)(r:e≠it):Qgs P w K (.Tuple l k pos) (ItE K a) [e,it] e (λi h=>(∃c,IsEnum h e it i c)/\h.IsListIter it a i) where
 mem:=by simp
 obj:=λi h st b hb=>by
  obtain⟨⟨c,f⟩,o,R,hc,hd⟩:=st;rcases List.mem_cons.mp hb with rfl|hb
  ·exact⟨_,f,λv z=>nomatch z⟩
  ·have:b=it:=by simpa using hb
   subst this;exact⟨o,R,λv z=>by rw[hd]at z;cases z⟩
 keep:=λi h h' st k=>by obtain⟨⟨c,f⟩,d⟩:=st;exact⟨⟨c,k e (by simp) _ f⟩,d.at λo x=>k it (by simp) o x⟩
 item:=by
  intro X J hw G hc i zq s σ H E I B st N;subst J hw G;obtain⟨⟨c,f⟩,d⟩:=st;obtain⟨xs,x,C,D⟩:=N;obtain⟨its,rv,p,hz⟩:=I.list C;obtain⟨u,hu,ru⟩:=rv.get D;refine wpAny_pyNext_enum_item f d p.isList (x:=u) (by simpa using hu) r λh' R A T hsz hk=>⟨_,Xb,?_⟩;refine wpAny_letOwnedTupleGo_enum R λm M j=>?_;have g:e<s.heap.objs.size:=Heap.lt_size f;have t:it<s.heap.objs.size:=by obtain⟨_,x,_⟩:=d;exact Heap.lt_size x
  have U:m.get? s.heap.objs.size=Ga {cls:=.type "tuple",data:=.seq #[.int i s.toks,u]}:=(j.2 _ (Tu g)).trans T;have Q:H s.heap.objs.size=Gh:=I.Zw.fresh (Gm _);have V:Inv X zq σ (zj H s.heap.objs.size (.tup [.int (i:Int),x])) {s with heap:=s.heap.push {cls:=.type "tuple",data:=.seq #[.int i s.toks,u]},toks:=s.toks}:=
   I.laid (a:=s.heap.objs.size) (o:=.tup [.int (i:Int),x]) (t':=s.toks) (λ_ _ q=>Heap.get?_push_of_some _ q) (Gm _) ⟨by show 2<=Gj;decide,[.int i s.toks,u],.cons ⟨_,Xb⟩ (.cons ru .nil),_,Heap.get?_push_size _ Xb,Xb,_,Xb⟩
  have S:∀b∈[e,it],Qas X zq (zj H s.heap.objs.size (.tup [.int (i:Int),x])) b:=λb hb=>by
   have O:b<s.heap.objs.size:=by
    rcases List.mem_cons.mp hb with rfl|hb
    ·exact g
    ·have:b=it:=by simpa using hb
     subst this;exact t
   refine⟨?_,(B b hb).2⟩;rw[Qf (Td O)];exact(B b hb).1
  have Y:=V.turns (h':=m) (t':=s.toks+1) (fp:=[e,it]) (λb o hb F=>?_) S
  ·refine⟨.ref s.heap.objs.size,_,Y,Xb,⟨_,x,Xb,Q,λys hy=>by rw[I.Qc2 hy C];exact D,Xb⟩,⟨⟨u,by simpa using M⟩,A.at λo y=>(j.2 it r.symm).trans y⟩,λb hb=>(S b hb).1⟩
  ·have n:b≠e:=λz=>hb (by simp[z]);have L:b≠it:=λz=>hb (by simp[z]);refine(j.2 b n).trans ?_;rcases Heap.get?_push_cases (show(s.heap.push {cls:=.type "tuple",data:=.seq #[.int i s.toks,u]}).get? b=Ga o from F)with⟨rfl,rfl⟩|Z
   ·exact T
   ·exact hk b o n L Z
 done:=by intro X J hw G hc i zq s σ H E I B st N;subst J hw G;obtain⟨⟨c,f⟩,d⟩:=st;obtain⟨xs,C,hn⟩:=N;obtain⟨its,rv,p,hz⟩:=I.list C;have hl:=rv.length;refine wpAny_pyNext_enum_end (I.ok.hd hc) f d p.isList (Dh (by rw[List.size_toArray];lia)) λh' D=>⟨Xb,?_⟩;exact I.turns (t':=s.toks) (fp:=[e,it]) (λb o hb F=>D b o (λz=>hb (by simp[z])) F) B
 self:=λ_ _ _ _ _ st h=>by obtain⟨⟨c,f⟩,_⟩:=st;exact Fe f h
inductive Qtj(K:Gd)(R:It->Hp->Prop)(vs:List V)(H1:Hp):Prop
 |mk (a:_) (xs:_) (h0:vs=[.ref a]) (h1:Zd K H1 a xs) (h2:R (ItE K a) H1):Qtj K R vs H1
def Q2c(K:Gd)(ta:TA):TI:=λσ H R=>ta σ H λvs H1=>Qtj K R vs H1
theorem Qnh{d:List T3}{k:Nat}{tpos:SX}{a:T3}{ta:TA}{p pos:SX}(n:Gl X "enumerate")(t:X.mg "enumerate"=Gh)(m:PA X [a] ta)(w:Te [a] X.env=[(Gq,eval a X.env)]:=by rfl):PI X (.Tuple d k tpos) (.Call (.Name "enumerate" p) [a] [] pos) (Q2c X.K ta):=by
 intro zq s σ H R I h;refine Bd (V2 I n t boot_enumerate (Ds (Yq (m pos zq s σ H _ I h) λus s1⟨vs,H1,g,y,x⟩=>?_) w Xb));obtain⟨b,xs,e,v,q⟩:=x;subst e;obtain⟨u,rfl,z⟩:=vals1 y;cases(show u=Value.ref b from z);obtain⟨its,rv,pt,hz⟩:=g.list v;refine call_enumerate_list pt.isList λh' j i hsz r=>?_;have l:Inv X zq σ H1 {s1 with heap:=h',toks:=s1.toks}:=g.kept λb o e=>r b o e;refine Fe j ⟨s1.heap.objs.size+1,[s1.heap.objs.size+1,s1.heap.objs.size],_,_,H1,Xb,l,Qql b (s1.heap.objs.size+1) s1.heap.objs.size (Fw _),⟨⟨_,j⟩,i⟩,λc hc=>?_,q⟩;have f:s1.heap.objs.size<=c:=by
  rcases List.mem_cons.mp hc with e|hc
  ·rw[e];exact EF _
  ·have:c=s1.heap.objs.size:=by simpa using hc
   rw[this];exact Gm _
 exact g.Qii f (g.Zw.fresh f)
theorem Qix{K:Gd}{a:Gc}{xs:List V}{g:TG}{tb:TS}{D:Ends}(Pv:Nat->St->Hp->Prop)(j:Pv 0 σ H)
  (hl:∀i σ H,i<=xs.length->Pv i σ H->Zd K H a xs)
  (l:∀i x c σ H,xs[i]?=Ga x->Pv i σ H->H c=Gh->g (.ref c) σ (zj H c (.tup [.int (i:Int),x])) λd H2=>tb {D with nx:=Pv (i+1),ct:=Pv (i+1),bk:=D.nx} d H2)
  (hd:∀σ H,Pv xs.length σ H->D.nx σ H):
  ∃W:Nat->Nat->St->Hp->Prop,(∃m,W 0 m σ H)/\∀i m σ H,W i m σ H->((ItE K a).stop i H/\D.nx σ H)\/((ItE K a).go i H/\∃N:St->Hp->Prop,(∀b H',N b H'->∃h,h<m/\W (i+1) h b H')/\∀x H',(ItE K a).yld i H x H'->g x σ H' λd H2=>tb {D with nx:=N,ct:=N,bk:=D.nx} d H2):=by
 refine⟨λi m σ H=>m=xs.length - i/\i<=xs.length/\Pv i σ H,⟨_,Xb,Gw _,j⟩,?_⟩;rintro i m σ H ⟨rfl,hi,pv⟩;have q:=hl i σ H hi pv;by_cases f:i<xs.length
 ·refine .inr ⟨⟨xs,xs[i],q,by simp[f]⟩,Pv (i+1),λb H' o=>⟨xs.length - (i+1),by omega,Xb,f,o⟩,λv H' y=>?_⟩;obtain⟨c,x,rfl,k,n,rfl⟩:=y;exact l i x c σ H (n xs q) pv k
 ·have e:i=xs.length:=by omega
  subst e;exact .inl ⟨⟨xs,q,Gm _⟩,hd σ H pv⟩
end L2
namespace K05
open PySem L2 Sb Nt
variable{f C:Gc}{fd:Ts}
structure Uc(K:Gd)(mg:Ta->Option Value)(C:Gc):Prop where
 cl:Cls K C
 Qcl:Yp K C "forms"
 Wz:Yp K C "leads"
 members:Yp K C "members"
 Qga:Yp K C "users"
 table:Yp K C "table"
 links:Yp K C "links"
 Qb8:Yp K C "link_at"
 above:Yp K C "above"
 mgC:mg "Net"=Ga (.ref C)
theorem U5(A:Na):(Y9 A).lookup ("forms":Ta)=Ga (.ref A.f):=by rfl
theorem Yo(A:Na):(Y9 A).lookup ("leads":Ta)=Ga (.ref A.l):=by rfl
theorem Vb(A:Na):(Y9 A).lookup ("members":Ta)=Ga (.ref A.m):=by rfl
theorem Jz(A:Na):(Y9 A).lookup ("users":Ta)=Ga (.ref A.u):=by rfl
theorem Qhy(A:Na):(Y9 A).lookup ("table":Ta)=Ga (.ref A.t):=by rfl
theorem Uw(A:Na):(Y9 A).lookup ("links":Ta)=Ga (.ref A.k):=by rfl
theorem Qaz(A:Na):(Y9 A).lookup ("link_at":Ta)=Ga (.ref A.a):=by rfl
theorem Ow(A:Na):(Y9 A).lookup ("above":Ta)=Ga (.ref A.v):=by rfl
theorem O8(A:Na):(Y9 A).lookup ("take_in":Ta)=Gh:=by rfl
theorem Qec(A:Na):(Y9 A).lookup ("key_of":Ta)=Gh:=by rfl
theorem Qcq(A:Na):(Y9 A).lookup ("equal":Ta)=Gh:=by rfl
theorem Qj7(A:Na):(Y9 A).lookup ("merge":Ta)=Gh:=by rfl
theorem Qhr(A:Na):(Y9 A).lookup ("merge_link":Ta)=Gh:=by rfl
theorem Qoh(A:Na):(Y9 A).lookup ("hang":Ta)=Gh:=by rfl
theorem Qbo(A:Na):(Y9 A).lookup ("give_over":Ta)=Gh:=by rfl
theorem Qli(A:Na):(Y9 A).lookup ("way":Ta)=Gh:=by rfl
theorem Qi4(A:Na):(Y9 A).lookup ("way_up":Ta)=Gh:=by rfl
theorem Qm0(A:Na):(Y9 A).lookup ("rows":Ta)=Gh:=by rfl
theorem Xj{H:Hp}{a:Gc}{S:List Nat}{f:Nat->V}{p:Nat}(h:H a=Ga (.dK (dS S f)))(b:p∈S):Wx H a (jv p) (Ga (f p)):=by have:=Wx.k (k:=ki p) h;rw[Qf5 b,Q3d]at this;exact this
theorem Qgx{i j:Nat}:decide (jv i=jv j)=decide (i=j):=by
 by_cases h:i=j
 ·subst h;simp
 ·rw[Gz h,Gz λz=>h (Qz5 z)]
inductive Qjk(P:Gg)(w:Gs)(C:Gc)(vs:List V)(H:Hp)(Q:VK):Prop
 |mk (n:Gc) (A:Na) (fs:List Fm) (tb:Nat) (x:Nn) (p:Nat) (q:Nat) (h0:vs=[.ref n,jv p,jv q]) (h1:Z6 P w C H n A fs tb x) (h2:p∈x.S) (h3:q∈x.S) (h4:Q (.bl (decide (x.lead p=x.lead q))) H):Qjk P w C vs H Q
def Qcc(P:Gg)(w:Gs)(C:Gc):Sp:=λvs H Q _=>Qjk P w C vs H Q
inductive Qic(P:Gg)(w:Gs)(C:Gc)(vs:List V)(H:Hp)(Q:VK):Prop
 |mk (n:Gc) (A:Na) (fs:List Fm) (tb:Nat) (x:Nn) (p:Nat) (h0:vs=[.ref n,jv p]) (h1:Z6 P w C H n A fs tb x) (h2:p<fs.length) (h3:(∀q∈Zk fs p,q∈x.S)) (h4:(Zk fs p).length<=1000000) (h5:∀(c:Gc)(H':Hp),Q4 H H'->H c=Gh->Ra H' (.ref c) (Zj (Ye fs) (Zk fs) x.lead p)->Q (.ref c) H'):Qic P w C vs H Q
def Qb7(P:Gg)(w:Gs)(C:Gc):Sp:=λvs H Q _=>Qic P w C vs H Q
inductive Qnl(P:Gg)(w:Gs)(C:Gc)(vs:List V)(H:Hp)(Q:VK):Prop
 |mk (n:Gc) (A:Na) (fs:List Fm) (tb:Nat) (x:Nn) (lo:Nat) (hi:Nat) (cl:List Nat) (h0:vs=[.ref n,jv lo,jv hi]) (h1:Z6 P w C H n A fs tb x) (h2:Ch x.up lo cl) (h3:(∀p∈cl,p∈x.S)) (h4:x.S.length<=1000000) (h5:∀(H':Hp),Z6 P w C H' n A fs tb {x with up:=Xm x.up hi cl}->(∀b o,H b=Ga o->b≠A.v->H' b=Ga o)->(∀b,H' b=Gh->H b=Gh)->Q .non H'):Qnl P w C vs H Q
def Qlp(P:Gg)(w:Gs)(C:Gc):Sp:=λvs H Q _=>Qnl P w C vs H Q
inductive Qh8(P:Gg)(w:Gs)(C:Gc)(vs:List V)(H:Hp)(Q:VK):Prop
 |mk (n:Gc) (A:Na) (fs:List Fm) (tb:Nat) (x:Nn) (p:Nat) (l:List Nat) (h0:vs=[.ref n,jv p]) (h1:Z6 P w C H n A fs tb x) (h2:Ch x.up p l) (h3:(∀q∈l,q∈x.S)) (h4:l.length<=1000000) (h5:∀(r:Gc)(H':Hp),Q4 H H'->H r=Gh->H' r=Ga (.lst (l.map jv))->Q (.ref r) H'):Qh8 P w C vs H Q
def Qoj(P:Gg)(w:Gs)(C:Gc):Sp:=λvs H Q _=>Qh8 P w C vs H Q
section
variable{P:Gg}{w:Gs}{K:Gd}{mg:Ta->Option Value}{base:Heap}
theorem Qwj:Qx ["self","one","other"] ["self","one","other"] (Ql Qlx):=by eq_refl
theorem Qsk(F:Wd K "equal" "Net.equal" Qlx f fd)(T:Uc K mg C):Qs P w K mg base Z4 1 f fd ["self","one","other"] (Qcc P w C):=by
 refine F.ok Qwj (λvs H Q E h=>?_) (λcdv A outer s H vs Q E e h=>?_)
 ·obtain⟨n,A,fs,tb,x,p,q,rfl,_⟩:=h;rfl
 obtain⟨n,A,fs,tb,x,p,q,rfl,X,c,d,g⟩:=h;have a:=U6 e;refine⟨_,Qh (Qv (Qv9 Wu (Zr a (Qn (pv 0) rfl) (pv 1) (λ_ _=>rfl)) (Zr a (Qn (pv 0) rfl) (pv 2) (λ_ _=>rfl)) (Q3 _))),?_⟩;obtain⟨dx,b⟩:=X.ob;refine⟨_,Xb,n,C,dx,_,_,Xb,b,T.cl,T.Wz,Yo _,_,Xb,A.l,_,Xb,Xj X.le c,_,Xb,n,C,dx,_,_,Xb,b,T.cl,T.Wz,Yo _,_,Xb,A.l,_,Xb,Xj X.le d,Xb,?_⟩;rw[Qgx];exact g
theorem Qcb:Qx ["self","place","form"] ["self","place"] (Ql Qa1):=by eq_refl
theorem Q18:(["part","self"]:List Ta).Nodup:=by decide+kernel
theorem Qt4(F:Wd K "key_of" "Net.key_of" Qa1 f fd)(T:Uc K mg C)(B:Jr mg):Qs P w K mg base Z4 1 f fd ["self","place"] (Qb7 P w C):=by
 refine F.ok Qcb (λvs H Q E h=>?_) (λcdv A outer s H vs Q E hr h=>?_)
 ·obtain⟨n,A,fs,tb,x,p,rfl,_⟩:=h;rfl
 obtain⟨n,A,fs,tb,x,p,rfl,X,J,v,hl,g⟩:=h;have hu:=U6 hr;have nd:=Qcb.nd;refine⟨_,Qd (Qt 2 nd (Qo Zh (Qn (pv 0) rfl) (pv 1)))
  (Qh (Qv (Zb (Qa (Qo Q5 (pv 2) Qk) (Qa (Xr Vh rfl B.tuple TX (Qa
   (Vx (te:=Qi6 (Qwa K (V7 1) "leads") (V7 0)) (own:=["part"]) (fv:=[(0,"self")]) rfl (S:=(by eq_refl:Wh (Ql Qa1) _)) (.cons rfl (Di Xb) rfl .nil) (Uo (Qo Q5 (pv 2) Qk))
    (λ_ _ _ _ _=>Xe (i:=0) Q18 rfl (Di Xb) (Es Xb)) (λ_ _ _ _ _=>Ww) (λ_ _ _ _ _=>Zr hu (Qn (pv 1) rfl) (pv 0) (λ_ _=>rfl))) Qe)) Qe))))),?_⟩
 subst_vars;obtain⟨dx,M⟩:=X.ob;obtain⟨O,Y,I⟩:=X.fo;have hw:p<O.length:=by rw[Gr I];exact J
 obtain⟨y,L,c,e,W,h1,h2⟩:=Qy I (List.getElem?_eq_getElem hw);and_intros;rw[Qgj J]at L;cases L;have U:atI [V.str (Ye fs p),V.ref e] (1:Int)=Ga (.ref e):=Qz (j:=1) rfl;refine⟨_,Xb,n,C,dx,_,_,Xb,M,T.cl,T.Qcl,U5 _,_,Xb,A.f,O,_,_,Xb,Xb,Zd.of Y,Qz (List.getElem?_eq_getElem hw),?_⟩;rw[W];refine⟨_,Xb,c,_,_,_,Xb,Xb,Z2.of h1,Rk _ _,_,Xb,c,_,_,_,Xb,Xb,Z2.of h1,U,e,Xb,⟨_,Z2.of h2⟩,λr t=>?_⟩;have s3:=Qg t (.lst []);refine Ju (K:=K) (a:=e) (xs:=(Zk fs p).map jv) (small (by rw[List.length_map];lia)) (λi ys σ H2=>(∃R,σ=[R,Ga (.ref n)])/\Q4 H H2/\ys=((Zk fs p).take i).map λq=>jv (x.lead q))
  ⟨⟨_,Xb⟩,s3,by simp⟩ (λi ys σ H2 _ h=>Z2.of (h.2.1 _ _ h2)) ?_ ?_
 ·rintro i y ys σ H2 hi z ⟨⟨R,rfl⟩,d,rfl⟩ u;rw[List.getElem?_map]at hi;cases eq:(Zk fs p)[i]? with
  |none=>rw[eq]at hi;cases hi
  |some q=>
   rw[eq]at hi;cases hi;refine⟨_,Xb,n,C,dx,_,_,Xb,d _ _ M,T.cl,T.Wz,Yo _,_,Xb,A.l,_,Xb,Xj (d _ _ X.le) (v q (List.mem_of_getElem? eq)),u,⟨_,Xb⟩,λb o G=>?_,?_⟩
   ·rw[Qf (Qc G t)];exact d _ _ G
   ·rw[List.take_add_one,eq,List.map_append];rfl
 ·rintro ys σ H2 z ⟨_,d,rfl⟩ u;rw[List.length_map,List.take_length]at u;refine⟨r,_,Xb,.inl ⟨Zd.of u,λm Z=>?_⟩⟩;have s4:=Qg Z (.tup ((Zk fs p).map λq=>jv (x.lead q)));refine⟨by show 2<=Gj;decide,λD k=>?_⟩;have N:=Qg k (.tup [.str (Ye fs p),.ref m]);refine g D _ ((d.trans s4).trans N) (d.free (s4.free k)) ⟨D,m,Xb,Qb,?_⟩;rw[N _ _ Qb];simp only[Zj,List.map_map];rfl
theorem Qon:Qx ["self","place","found","stop"] ["self","place"] (Ql Qa4):=by eq_refl
theorem Qg5{o:Option Nat}:decide (ov o=V.non)= !o.isSome:=by
 cases o with
 |none=>rfl
 |some p=>rfl
theorem Qm7{up:Nat->Option Nat}{p:Nat}{l:List Nat}(h:Ch up p l){i:Nat}(hi:i<l.length):up l[i]=l[i+1]?:=by
 induction h generalizing i with
 |@top p e=>
  have:i=0:=by simpa using hi
  subst this;simpa using e
 |@step p q l e k b=>
  cases i with
  |zero=>obtain⟨r,a⟩:=k.head;subst a;simpa using e
  |succ j=>simp only[List.length_cons]at hi;simpa using b (i:=j) (by lia)
theorem Qt2(F:Wd K "way_up" "Net.way_up" Qa4 f fd)(T:Uc K mg C):Qs P w K mg base Z4 1 f fd ["self","place"] (Qoj P w C):=by
 refine F.ok Qon (λvs H Q E h=>?_) (λcdv A outer s H vs Q E J h=>?_)
 ·obtain⟨n,A,fs,tb,x,p,l,rfl,_⟩:=h;rfl
 obtain⟨n,A,fs,tb,x,p,l,rfl,X,hc,hl,q,g⟩:=h;have L:=U6 J;have nd:=Qon.nd;show∃t,Z7 ?mysWayUp _ t/\_;let R:Subtype (Z7 ?mysWayUp ((Qj Qa4).drop 3)):=⟨_,Qh (Qv (pv 2))⟩
 let O:Subtype (Z7 ?mysWayUp ((Qj Qa4).drop 2)):=⟨_,Qd (Vm Gy (Qr O3 (pv 3) Ur (Q3 _))
   (Qd (Ze (Xw Gu GF GV Z0 (pv 2) (Qa (pv 3) Qe)))
   (Qh (Qt 3 nd (Zr L (Qn (pv 0) rfl) (pv 3) (λ_ _=>rfl)))))) R.2⟩
 let N:Subtype (Z7 ?mysWayUp ((Qj Qa4).drop 1)):=⟨_,Qd (Qt 3 nd (pv 1)) O.2⟩
 refine⟨_,Qd (Qt 2 nd (Zt Qe)) N.2,?_⟩;obtain⟨dx,M⟩:=X.ob;refine⟨Gw _,λr b=>⟨_,Xb,?_⟩⟩;have V:=Qg b (.lst []);obtain⟨U,D⟩:=hc.head;have G:l[0]?=Ga p:=by rw[D];rfl
 let o:Nat->St->Hp->Prop:=λm σ H2=>XE1 λi=>PA4 (m=l.length+1 - i) (i<=l.length) (σ=[Ga (.ref n),Ga (jv p),Ga (.ref r),Ga (ov l[i]?)]) (H2=zj H r (.lst ((l.take i).map jv)))
 refine Qcv o
  ⟨_,0,Xb,Gw _,by rw[G];rfl,by simp⟩ ?_ (λσ H Q S I=>λh=>by obtain⟨v,c,u,y,z,B⟩:=h;exact⟨v,c,u,y,z,I _ _ B⟩)
 rintro m σ H2 ⟨i,rfl,hi,rfl,rfl⟩;refine⟨_,Xb,Xb,_,Xb,?_⟩;rw[Qg5];rcases Tk i l.length with a|j
 ·have c:l[i]?=Ga l[i]:=List.getElem?_eq_getElem a;have d:l[i]∈l:=List.getElem_mem a;rw[c];refine Yv ?_;refine⟨_,Xb,.inl ⟨Xb,_,Zd.of Qb⟩,_,Xb,r,_,_,Xb,Xb,Qb,by rw[List.length_map,List.length_take,GQ];omega,?_⟩;have e:Q4 H (zj (zj H r (.lst ((l.take i).map jv))) r (.lst ((l.take i).map jv++[jv l[i]]))):=by rw[Jf];exact Qg b _
  refine⟨_,Xb,n,C,dx,_,_,Xb,e _ _ M,T.cl,T.above,Ow _,_,Xb,A.v,_,Xb,Xj (e _ _ X.ab) (hl _ d),_,by omega,i+1,Xb,a,?_,?_⟩
  ·rw[Qm7 hc a];rfl
  ·rw[Jf,List.take_add_one,c,List.map_append];rfl
 ·have c:l[i]?=Gh:=List.getElem?_eq_none j;have k:i=l.length:=by omega
  subst k;rw[c];refine Zp ?_;rw[List.take_length];exact⟨_,Xb,g r _ (Qg b _) b Qb⟩
theorem Qr7:Qx ["self","low","high","over","place","old_over"] ["self","low","high"] (Ql Qh0):=by eq_refl
theorem Qvz(F:Wd K "hang" "Net.hang" Qh0 f fd)(T:Uc K mg C):Qs P w K mg base Z4 1 f fd ["self","low","high"] (Qlp P w C):=by
 refine F.ok Qr7 (λvs H Q E h=>?_) (λcdv A outer s H vs Q E hr h=>?_)
 ·obtain⟨n,A,fs,tb,x,lo,hi,cl,rfl,_⟩:=h;rfl
 obtain⟨n,A,fs,tb,x,lo,hi,cl,rfl,X,hc,I,Y,g⟩:=h;have Z:=U6 hr;have nd:=Qr7.nd;show∃t,Z7 ?mysHang _ t/\_;let w3:Subtype (Z7 ?mysHang ((Qj Qh0).drop 2)):=⟨_,Qh (Vm Gy (Qr O3 (pv 4) Ur (Q3 _))
   (Qd (Qt 5 nd (Zr Z (Qn (pv 0) rfl) (pv 4) (λ_ _=>rfl)))
   (Qd (Wo Z (Qn (pv 0) rfl) (pv 4) (pv 3) rfl)
   (Qd (Qt 3 nd (pv 4))
   (Qh (Qt 4 nd (pv 5)))))))⟩
 let w2:Subtype (Z7 ?mysHang ((Qj Qh0).drop 1)):=⟨_,Qd (Qt 4 nd (pv 1)) w3.2⟩
 refine⟨_,Qd (Qt 3 nd (pv 2)) w2.2,?_⟩;obtain⟨dx,L⟩:=X.ob;obtain⟨aa,d⟩:=hc.head;refine⟨_,Xb,_,Xb,?_⟩;have nv:n≠A.v:=Zi L X.ab (by intro z;cases z);let M:Nat->St->Hp->Prop:=λm σ H2=>XE4 λ(u:Nat->Option Nat)(over:Nat)(X6:List Nat)(x5:Option V)=>PA8 (m=X6.length) (∀q∈X6,u q=x.up q) (∀c r,X6=c::r->Ch x.up c X6) (X6.Nodup) (∀q∈X6,q∈x.S) (Xm u over X6=Xm x.up hi cl) (σ=[Ga (.ref n),Ga (jv lo),Ga (jv hi),Ga (jv over),Ga (ov X6.head?),x5]) (H2=zj H A.v (.dK (dS x.S λp=>ov (u p))))
 refine Qcv M
  ⟨_,x.up,hi,cl,Gh,Xb,λ_ _=>rfl,λc r e=>?_,hc.nodup,I,Xb,?_,?_⟩ ?_ (λσ H Q Q' hQ=>λh=>by obtain⟨v,e1,G,e3,e4,e5⟩:=h;exact⟨v,e1,G,e3,e4,hQ _ _ e5⟩)
 ·rw[d]at e;cases e;exact hc
 ·rw[d];rfl
 ·funext b
  by_cases hb:b=A.v
  ·subst hb;rw[Qb];exact X.ab
  ·rw[Qf hb]
 rintro m σ H2 ⟨u,over,X6,x5,rfl,l,y,nd2,hS,J,rfl,rfl⟩;refine⟨_,Xb,Xb,_,Xb,?_⟩;rw[Qg5];cases X6 with
 |nil=>
  refine Zp ?_;have e:Xm u over []=u:=rfl;rw[e]at J;refine g _ ?_ (λb o eb hb=>by rw[Qf hb];exact eb) (λb hb=>?_)
  ·rw[<-J];have N:Qu H (zj H A.v (.dK (dS x.S λp=>ov (u p)))):=Zs λxs e=>by rw[X.ab]at e;cases e
   subst_vars;obtain⟨ws,U,f2⟩:=X.fo;obtain⟨zw,D,d2,d3⟩:=X.ta;obtain⟨ls,l1,l2⟩:=X.li;obtain⟨kv,O,a2⟩:=X.at_;and_intros;refine⟨⟨dx,by rw[Qf nv];exact L⟩,⟨ws,by rw[Qf (Zi U X.ab (by intro z;cases z))];exact U,L2.Paired.Ya f2 λ_ _ h=>h.Qm N⟩,by rw[Qf X.ap.lv];exact X.le,by rw[Qf X.ap.mv];exact X.me,by rw[Qf X.ap.uv];exact X.us,
    ⟨zw,⟨by rw[Qf (Zi D.at_ X.ab (by intro z;cases z))];exact D.at_,Zg N D.keys⟩,d2,d3⟩,⟨ls,by rw[Qf (Zi l1 X.ab (by intro z;cases z))];exact l1,L2.Paired.Ya l2 λ_ _ h=>h.Qm N⟩,⟨kv,by rw[Qf (Zi O X.ab (by intro z;cases z))];exact O,a2⟩,Qb,
    λp j=>by rw[Qf (Zi (X.ml p j) X.ab (by intro z;cases z))];exact X.ml p j,λp j=>by rw[Qf (Zi (X.ul p j) X.ab (by intro z;cases z))];exact X.ul p j,X.ap⟩
  ·by_cases e:b=A.v
   ·subst e;rw[Qb]at hb;cases hb
   ·rw[Qf e]at hb;exact hb
 |cons c r=>
  refine Yv ?_;have R:=hS c (by simp);have o2:(zj H A.v (.dK (dS x.S λp=>ov (u p)))) n=Ga (.ins C dx (Y9 A)):=by rw[Qf nv];exact L
  have uc:u c=r.head?:=by rw[l c (by simp)];have:=Qm7 (y c r Xb) (i:=0) (by simp);simp only[List.getElem_cons_zero]at this;rw[this];cases r<;>rfl
  rw[List.nodup_cons]at nd2;have W:=I8.k (k:=ki c) (v:=jv over) (@Qb H A.v (.dK (dS x.S λp=>ov (u p)))) (by rw[Va,GQ];omega);rw[Jf,Qk9 R]at W;refine⟨_,Xb,n,C,dx,_,_,Xb,o2,T.cl,T.above,Ow _,_,Xb,A.v,_,Xb,Xj Qb R,_,Xb,_,Xb,n,C,dx,_,_,Xb,o2,T.cl,T.above,Ow _,_,Xb,A.v,_,Xb,W,_,Xb,_,Xb,r.length,by simp,Qdx u c over,c,r,Ga (ov (u c)),Xb,λq B=>?_,λc2 r2 G=>?_,nd2.2,λq B=>hS q (by simp[B]),J,?_,?_⟩
  ·unfold Qdx;rw[Gi (λz:q=c=>nd2.1 (z▸B))];exact l q (by simp[B])
  ·have:=y c r rfl;subst G;exact this.suffix (a:=[c]) rfl
  ·rw[uc];rfl
  ·congr 2;refine Wt λq _=>?_;unfold Qdx;by_cases e:q=c
   ·rw[Gn e,Gn e];rfl
   ·rw[Gi e,Gi e]
end
end K05
namespace Sb
open PySem PySem.Spec PyProof.Rows L2 Nt
theorem Yd{H:Hp}{a b:Gc}{o u:HO}(h:H a=Ga o)(k:H b=Ga u)(d:∀z:o=u,False):a≠b:=λz=>by subst z;rw[h]at k;exact d (Tj k)
section
variable{P:Gg}{w:Gs}{C:Gc}{H:Hp}{n:Gc}{A:Na}{fs:List Fm}{tb:Nat}{x:Nn}
theorem Z6.Qvq(X:Z6 P w C H n A fs tb x)(ld:Nat->Nat):Z6 P w C (zj H A.l (.dK (dS x.S λp=>jv (ld p)))) n A fs tb {x with lead:=ld}:=by
 obtain⟨dx,g⟩:=X.ob;obtain⟨r,f,m⟩:=X.fo;obtain⟨zw,D,j,k⟩:=X.ta;obtain⟨ls,l1,l2⟩:=X.li;obtain⟨q,d,i⟩:=X.at_;have c:Qu H (zj H A.l (.dK (dS x.S λp=>jv (ld p)))):=Zs λxs e=>by rw[X.le]at e;cases e
 have u:∀{b o},H b=Ga o->b≠A.l->(zj H A.l (.dK (dS x.S λp=>jv (ld p)))) b=Ga o:=λe h=>by rw[Qf h];exact e
 exact⟨⟨dx,u g (Yd g X.le nofun)⟩,⟨r,u f (Yd f X.le nofun),L2.Paired.Ya m λ_ _ h=>h.Qm c⟩,Qb,u X.me (Gp X.ap.lm),u X.us (Gp X.ap.lu),⟨zw,⟨u D.at_ (Yd D.at_ X.le nofun),Zg c D.keys⟩,j,k⟩,
  ⟨ls,u l1 (Yd l1 X.le nofun),L2.Paired.Ya l2 λ_ _ h=>h.Qm c⟩,⟨q,u d (Yd d X.le nofun),i⟩,u X.ab (Gp X.ap.lv),λp a=>u (X.ml p a) (Yd (X.ml p a) X.le nofun),λp a=>u (X.ul p a) (Yd (X.ul p a) X.le nofun),X.ap⟩
theorem Z6.Q03(X:Z6 P w C H n A fs tb x){k:Nat}(a:k∈x.S)(l:List Nat):Z6 P w C (zj H (A.ml k) (.lst (l.map jv))) n A fs tb {x with mem:=λp=>if p=k then l else x.mem p}:=by
 obtain⟨dx,g⟩:=X.ob;obtain⟨v,r,s⟩:=X.fo;obtain⟨zw,D,j,q⟩:=X.ta;obtain⟨ls,l1,l2⟩:=X.li;obtain⟨t,f,i⟩:=X.at_;have m:=X.ml k a;have d:Qu H (zj H (A.ml k) (.lst (l.map jv))):=Zs λxs e=>by rw[m]at e;cases e
 have u:∀{b o},H b=Ga o->b≠A.ml k->(zj H (A.ml k) (.lst (l.map jv))) b=Ga o:=λe h=>by rw[Qf h];exact e
 refine⟨⟨dx,u g (Yd g m nofun)⟩,⟨v,u r (Gp (X.ap.mkf k a).2),L2.Paired.Ya s λ_ _ h=>h.Qm d⟩,u X.le (Yd X.le m nofun),u X.me (Yd X.me m nofun),u X.us (Yd X.us m nofun),⟨zw,⟨u D.at_ (Yd D.at_ m nofun),Zg d D.keys⟩,j,q⟩,
  ⟨ls,u l1 (Gp (X.ap.mkf k a).1),L2.Paired.Ya l2 λ_ _ h=>h.Qm d⟩,⟨t,u f (Yd f m nofun),i⟩,u X.ab (Yd X.ab m nofun),λp c=>?_,λp c=>u (X.ul p c) (Gp (X.ap.mul k a p c)),X.ap⟩
 by_cases e:p=k
 ·subst e;show _=Ga (HO.lst ((if p=p then l else x.mem p).map jv));rw[Qb,Gn rfl]
 ·show _=Ga (HO.lst ((if p=k then l else x.mem p).map jv));rw[Gi e];exact u (X.ml p c) (λz=>e (X.ap.mm p c k a z))
theorem Z6.Qsc(X:Z6 P w C H n A fs tb x){k:Nat}(a:k∈x.S)(l:List Nat):Z6 P w C (zj H (A.ul k) (.lst (l.map jv))) n A fs tb {x with Xh:=λp=>if p=k then l else x.Xh p}:=by
 obtain⟨dx,g⟩:=X.ob;obtain⟨v,r,s⟩:=X.fo;obtain⟨zw,D,j,q⟩:=X.ta;obtain⟨ls,l1,l2⟩:=X.li;obtain⟨t,f,i⟩:=X.at_;have m:=X.ul k a;have d:Qu H (zj H (A.ul k) (.lst (l.map jv))):=Zs λxs e=>by rw[m]at e;cases e
 have u:∀{b o},H b=Ga o->b≠A.ul k->(zj H (A.ul k) (.lst (l.map jv))) b=Ga o:=λe h=>by rw[Qf h];exact e
 refine⟨⟨dx,u g (Yd g m nofun)⟩,⟨v,u r (Gp (X.ap.ukf k a).2),L2.Paired.Ya s λ_ _ h=>h.Qm d⟩,u X.le (Yd X.le m nofun),u X.me (Yd X.me m nofun),u X.us (Yd X.us m nofun),⟨zw,⟨u D.at_ (Yd D.at_ m nofun),Zg d D.keys⟩,j,q⟩,
  ⟨ls,u l1 (Gp (X.ap.ukf k a).1),L2.Paired.Ya l2 λ_ _ h=>h.Qm d⟩,⟨t,u f (Yd f m nofun),i⟩,u X.ab (Yd X.ab m nofun),λp c=>u (X.ml p c) (X.ap.mul p c k a),λp c=>?_,X.ap⟩
 by_cases e:p=k
 ·subst e;show _=Ga (HO.lst ((if p=p then l else x.Xh p).map jv));rw[Qb,Gn rfl]
 ·show _=Ga (HO.lst ((if p=k then l else x.Xh p).map jv));rw[Gi e];exact u (X.ul p c) (λz=>e (X.ap.uu p c k a z))
theorem Z6.Qsn(X:Z6 P w C H n A fs tb x){zw kvs':List KE}(D:DH P w H A.t zw)(hl:kvs'.length<=tb+1)(i:Up H kvs'){t':Fm->Option Nat}(q:∀k:Fm,Yf kvs' (Y1 k)=(t' k).map jv):Z6 P w C (zj H A.t (Ut P w A.t kvs')) n A fs (tb+1) {x with tab:=t'}:=by
 obtain⟨dx,g⟩:=X.ob;obtain⟨s,f,l⟩:=X.fo;obtain⟨ls,l1,l2⟩:=X.li;obtain⟨r,d,j⟩:=X.at_;have m:=D.at_;have c:Qu H (zj H A.t (Ut P w A.t kvs')):=Zs λxs e=>by rw[m]at e;cases e
 have u:∀{b o},H b=Ga o->b≠A.t->(zj H A.t (Ut P w A.t kvs')) b=Ga o:=λe h=>by rw[Qf h];exact e
 exact⟨⟨dx,u g (Yd g m nofun)⟩,⟨s,u f (Yd f m nofun),L2.Paired.Ya l λ_ _ h=>h.Qm c⟩,u X.le (Yd X.le m nofun),u X.me (Yd X.me m nofun),u X.us (Yd X.us m nofun),⟨kvs',⟨Qb,Zg c i⟩,hl,q⟩,
  ⟨ls,u l1 (Yd l1 m nofun),L2.Paired.Ya l2 λ_ _ h=>h.Qm c⟩,⟨r,u d (Yd d m nofun),j⟩,u X.ab (Yd X.ab m nofun),λp a=>u (X.ml p a) (Yd (X.ml p a) m nofun),λp a=>u (X.ul p a) (Yd (X.ul p a) m nofun),X.ap⟩
theorem Z6.Qxv(X:Z6 P w C H n A fs tb x){kv2:List (List Xv×V)}{ls':List V}{lks:List Lk}{lat':Nat->Nat->Option Nat}(h1:kv2.length<=2*lks.length)(h2:∀i j:Nat,Y2 kv2 [ki i,ki j]=(lat' i j).map jv)(s:Paired (Iz H) ls' lks):
  Z6 P w C (zj (zj H A.a (.dT kv2)) A.k (.lst ls')) n A fs tb {x with links:=lks,Xf:=lat'}:=by
 obtain⟨dx,f⟩:=X.ob;obtain⟨t,l,r⟩:=X.fo;obtain⟨zw,D,m,q⟩:=X.ta;obtain⟨ls,l1,l2⟩:=X.li;obtain⟨y,c,v⟩:=X.at_;have g:Qu H (zj (zj H A.a (.dT kv2)) A.k (.lst ls')):=λb xs e=>by rw[Qf (Yd e l1 nofun),Qf (Yd e c nofun)];exact e
 have u:∀{b o},H b=Ga o->b≠A.k->b≠A.a->(zj (zj H A.a (.dT kv2)) A.k (.lst ls')) b=Ga o:=λe h h'=>by rw[Qf h,Qf h'];exact e
 refine⟨⟨dx,u f (Yd f l1 nofun) (Yd f c nofun)⟩,⟨t,u l (Gp X.ap.kf) (Yd l c nofun),L2.Paired.Ya r λ_ _ h=>h.Qm g⟩,u X.le (Yd X.le l1 nofun) (Yd X.le c nofun),u X.me (Yd X.me l1 nofun) (Yd X.me c nofun),u X.us (Yd X.us l1 nofun) (Yd X.us c nofun),
  ⟨zw,⟨u D.at_ (Yd D.at_ l1 nofun) (Yd D.at_ c nofun),Zg g D.keys⟩,m,q⟩,⟨ls',Qb,L2.Paired.Ya s λ_ _ h=>h.Qm g⟩,⟨kv2,?_,h1,h2⟩,u X.ab (Yd X.ab l1 nofun) (Yd X.ab c nofun),λp d=>u (X.ml p d) (X.ap.mkf p d).1 (Yd (X.ml p d) c nofun),λp d=>u (X.ul p d) (X.ap.ukf p d).1 (Yd (X.ul p d) c nofun),X.ap⟩
 rw[Qf (Yd c l1 nofun),Qb]
end
end Sb
namespace K05
open PySem L2 Sb Nt
structure Qem(fs:List Fm)(S:List Nat):Prop where
 str:∀p,TU (Ye fs p)=Gf
 lt:∀p∈S,p<fs.length
 pts:∀p∈S,∀q∈Zk fs p,q∈S
 few:∀p,(Zk fs p).length<=100000
inductive Qnz(P:Gg)(w:Gs)(C:Gc)(vs:List V)(H:Hp)(Q:VK):Prop
 |mk (n:Gc) (A:Na) (fs:List Fm) (tb:Nat) (x:Nn) (g:Nat) (k:Nat) (h0:vs=[.ref n,jv g,jv k]) (h1:Z6 P w C H n A fs tb x) (h2:Qem fs x.S) (h3:g∈x.S) (h4:k∈x.S) (h5:g≠k) (h6:(∀p∈x.mem g,p∈x.S)) (h7:(∀p∈x.Xh g,p∈x.S)) (h8:x.S.length<=100000) (h9:(x.mem k).length+(x.mem g).length<=100000) (h10:(x.Xh k).length+(x.Xh g).length<=100000) (h11:tb+(x.Xh g).length<=1000000) (h12:∀(r:Gc)(es:List V)(H':Hp),Z6 P w C H' n A fs (tb+(x.Xh g).length) (V8 (Ye fs) (Zk fs) x g k).1->Rn A x.S H H'->H r=Gh->H' r=Ga (.lst es)->Paired (Iz H') es (V8 (Ye fs) (Zk fs) x g k).2->Q (.ref r) H'):Qnz P w C vs H Q
def Qk1(P:Gg)(w:Gs)(C:Gc):Sp:=λvs H Q _=>Qnz P w C vs H Q
section
variable{P:Gg}{w:Gs}{K:Gd}{mg:Ta->Option Value}{base:Heap}
theorem Que:Qx ["self","gone","kept","place","found","user","twin"] ["self","gone","kept"] (Ql Wj):=by eq_refl
theorem Qpz{ky:Nat->Ta×List Nat}{l:List Nat}{t:Ta×List Nat->Option Nat}{i u:Nat}(h:l[i]?=Ga u):scan (ρ:=Jb) ky (l.take (i+1)) t []=(match(scan (ρ:=Jb) ky (l.take i) t []).1 (ky u)with
  |some v=>((scan (ρ:=Jb) ky (l.take i) t []).1,if v=u then(scan (ρ:=Jb) ky (l.take i) t []).2 else(scan (ρ:=Jb) ky (l.take i) t []).2++[(u,v,Gh)])
  |none=>((λk=>if k=ky u then Ga u else(scan (ρ:=Jb) ky (l.take i) t []).1 k),(scan (ρ:=Jb) ky (l.take i) t []).2)):=by
 have gen:∀(a:List Nat)(t:Ta×List Nat->Option Nat)(f:List (Nat×Nat×Option Jb)),scan (ρ:=Jb) ky (a++[u]) t f=(match(scan (ρ:=Jb) ky a t f).1 (ky u)with
  |some v=>((scan (ρ:=Jb) ky a t f).1,if v=u then(scan (ρ:=Jb) ky a t f).2 else(scan (ρ:=Jb) ky a t f).2++[(u,v,Gh)])
  |none=>((λk=>if k=ky u then Ga u else(scan (ρ:=Jb) ky a t f).1 k),(scan (ρ:=Jb) ky a t f).2)):=by
  intro a;induction a with
  |nil=>intro t f;simp only[List.nil_append,scan];all_goals (cases t (ky u)<;>rfl)
  |cons z a b=>
   intro t f;simp only[List.cons_append,scan];cases t (ky z)with
   |some v=>exact b _ _
   |none=>exact b _ _
 rw[List.take_add_one,h];exact gen _ _ _
theorem Qxl{f fK C:Gc}{fd ag:Ts}(F:Wd K "give_over" "Net.give_over" Wj f fd)(T:Uc K mg C)(mK:Z9 K C "key_of" fK)(GK:Qs P w K mg base Z4 1 fK ag ["self","place"] (Qb7 P w C))(bK:Binds K ag ["self","place"] []):
  Qs P w K mg base Z4 2 f fd ["self","gone","kept"] (Qk1 P w C):=by
 refine F.ok Que (λvs H Q E h=>?_) (λcdv A outer s H vs Q E hr h=>?_)
 ·obtain⟨n,A,fs,tb,x,g,k,rfl,_⟩:=h;rfl
 obtain⟨n,A,fs,tb,x,g,k,rfl,X,fok,I,J,ar,mS,uS,hS,hm,aC,aB,q⟩:=h;have hu:=U6 hr;have ai:=hr.units;have av:Yb 1 _:=hr.mono (by omega);have nd:=Que.nd;show∃t,Z7 ?mysGiveOver _ t/\_;let w6:Subtype (Z7 ?mysGiveOver ((Qj Wj).drop 5)):=⟨_,Qh (Qv (pv 4))⟩
 let w5:Subtype (Z7 ?mysGiveOver ((Qj Wj).drop 4)):=⟨_,Qd (Yg Gy rfl (Xd (Zr hu (Qn (pv 0) rfl) (pv 1) (λ_ _=>rfl))) (Yc 5 nd)
   (Qd (Qt 6 nd (Qz8 El Em (Qmi ai) (Qn (pv 0) rfl) (Qa (Q9 (pv 0) T.cl mK GK av bK .nil Q6 (Qa (pv 5) Qe)) (Qa (pv 5) Qe))))
   (Qh (Zn (Qr Ic (pv 6) (pv 5) (Q3 _))
    (Qh (Ze (Xw Gu GF GV Z0 (pv 4) (Qa (Zb (Qa (pv 5) (Qa (pv 6) (Qa Ur Qe)))) Qe)))) Q7)))) w6.2⟩
 let w4:Subtype (Z7 ?mysGiveOver ((Qj Wj).drop 3)):=⟨_,Qd (Qt 4 nd (Zt Qe)) w5.2⟩
 let w3:Subtype (Z7 ?mysGiveOver ((Qj Wj).drop 2)):=⟨_,Qd (Ze (Xw Gu EB EC Qa3 (Zr hu (Qn (pv 0) rfl) (pv 2) (λ_ _=>rfl)) (Qa (Zr hu (Qn (pv 0) rfl) (pv 1) (λ_ _=>rfl)) Qe))) w4.2⟩
 let w2:Subtype (Z7 ?mysGiveOver ((Qj Wj).drop 1)):=⟨_,Qd (Ze (Xw Gu EB EC Qa3 (Zr hu (Qn (pv 0) rfl) (pv 2) (λ_ _=>rfl)) (Qa (Zr hu (Qn (pv 0) rfl) (pv 1) (λ_ _=>rfl)) Qe))) w3.2⟩
 refine⟨_,Qd (Yg Gy rfl (Xd (Zr hu (Qn (pv 0) rfl) (pv 1) (λ_ _=>rfl))) (Yc 3 nd)
   (Qh (Wo hu (Qn (pv 0) rfl) (pv 3) (pv 2) rfl))) w2.2,?_⟩
 obtain⟨dx,o1⟩:=X.ob;have nl:n≠A.l:=Yd o1 X.le nofun;let ay:Nat->St->Hp->Prop:=λi σ H2=>PA2 (∃x3,σ=[Ga (.ref n),Ga (jv g),Ga (jv k),x3,Gh,Gh,Gh]) (H2=zj H A.l (.dK (dS x.S λp=>jv (if p∈(x.mem g).take i then k else x.lead p))))
 refine⟨_,Xb,n,C,dx,_,_,Xb,o1,T.cl,T.members,Vb _,_,Xb,A.m,_,Xb,Xj X.me I,A.ml g,Xb,⟨_,Zd.of (X.ml g I)⟩,Xl (K:=K) (a:=A.ml g) (xs:=(x.mem g).map jv)
  ay
  ⟨⟨_,Xb⟩,?_⟩ (by rintro i σ H2 _ ⟨_,e⟩;rw[e];exact Zd.of (by rw[Qf (Yd (X.ml g I) X.le nofun)];exact X.ml g I)) ?_ ?_⟩
 ·funext b
  by_cases hb:b=A.l
  ·subst hb;rw[Qb,X.le];simp
  ·rw[Qf hb]
 ·rintro i y σ H2 hi ⟨⟨x3,rfl⟩,rfl⟩;rw[List.getElem?_map]at hi;cases eq:(x.mem g)[i]? with
  |none=>rw[eq]at hi;cases hi
  |some p=>
   rw[eq]at hi;cases hi;have pS:=mS p (List.mem_of_getElem? eq);have o2:(zj H A.l (.dK (dS x.S λp=>jv (if p∈(x.mem g).take i then k else x.lead p)))) n=Ga (.ins C dx (Y9 A)):=by rw[Qf nl];exact o1
   have hk:=I8.k (k:=ki p) (v:=jv k) (@Qb H A.l (.dK (dS x.S λp=>jv (if p∈(x.mem g).take i then k else x.lead p)))) (by rw[Va,GQ];omega);rw[Jf,Qk9 pS]at hk;refine⟨_,Xb,_,Xb,n,C,dx,_,_,Xb,o2,T.cl,T.Wz,Yo _,_,Xb,A.l,_,Xb,hk,⟨_,Xb⟩,?_⟩;congr 2;refine Wt λr _=>?_;rw[List.take_add_one,eq];by_cases e:r=p
   ·subst e;rw[Gn Xb,Gn (by simp)]
   ·rw[Gi e];by_cases hm:r∈(x.mem g).take i
    ·rw[Gn hm,Gn (List.mem_append_left _ hm)]
    ·rw[Gi hm,Gi (by simp[hm,e])]
 rintro σ H2 ⟨⟨x3,rfl⟩,rfl⟩;rw[List.length_map,List.take_length];have O:=X.Qvq (Q8 x g k);have eL:(dS x.S λp=>jv (if p∈x.mem g then k else x.lead p))=dS x.S λp=>jv (Q8 x g k p):=rfl;rw[eL];have F1:Rn A x.S H (zj H A.l (.dK (dS x.S λp=>jv (Q8 x g k p)))):=Rn.zj (.inl Xb);generalize zj H A.l (.dK (dS x.S λp=>jv (Q8 x g k p)))=H1 at O F1⊢;obtain⟨ad,ak⟩:=O.ob;refine⟨_,Xb,n,C,ad,_,_,Xb,ak,T.cl,T.members,Vb _,_,Xb,A.m,_,Xb,Xj O.me J,.inl ⟨Xb,_,Zd.of (O.ml k J)⟩,_,Xb,n,C,ad,_,_,Xb,ak,T.cl,T.members,Vb _,_,Xb,A.m,_,Xb,Xj O.me I,A.ml k,A.ml g,_,_,Xb,Xb,O.ml k J,O.ml g I,small (by rw[List.length_map,List.length_map];show(x.mem k).length+(x.mem g).length<=_;omega),?_⟩;have R:=O.Q03 J (x.mem k++x.mem g);have F2:Rn A x.S H1 (zj H1 (A.ml k) (.lst ((x.mem k++x.mem g).map jv))):=Rn.zj (.inr (.inr (.inr (.inr (.inr (.inr (.inr ⟨k,J,.inl Xb⟩)))))));have e2:((x.mem k).map jv++(x.mem g).map jv)=(x.mem k++x.mem g).map jv:=(List.map_append ..).symm;rw[e2];generalize zj H1 (A.ml k) (.lst ((x.mem k++x.mem g).map jv))=H2 at R F2⊢;obtain⟨ae,al⟩:=R.ob;refine⟨_,Xb,n,C,ae,_,_,Xb,al,T.cl,T.Qga,Jz _,_,Xb,A.u,_,Xb,Xj R.us J,.inl ⟨Xb,_,Zd.of (R.ul k J)⟩,_,Xb,n,C,ae,_,_,Xb,al,T.cl,T.Qga,Jz _,_,Xb,A.u,_,Xb,Xj R.us I,A.ul k,A.ul g,_,_,Xb,Xb,R.ul k J,R.ul g I,small (by rw[List.length_map,List.length_map];show(x.Xh k).length+(x.Xh g).length<=_;omega),?_⟩;have X3:=R.Qsc J (x.Xh k++x.Xh g);have F3:Rn A x.S H2 (zj H2 (A.ul k) (.lst ((x.Xh k++x.Xh g).map jv))):=Rn.zj (.inr (.inr (.inr (.inr (.inr (.inr (.inr ⟨k,J,.inr Xb⟩)))))));have e3:((x.Xh k).map jv++(x.Xh g).map jv)=(x.Xh k++x.Xh g).map jv:=(List.map_append ..).symm;rw[e3];generalize zj H2 (A.ul k) (.lst ((x.Xh k++x.Xh g).map jv))=H3 at X3 F3⊢;have ab:=(F1.trans F2).trans F3;refine⟨Gw _,λr ah=>?_⟩;have s4:=Qg ah (.lst []);have X4:=X3.same s4;obtain⟨ao,ax⟩:=X4.ob;have U:H r=Gh:=ab.there r ah;have ap:(λp=>if p=k then x.Xh k++x.Xh g else x.Xh p) g=x.Xh g:=Gi ar;have ug:∀{j:Hp}{t':Fm->Option Nat}{m:Nat},Z6 P w C j n A fs m {x with lead:=Q8 x g k,mem:=(λp=>if p=k then x.mem k++x.mem g else x.mem p),Xh:=(λp=>if p=k then x.Xh k++x.Xh g else x.Xh p),tab:=t'}->j (A.ul g)=Ga (.lst ((x.Xh g).map jv)):=λY=>by have:=Y.ul g I;rw[this];show Ga (HO.lst (((λp=>if p=k then x.Xh k++x.Xh g else x.Xh p) g).map jv))=_;rw[ap]
 let az:Nat->St->Hp->Prop:=λi σ j=>XE3 λ(x5 x6:Option V)(es:List V)=>PA5 (σ=[Ga (.ref n),Ga (jv g),Ga (jv k),x3,Ga (.ref r),x5,x6]) (Z6 P w C j n A fs (tb+i) {x with lead:=Q8 x g k,mem:=(λp=>if p=k then x.mem k++x.mem g else x.mem p),Xh:=(λp=>if p=k then x.Xh k++x.Xh g else x.Xh p),tab:=(scan (ρ:=Jb) (Zj (Ye fs) (Zk fs) (Q8 x g k)) ((x.Xh g).take i) x.tab []).1}) (Rn A x.S H j) (j r=Ga (.lst es)) (Paired (Iz j) es (scan (ρ:=Jb) (Zj (Ye fs) (Zk fs) (Q8 x g k)) ((x.Xh g).take i) x.tab []).2)
 refine⟨_,Xb,n,C,ao,_,_,Xb,ax,T.cl,T.Qga,Jz _,_,Xb,A.u,_,Xb,Xj X4.us I,A.ul g,Xb,⟨_,Zd.of (ug X4)⟩,Xl (K:=K) (a:=A.ul g) (xs:=(x.Xh g).map jv)
  az
  ⟨_,_,[],Xb,?_,ab.trans (Rn.of s4),Qb,.nil⟩ (by rintro i σ j _ ⟨_,_,_,_,Y,_⟩;exact Zd.of (ug Y)) ?_ ?_⟩
 ·exact X4
 ·rintro i y σ j hi ⟨x5,x6,es,rfl,Y,F5,N,l5⟩;rw[List.getElem?_map]at hi;cases eq:(x.Xh g)[i]? with
  |none=>rw[eq]at hi;cases hi
  |some u=>
   rw[eq]at hi;cases hi;have an:=uS u (List.mem_of_getElem? eq);have il:i<(x.Xh g).length:=(List.getElem?_eq_some_iff.mp eq).1;obtain⟨af,am⟩:=Y.ob;obtain⟨zw,D,d2,d3⟩:=Y.ta;have aD:es.length<=i:=by rw[Gr l5];have:=scan_len (ρ:=Jb) (ky:=Zj (Ye fs) (Zk fs) (Q8 x g k)) (l:=(x.Xh g).take i) (t:=x.tab) (f:=[]);rw[List.length_take]at this;simp at this;omega
   refine⟨_,Xb,n,C,af,_,_,Xb,am,T.cl,T.table,Qhy _,⟨A.t,zw,Xb,D.at_⟩,_,Xb,n,af,_,Xb,am,Qec _,_,Xb,n,A,fs,_,_,u,Xb,Y,fok.lt u an,λq hq=>fok.pts u an q hq,by have:=fok.few u;omega,λc H6 B c6 aq=>⟨_,Xb,?_⟩⟩;have Y6:=Y.same B;obtain⟨d,D6,aA,ac⟩:=Y6.ta;have kc:=aq.key (fok.str u);have kk:Yf d (Y1 (Zj (Ye fs) (Zk fs) (Q8 x g k) u))=((scan (ρ:=Jb) (Zj (Ye fs) (Zk fs) (Q8 x g k)) ((x.Xh g).take i) x.tab []).1 (Zj (Ye fs) (Zk fs) (Q8 x g k) u)).map jv:=ac (Zj (Ye fs) (Zk fs) (Q8 x g k) u);have W:=Qpz (ky:=Zj (Ye fs) (Zk fs) (Q8 x g k)) (t:=x.tab) eq;have rO:¬Own A x.S r:=λz=>by rcases X.own z with⟨_,e⟩|⟨_,e⟩|⟨_,e⟩|⟨_,e⟩<;>rw[U]at e<;>cases e
   refine⟨A.t,c,jv u,d,_,Xb,Xb,D6,kc,by rw[GQ];omega,λv hv=>?_,λhn=>?_⟩
   ·
    rw[kk]at hv;cases ev:(scan (ρ:=Jb) (Zj (Ye fs) (Zk fs) (Q8 x g k)) ((x.Xh g).take i) x.tab []).1 (Zj (Ye fs) (Zk fs) (Q8 x g k) u)with
    |none=>rw[ev]at hv;cases hv
    |some v0=>
     rw[ev]at hv;cases hv;rw[ev]at W;refine⟨_,Xb,_,Xb,Xb,_,Xb,?_⟩;rw[Qgx];by_cases M:v0=u
     ·rw[GX M];refine Zp ⟨_,_,es,Xb,?_,F5.trans (Rn.of B),B _ _ N,?_⟩
      ·rw[W];exact Y6.mono (by omega)
      ·rw[W];simp only[Gn M];exact L2.Paired.Ya l5 λ_ _ h=>h.Qm (Qu.of B)
     ·rw[Gz M];refine Yv ?_;refine⟨_,Xb,.inl ⟨Xb,_,Zd.of (B _ _ N)⟩,_,Xb,_,Xb,by show 3<=Gj;decide,λL Z=>?_⟩;have s7:=Qg Z (.tup [jv u,jv v0,.non]);refine⟨r,es,.ref L,Xb,Xb,s7 _ _ (B _ _ N),by rw[GQ];omega,?_⟩;have G:=B.trans s7;have Y7:=Y.same G;have aw:=G _ _ N;have aa:Qu j (zj (zj H6 L (.tup [jv u,jv v0,.non])) r (.lst (es++[.ref L]))):=λb xs e=>by rw[Qf (Yd e N nofun)];exact G _ _ e
      have aj:(zj (zj H6 L (.tup [jv u,jv v0,.non])) r (.lst (es++[.ref L]))) L=Ga (.tup [jv u,jv v0,.non]):=by rw[Qf (λz=>by rw[z,B _ _ N]at Z;cases Z),Qb]
      have Y8:Z6 P w C (zj (zj H6 L (.tup [jv u,jv v0,.non])) r (.lst (es++[.ref L]))) n A fs (tb+i) _:=Y7.keep (λb o e hb=>by
       rw[Qf λz=>?_]
       ·exact e
       ·subst z;rcases hb with hb|hb|hb
        ·exact rO hb
        ·obtain⟨ws,f1,_⟩:=X.fo;rw[hb,f1]at U;cases U
        ·rw[hb,o1]at U;cases U) (Zs λxs e=>by rw[aw]at e;cases e)
      refine⟨_,_,_,Xb,?_,⟨λb o e hb=>?_,λb hb=>?_⟩,Qb,?_⟩
      ·rw[W];exact Y8.mono (by omega)
      ·rw[Qf (Qc e U)];exact G _ _ (F5.keep b o e hb)
      ·by_cases e:b=r
       ·subst e;exact U
       ·rw[Qf e]at hb;exact F5.there b (G.free hb)
      ·rw[W];simp only[Gi M];exact Ys (L2.Paired.Ya l5 λ_ _ h=>h.Qm aa) (.cons ⟨L,.non,Xb,aj,Xb⟩ .nil)
   ·
    rw[kk]at hn;have ev:(scan (ρ:=Jb) (Zj (Ye fs) (Zk fs) (Q8 x g k)) ((x.Xh g).take i) x.tab []).1 (Zj (Ye fs) (Zk fs) (Q8 x g k) u)=Gh:=by
     cases ev:(scan (ρ:=Jb) (Zj (Ye fs) (Zk fs) (Q8 x g k)) ((x.Xh g).take i) x.tab []).1 (Zj (Ye fs) (Zk fs) (Q8 x g k) u)with
     |none=>rfl
     |some v0=>rw[ev]at hn;cases hn
    rw[ev]at W;refine⟨_,Xb,_,Xb,Xb,_,Xb,?_⟩;rw[Qgx,GX rfl];have au:Yf d (Y1 (Zj (Ye fs) (Zk fs) (Q8 x g k) u))=Gh:=by rw[kk];exact hn
    have Y8:=Y6.Qsn (kvs':=d++[(Y1 (Zj (Ye fs) (Zk fs) (Q8 x g k) u),c,jv u)]) D6 (by rw[List.length_append,List.length_singleton];omega) (λp hp=>by
     rcases List.mem_append.mp hp with hp|hp
     ·exact D6.keys p hp
     ·rw[List.mem_singleton]at hp;subst hp;exact kc) (t':=λk'=>if k'=Zj (Ye fs) (Zk fs) (Q8 x g k) u then Ga u else(scan (ρ:=Jb) (Zj (Ye fs) (Zk fs) (Q8 x g k)) ((x.Xh g).take i) x.tab []).1 k') (λk'=>by
     rw[Qa5 _ _ _ _ _ au];by_cases e:k'=Zj (Ye fs) (Zk fs) (Q8 x g k) u
     ·rw[Gn (by rw[e]),Gn e];rfl
     ·rw[Gi (λz=>e (U2 z)),Gi e];exact ac k')
    have rt:r≠A.t:=λz=>rO (by rw[z];exact .inr (.inr (.inr (.inl Xb))));have aa:Qu j (zj H6 A.t (Ut P w A.t (d++[(Y1 (Zj (Ye fs) (Zk fs) (Q8 x g k) u),c,jv u)]))):=λb xs e=>by rw[Qf (Yd (B _ _ e) D6.at_ nofun)];exact B _ _ e
    refine Zp ⟨_,_,es,Xb,?_,F5.trans ((Rn.of B).trans (Rn.zj (.inr (.inr (.inr (.inl Xb)))))),?_,?_⟩
    ·rw[W];exact Y8
    ·rw[Qf rt];exact B _ _ N
    ·rw[W];exact L2.Paired.Ya l5 λ_ _ h=>h.Qm aa
 ·rintro σ j ⟨x5,x6,es,rfl,Y,F5,N,l5⟩;rw[List.length_map,List.take_length]at Y l5;exact⟨_,Xb,q r es j Y F5 U N l5⟩
end
end K05
namespace Nt
theorem Xk{l S:List Nat}(nd:l.Nodup)(h:∀p∈l,p∈S):l.length<=S.length:=by
 induction l generalizing S with
 |nil=>simp
 |cons a r e=>rw[List.nodup_cons]at nd;have b:=h a (by simp);have:=e (S:=S.erase a) nd.2 λp c=>(List.mem_erase_of_ne (show p≠a fromλz=>nd.1 (by rw[<-z];exact c))).mpr (h p (by simp[c]));rw[List.length_erase_of_mem b]at this;have d:=List.length_pos_of_mem b;simp only[List.length_cons];omega
theorem Qdz{f:Nat->Nat}{g k:Nat}(a:g≠k):∀{S:List Nat},g∈S->k∈S->f g+f k<=(S.map f).sum
 |[],h,_=>by simp at h
 |x::r,d,e=>by
  simp only[List.map_cons,List.sum_cons];by_cases b:x=g
  ·subst b;have:=Je (f:=f) ((List.mem_cons.mp e).resolve_left (Gp a));lia
  ·by_cases c:x=k
   ·subst c;have:=Je (f:=f) ((List.mem_cons.mp d).resolve_left a);lia
   ·have:=Qdz (f:=f) a ((List.mem_cons.mp d).resolve_left (Gp b)) ((List.mem_cons.mp e).resolve_left (Gp c));lia
theorem Fst.chS{α:Type}{S:List Nat}{ls:List (Nat×Nat×α)}{Xf:Nat->Nat->Option Nat}{up:Nat->Option Nat}(F:Fst S ls Xf up):∀{p:Nat}{l:List Nat},Ch up p l->p∈S->∀q∈l,q∈S
 |_,_,.top _,b,q,a=>by simp at a;subst a;exact b
 |_,_,.step e h,b,q,a=>by
  rcases List.mem_cons.mp a with rfl|a
  ·exact b
  ·exact F.chS h (F.inS _ _ e).2 q a
theorem Qu7{W ρ:Type}(x:Nst W ρ):cls x<=x.S.length:=List.countP_le_length
end Nt
namespace K05
open PySem L2 Sb Nt
variable{C:Gc}{fd:Ts}
inductive Os(P:Gg)(w:Gs)(C:Gc)(vs:List V)(H:Hp)(Q:VK):Prop
 |mk (n:Gc) (A:Na) (fs:List Fm) (tb:Nat) (x:Nn) (c:Gc) (a:Nat) (b:Nat) (r:Option Jb) (pend:List Lk) (h0:vs=[.ref n,.ref c]) (h1:Z6 P w C H n A fs tb x) (h2:Qem fs x.S) (h3:Iz H (.ref c) (a,b,r)) (h4:X8 (Ye fs) (Zk fs) x (pend++[(a,b,r)])) (h5:x.lead a≠x.lead b) (h6:x.S.length<=10000) (h7:V3 x<=10000) (h8:x.links.length<=100000) (h9:tb+V3 x<=1000000) (h10:∀(lo hi:Nat)(cl:List Nat)(l:Gc)(es:List V)(H':Hp),((lo=a/\hi=b)\/(lo=b/\hi=a))->Ch x.up lo cl->Z6 P w C H' n A fs (tb+V3 x) (Yj (Ye fs) (Zk fs) x a b r lo hi cl).1->Rn A x.S H H'->H l=Gh->H' l=Ga (.lst es)->
  Paired (Iz H') es (Yj (Ye fs) (Zk fs) x a b r lo hi cl).2->Q (.ref l) H'):Os P w C vs H Q
def Qbk(P:Gg)(w:Gs)(C:Gc):Sp:=λvs H Q _=>Os P w C vs H Q
section
variable{P:Gg}{w:Gs}{K:Gd}{mg:Ta->Option Value}{base:Heap}
theorem Qbh:Qx ["self","link","one","other"] ["self","link"] (Ql Xg):=by eq_refl
theorem Qvc{H:Hp}{a b:Gc}{o u:HO}(h:a≠b):zj (zj H a o) b u=zj (zj H b u) a o:=by
 funext c
 by_cases h1:c=b
 ·subst h1;rw[Qb,Qf (Gp h),Qb]
 ·rw[Qf h1];by_cases h2:c=a
  ·subst h2;rw[Qb,Qb]
  ·rw[Qf h2,Qf h2,Qf h1]
theorem I0(x y:V)(vs:List V):atI (x::y::vs) (1:Int)=Ga y:=Qz (xs:=x::y::vs) (j:=1) rfl
theorem Qjc(x y z:V)(vs:List V):atI (x::y::z::vs) (2:Int)=Ga z:=Qz (xs:=x::y::z::vs) (j:=2) rfl
theorem Qg2{f fH fG:Gc}{ah ag:Ts}(F:Wd K "merge_link" "Net.merge_link" Xg f fd)(T:Uc K mg C)(B:Jr mg)(mH:Z9 K C "hang" fH)(GH:Qs P w K mg base Z4 1 fH ah ["self","low","high"] (Qlp P w C))(bH:Binds K ah ["self","low","high"] [])
  (mG:Z9 K C "give_over" fG)(GG:Qs P w K mg base Z4 2 fG ag ["self","gone","kept"] (Qk1 P w C))(bG:Binds K ag ["self","gone","kept"] []):
  Qs P w K mg base Z4 3 f fd ["self","link"] (Qbk P w C):=by
 refine F.ok Qbh (λvs H Q E h=>?_) (λcdv A outer s H vs Q E hr h=>?_)
 ·obtain⟨n,A,fs,tb,x,c,a,b,r,pend,rfl,_⟩:=h;rfl
 obtain⟨n,A,fs,tb,x,c,a,b,r,pend,rfl,X,fok,hc,I,al,hS,hT,hL,az,q⟩:=h;have L:=U6 hr;have am:Yb 1 _:=hr.mono (by lia);have an:Yb 2 _:=hr.mono (by lia);have nd:=Qbh.nd;show∃t,Z7 ?mysMergeLink _ t/\_;let w8:Subtype (Z7 ?mysMergeLink ((Qj Xg).drop 7)):=⟨_,Qh (Qv (Q9 (pv 0) T.cl mG GG an bG .nil Q6 (Qa (Zr L (Qn (pv 0) rfl) (pv 3) (λ_ _=>rfl)) (Qa (Zr L (Qn (pv 0) rfl) (pv 2) (λ_ _=>rfl)) Qe))))⟩
 let w7:Subtype (Z7 ?mysMergeLink ((Qj Xg).drop 6)):=⟨_,Qd (Ze (Q9 (pv 0) T.cl mH GH am bH .nil Q6 (Qa (pv 3) (Qa (pv 2) Qe)))) w8.2⟩
 let w6:Subtype (Z7 ?mysMergeLink ((Qj Xg).drop 5)):=⟨_,Qd (Zn (Qr Qnu (Qp Zc rfl B.len GO (Qa (Zr L (Qn (pv 0) rfl) (Zr L (Qn (pv 0) rfl) (pv 2) (λ_ _=>rfl)) (λ_ _=>rfl)) Qe)) (Qp Zc rfl B.len GO (Qa (Zr L (Qn (pv 0) rfl) (Zr L (Qn (pv 0) rfl) (pv 3) (λ_ _=>rfl)) (λ_ _=>rfl)) Qe)) (Q3 _))
   (Qd (Ze (Q9 (pv 0) T.cl mH GH am bH .nil Q6 (Qa (pv 2) (Qa (pv 3) Qe))))
    (Qh (Qv (Q9 (pv 0) T.cl mG GG an bG .nil Q6 (Qa (Zr L (Qn (pv 0) rfl) (pv 2) (λ_ _=>rfl)) (Qa (Zr L (Qn (pv 0) rfl) (pv 3) (λ_ _=>rfl)) Qe)))))) Q7) w7.2⟩
 let w5:Subtype (Z7 ?mysMergeLink ((Qj Xg).drop 4)):=⟨_,Qd (Ze (Xw Gu GF GV Z0 (Qn (pv 0) rfl) (Qa (pv 1) Qe))) w6.2⟩
 let w4:Subtype (Z7 ?mysMergeLink ((Qj Xg).drop 3)):=⟨_,Qd (Wo L (Qn (pv 0) rfl) (Zb (Qa (pv 3) (Qa (pv 2) Qe))) (Qp Zc rfl B.len GO (Qa (Qn (pv 0) rfl) Qe)) rfl) w5.2⟩
 let w3:Subtype (Z7 ?mysMergeLink ((Qj Xg).drop 2)):=⟨_,Qd (Wo L (Qn (pv 0) rfl) (Zb (Qa (pv 2) (Qa (pv 3) Qe))) (Qp Zc rfl B.len GO (Qa (Qn (pv 0) rfl) Qe)) rfl) w4.2⟩
 let w2:Subtype (Z7 ?mysMergeLink ((Qj Xg).drop 1)):=⟨_,Qd (Qt 3 nd (Qo Q5 (pv 1) Qk)) w3.2⟩
 refine⟨_,Qd (Qt 2 nd (Qo Q5 (pv 1) Qk)) w2.2,?_⟩;subst_vars;obtain⟨dx,o1⟩:=X.ob;obtain⟨c',rv,ec,ai,ay⟩:=id hc;and_intros;cases ec;subst_vars;obtain⟨ls,l1,l2⟩:=X.li;obtain⟨kv,a1,a2,a3⟩:=X.at_;have ll:ls.length=x.links.length:=Gr l2;obtain⟨aS,bS,_⟩:=I.pnd a b r (by simp);and_intros;have lv:(V.int (ls.length:Int))=jv x.links.length:=by rw[ll];rfl
 refine⟨_,Xb,c,_,_,_,Xb,Xb,Z2.of ai,Rk _ _,_,Xb,c,_,_,_,Xb,Xb,Z2.of ai,I0 _ _ _,?_⟩;refine⟨_,Xb,n,C,dx,_,_,Xb,o1,T.cl,T.links,Uw _,A.k,ls,Xb,.inl (Zd.of l1),?_⟩;rw[lv];refine⟨_,Xb,n,C,dx,_,_,Xb,o1,T.cl,T.Qb8,Qaz _,_,Xb,_,Xb,by show 2<=Gj;decide,λc1 D=>?_⟩;have s1:=Qg D (.tup [jv a,jv b]);refine⟨A.a,_,Xb,I8.t (k:=[ki a,ki b]) (s1 _ _ a1) Qb (by rw[GQ];lia),?_⟩;have aw:c1≠A.a:=λz=>by rw[z,a1]at D;cases D
 have nA:n≠A.a:=Yd o1 a1 nofun;have kA:A.k≠A.a:=Yd l1 a1 nofun;generalize R:W9 kv [ki a,ki b] (jv x.links.length)=G;have o2:(zj (zj H c1 (.tup [jv a,jv b])) A.a (.dT G)) n=Ga (.ins C dx (Y9 A)):=by rw[Qf nA];exact s1 _ _ o1
 have au:(zj (zj H c1 (.tup [jv a,jv b])) A.a (.dT G)) A.k=Ga (.lst ls):=by rw[Qf kA];exact s1 _ _ l1
 refine⟨_,Xb,n,C,dx,_,_,Xb,o2,T.cl,T.links,Uw _,A.k,ls,Xb,.inl (Zd.of au),?_⟩;rw[lv];refine⟨_,Xb,n,C,dx,_,_,Xb,o2,T.cl,T.Qb8,Qaz _,_,Xb,_,Xb,by show 2<=Gj;decide,λc2 u=>?_⟩;have s2:=Qg u (.tup [jv b,jv a]);have af:c2≠A.a:=λz=>by rw[z,Qb]at u;cases u
 have aA:G.length<=2*x.links.length+1:=by rw[<-R];have:=Wm kv [ki a,ki b] (jv x.links.length);lia
 refine⟨A.a,_,Xb,I8.t (k:=[ki b,ki a]) (s2 _ _ Qb) Qb (by rw[GQ];lia),?_⟩;generalize U:W9 G [ki b,ki a] (jv x.links.length)=kv2;have av:kv2.length<=2*(x.links.length+1):=by rw[<-U];have:=Wm G [ki b,ki a] (jv x.links.length);lia
 rw[Qvc (a:=A.a) (b:=c2) (Gp af),Jf];have aj:(zj H c1 (.tup [jv a,jv b])) c2=Gh:=by rw[Qf af]at u;exact u
 have v:Q4 H (zj (zj H c1 (.tup [jv a,jv b])) c2 (.tup [jv b,jv a])):=s1.trans (Qg aj _);generalize ax:zj (zj H c1 (.tup [jv a,jv b])) c2 (.tup [jv b,jv a])=Ha at v;have o3:(zj Ha A.a (.dT kv2)) n=Ga (.ins C dx (Y9 A)):=by rw[Qf nA];exact v _ _ o1
 have l3:(zj Ha A.a (.dT kv2)) A.k=Ga (.lst ls):=by rw[Qf kA];exact v _ _ l1
 refine⟨_,Xb,n,C,dx,_,_,Xb,o3,T.cl,T.links,Uw _,.inl ⟨Xb,_,Zd.of l3⟩,_,Xb,A.k,ls,_,Xb,Xb,l3,by rw[GQ];lia,?_⟩;have Xa:=X.same v;have M:=Xa.Qxv (kv2:=kv2) (ls':=ls++[.ref c]) (lks:=x.links++[(a,b,r)]) (lat':=Qa9 x.Xf a b x.links.length) (by rw[List.length_append,List.length_singleton];exact av) (λi j=>by
  rw[<-U,Qed,<-R,Qed,a3];unfold Qa9;by_cases h1:(i=a/\j=b)\/(i=b/\j=a)
  ·rw[Gn h1];rcases h1 with⟨rfl,rfl⟩|⟨rfl,rfl⟩
   ·rw[Gn rfl];split<;>rfl
   ·rw[Gn rfl];rfl
  ·rw[Gi h1,Gi (λz=>h1 (by simp only[List.cons.injEq,FP]at z;exact .inr ⟨Jd z.1,Jd z.2⟩)),Gi (λz=>h1 (by simp only[List.cons.injEq,FP]at z;exact .inl ⟨Jd z.1,Jd z.2⟩))])
  (Ys (L2.Paired.Ya l2 λ_ _ h=>h.Qm (Qu.of v)) (.cons (hc.Qm (Qu.of v)) .nil))
 have Fb:Rn A x.S H (zj (zj Ha A.a (.dT kv2)) A.k (.lst (ls++[.ref c]))):=((Rn.of v).trans (Rn.zj (.inr (.inr (.inr (.inr (.inr (.inl Xb)))))))).trans (Rn.zj (.inr (.inr (.inr (.inr (.inl Xb))))));generalize zj (zj Ha A.a (.dT kv2)) A.k (.lst (ls++[.ref c]))=Hb at M Fb;obtain⟨y,ob⟩:=M.ob;have ao:=I.ld a aS;have ap:=I.ld b bS;have go:∀lo hi,((lo=a/\hi=b)\/(lo=b/\hi=a))->Qlp P w C [.ref n,jv lo,jv hi] Hb (λ_ H1=>∃d,H1 n=Ga (.ins C d (Y9 A))/\H1 A.l=Ga (.dK (dS x.S λp=>jv (x.lead p)))/\Qk1 P w C [.ref n,jv (x.lead lo),jv (x.lead hi)] H1 Q E) E:=by
  intro lo hi N;have O:lo∈x.S:=by rcases N with⟨h,_⟩|⟨h,_⟩<;>rw[h]<;>assumption
  have ak:hi∈x.S:=by rcases N with⟨_,h⟩|⟨_,h⟩<;>rw[h]<;>assumption
  have W:x.lead lo≠x.lead hi:=by
   rcases N with⟨h1,h2⟩|⟨h1,h2⟩<;>rw[h1,h2]
   ·exact al
   ·exact Gp al
  have gS:=I.ld lo O;have gg:=I.idem lo O;have kS:=I.ld hi ak;have kk:=I.idem hi ak;obtain⟨cl,aa⟩:=I.fst.chain lo O;refine⟨n,A,fs,tb,_,lo,hi,cl,Xb,M,aa,I.fst.chS aa O,by show x.S.length<=_;lia,λH1 X1 k1 t1=>?_⟩;obtain⟨d,g⟩:=X1.ob;have F1:Rn A x.S Hb H1:=⟨λb o e hb=>k1 b o e (λz=>hb (z▸.inr (.inr (.inr (.inr (.inr (.inr (.inl Xb)))))))),t1⟩;have aB:=Xk (I.Ql7 _ gS gg) λp hp=>((I.Qbz _ gS gg p).mp hp).1;have aC:=Xk (I.Ql7 _ kS kk) λp hp=>((I.Qbz _ kS kk p).mp hp).1;have ae:=Qdz (f:=λp=>if x.lead p=p then(x.Xh p).length else 0) W gS kS;rw[Gn gg,Gn kk]at ae;have ae:(x.Xh (x.lead lo)).length+(x.Xh (x.lead hi)).length<=V3 x:=ae;refine⟨d,g,X1.le,n,A,fs,tb,_,x.lead lo,x.lead hi,Xb,X1,fok,gS,kS,W,λp hp=>((I.Qbz _ gS gg p).mp hp).1,λp hp=>I.Qi2 _ gS p hp,by show x.S.length<=_;lia,?_,?_,?_,λl es H' Y FY lY rY pY=>?_⟩
  ·show(x.mem (x.lead hi)).length+(x.mem (x.lead lo)).length<=_;lia
  ·show(x.Xh (x.lead hi)).length+(x.Xh (x.lead lo)).length<=_;lia
  ·show tb+(x.Xh (x.lead lo)).length<=_;lia
  ·refine q lo hi cl l es H' N aa (Z6.mono ?_ Y) ((Fb.trans F1).trans FY) (Fb.there l (t1 l lY)) rY pY;show tb+(x.Xh (x.lead lo)).length<=_;lia
 have aq:=go a b (.inl ⟨Xb,Xb⟩);have ar:=go b a (.inr ⟨Xb,Xb⟩);refine⟨_,Xb,n,C,y,_,_,Xb,ob,T.cl,T.members,Vb _,_,Xb,n,C,y,_,_,Xb,ob,T.cl,T.Wz,Yo _,_,Xb,A.l,_,Xb,Xj M.le aS,A.m,_,Xb,Xj M.me ao,_,_,Xb,.inl (Zd.of (M.ml _ ao)),_,Xb,n,C,y,_,_,Xb,ob,T.cl,T.members,Vb _,_,Xb,n,C,y,_,_,Xb,ob,T.cl,T.Wz,Yo _,_,Xb,A.l,_,Xb,Xj M.le bS,A.m,_,Xb,Xj M.me ap,_,_,Xb,.inl (Zd.of (M.ml _ ap)),_,_,Xb,Xb,_,Xb,?_⟩;refine Vl (λ_=>?_) (λ_=>?_)
 ·subst_vars;obtain⟨n',A',fs',ad,x',ac,ab,Z,e1,e2,e3,e4,e5,e6⟩:=aq;and_intros;refine⟨_,Xb,n,y,_,Xb,ob,Qoh _,_,Xb,_,Xb,n',A',fs',ad,x',ac,ab,Z,e1,e2,e3,e4,e5,λH1 y1 y2 y3=>?_⟩;obtain⟨d,g,J,g1⟩:=e6 H1 y1 y2 y3;exact⟨_,Xb,n,d,_,Xb,g,Qbo _,_,Xb,n,C,d,_,_,Xb,g,T.cl,T.Wz,Yo _,_,Xb,A.l,_,Xb,Xj J aS,_,Xb,n,C,d,_,_,Xb,g,T.cl,T.Wz,Yo _,_,Xb,A.l,_,Xb,Xj J bS,g1⟩
 ·subst_vars;obtain⟨n',A',fs',ad,x',ac,ab,Z,e1,e2,e3,e4,e5,e6⟩:=ar;and_intros;refine⟨_,Xb,n,y,_,Xb,ob,Qoh _,_,Xb,_,Xb,n',A',fs',ad,x',ac,ab,Z,e1,e2,e3,e4,e5,λH1 y1 y2 y3=>?_⟩;obtain⟨d,g,J,g1⟩:=e6 H1 y1 y2 y3;exact⟨_,Xb,n,d,_,Xb,g,Qbo _,_,Xb,n,C,d,_,_,Xb,g,T.cl,T.Wz,Yo _,_,Xb,A.l,_,Xb,Xj J bS,_,Xb,n,C,d,_,_,Xb,g,T.cl,T.Wz,Yo _,_,Xb,A.l,_,Xb,Xj J aS,g1⟩
end
structure Mgd(fs:List Fm)(x x':Nn)(a b:Nat)(r:Option Jb)(pend:List Lk):Prop where
 inv:X8 (Ye fs) (Zk fs) x' pend
 S:x'.S=x.S
 V3:V3 x'=V3 x
 eq:Cj x.S x'.lead pend a b
 mono:∀p∈x.S,∀q∈x.S,x.lead p=x.lead q->x'.lead p=x'.lead q
 snd:∀E,Ec (Ye fs) (Zk fs) x.S E->Snd E x [(a,b,r)]->Snd E x' pend
 rsn:∀y∈x'.links,y∈x.links\/y=(a,b,r)\/y.2.2=Gh
 pnd:∀y∈pend,y=(a,b,r)\/y.2.2=Gh
 less:cls x'+x'.links.length<=cls x+x.links.length
 more:x.links.length<=x'.links.length
inductive Qi1(P:Gg)(w:Gs)(C:Gc)(vs:List V)(H:Hp)(Q:VK):Prop
 |mk (n:Gc) (A:Na) (fs:List Fm) (tb:Nat) (x:Nn) (a:Nat) (b:Nat) (rv:V) (r:Option Jb) (h0:vs=[.ref n,jv a,jv b,rv]) (h1:Z6 P w C H n A fs tb x) (h2:Qem fs x.S) (h3:Qp8 H rv r) (h4:r≠Gh) (h5:a∈x.S) (h6:b∈x.S) (h7:X8 (Ye fs) (Zk fs) x []) (h8:x.S.length<=10000) (h9:V3 x<=10000) (h10:cls x+x.links.length<=10000) (h11:tb+cls x*V3 x<=900000) (h12:∀(x':Nn)(H':Hp),Z6 P w C H' n A fs (tb+(x'.links.length - x.links.length)*V3 x) x'->Mgd fs x x' a b r []->Rn A x.S H H'->Q .non H'):Qi1 P w C vs H Q
def Qhh(P:Gg)(w:Gs)(C:Gc):Sp:=λvs H Q _=>Qi1 P w C vs H Q
theorem Mgd.start{fs:List Fm}{x:Nn}{a b:Nat}{r:Option Jb}(I:X8 (Ye fs) (Zk fs) x [])(c:r≠Gh)(aS:a∈x.S)(bS:b∈x.S):Mgd fs x x a b r [(a,b,r)]:=
 ⟨I.Qn5 (λ_ _ _ h=>by simp at h) λd f g h=>by simp at h;obtain⟨rfl,rfl,rfl⟩:=h;exact⟨aS,bS,λe=>absurd e c⟩,Xb,Xb,.wait (r:=r) (by simp),λ_ _ _ _ e=>e,λE _ h=>h,λy h=>.inl h,λy h=>by simp at h;exact .inl h,Gm _,Gm _⟩
theorem Mgd.drop{fs:List Fm}{x c:Nn}{a b d f:Nat}{r g:Option Jb}{pend:List Lk}(M:Mgd fs x c a b r (pend++[(d,f,g)]))(e:c.lead d=c.lead f):Mgd fs x c a b r pend:=by
 obtain⟨aS,bS,_⟩:=M.inv.pnd d f g (by simp);rw[M.S]at aS bS;refine⟨M.inv.drop e,M.S,M.V3,M.eq.map (λp i q j e=>.lead i j e) (λp q l m=>?_),M.mono,λE X h=>⟨(M.snd E X h).1,λu v s m=>(M.snd E X h).2 u v s (List.mem_append_left _ m)⟩,M.rsn,λy k=>M.pnd y (List.mem_append_left _ k),M.less,M.more⟩;rcases List.mem_append.mp m with m|m
 ·exact .wait m
 ·simp at m;obtain⟨rfl,rfl,rfl⟩:=m;exact .lead aS bS e
theorem Mgd.join{fs:List Fm}{x c:Nn}{a b d f:Nat}{r j:Option Jb}{pend:List Lk}(M:Mgd fs x c a b r (pend++[(d,f,j)]))(k:c.lead d≠c.lead f){lo hi:Nat}{cl:List Nat}(i:(lo=d/\hi=f)\/(lo=f/\hi=d))(hc:Ch c.up lo cl):
  Mgd fs x (Yj (Ye fs) (Zk fs) c d f j lo hi cl).1 a b r (pend++(Yj (Ye fs) (Zk fs) c d f j lo hi cl).2):=by
 obtain⟨aS,bS,_⟩:=M.inv.pnd d f j (by simp);obtain⟨J,L⟩:=M.inv.join k i hc;obtain⟨l1,l2,z,A⟩:=M.inv.less k i hc;have t:∀p∈c.S,∀q∈c.S,c.lead p=c.lead q->(Yj (Ye fs) (Zk fs) c d f j lo hi cl).1.lead p=(Yj (Ye fs) (Zk fs) c d f j lo hi cl).1.lead q:=λp l q n e=>by rw[L p l,L q n,e]
 have o:(Yj (Ye fs) (Zk fs) c d f j lo hi cl).1.lead d=(Yj (Ye fs) (Zk fs) c d f j lo hi cl).1.lead f:=by
  rw[L d aS,L f bS];rcases i with⟨rfl,rfl⟩|⟨rfl,rfl⟩
  ·rw[Gn rfl];split<;>rfl
  ·rw[Gn rfl];split<;>rfl
 refine⟨J,M.S,l2.trans M.V3,M.eq.map (λp l q n e=>.lead l n (t p (M.S▸l) q (M.S▸n) e)) (λp q w m=>?_),λp l q n e=>t p (M.S▸l) q (M.S▸n) (M.mono p l q n e),λE X h=>Snd.join (M.snd E X h) (by rw[M.S];exact X) M.inv k i hc,λy g=>?_,λy g=>?_,?_,?_⟩
 ·rcases List.mem_append.mp m with m|m
  ·exact .wait (List.mem_append_left _ m)
  ·simp at m;obtain⟨rfl,rfl,rfl⟩:=m;exact .lead (M.S▸aS) (M.S▸bS) o
 ·have g:y∈c.links++[(d,f,j)]:=g;rcases List.mem_append.mp g with g|g
  ·exact M.rsn y g
  ·rw[List.mem_singleton]at g;subst g;exact .inr (M.pnd _ (by simp))
 ·rcases List.mem_append.mp g with g|g
  ·exact M.pnd y (List.mem_append_left _ g)
  ·obtain⟨u,v,s⟩:=y;exact .inr (Qkv g)
 ·have:=M.less;lia
 ·have:=M.more;lia
section
variable{P:Gg}{w:Gs}{K:Gd}{mg:Ta->Option Value}{base:Heap}
theorem Qoe:Qx ["self","one","other","reason","waiting","link"] ["self","one","other","reason"] (Ql Qmb):=by eq_refl
theorem Jm{α β:Type}{F:α->β->Prop}:∀{xs:List α}{ys:List β},Paired F xs ys->xs≠[]->∃x y,xs[xs.length - 1]?=Ga x/\ys=ys.dropLast++[y]/\F x y/\Paired F xs.dropLast ys.dropLast
 |_,_,.nil,h=>absurd rfl h
 |_,_,.cons h .nil,_=>⟨_,_,Xb,Xb,h,.nil⟩
 |_,_,.cons h (.cons k t),_=>by
  obtain⟨x,y,a,b,c,d⟩:=Jm (.cons k t) (by simp);refine⟨x,y,?_,?_,c,?_⟩
  ·simpa using a
  ·simp only[List.dropLast_cons_cons,List.cons_append];rw[<-b]
  ·simp only[List.dropLast_cons_cons];exact .cons h d
theorem Qu2{f fE fM:Gc}{ab ac:Ts}(F:Wd K "merge" "Net.merge" Qmb f fd)(T:Uc K mg C)(mE:Z9 K C "equal" fE)(GE:Qs P w K mg base Z4 1 fE ab ["self","one","other"] (Qcc P w C))(bE:Binds K ab ["self","one","other"] [])
  (mM:Z9 K C "merge_link" fM)(GM:Qs P w K mg base Z4 3 fM ac ["self","link"] (Qbk P w C))(bM:Binds K ac ["self","link"] []):
  Qs P w K mg base Z4 4 f fd ["self","one","other","reason"] (Qhh P w C):=by
 refine F.ok Qoe (λvs H Q E h=>?_) (λcdv A outer s H vs Q E hr h=>?_)
 ·obtain⟨n,A,fs,tb,x,a,b,rv,r,rfl,_⟩:=h;rfl
 obtain⟨n,A,fs,tb,x,a,b,rv,r,rfl,X,fok,ap,ao,aS,bS,I,hS,hT,ax,aA,q⟩:=h;have am:Yb 1 _:=hr.mono (by lia);have an:Yb 3 _:=hr.mono (by lia);have nd:=Qoe.nd;refine⟨_,Qd (Qt 4 nd (Zt (Qa (Zb (Qa (pv 1) (Qa (pv 2) (Qa (pv 3) Qe)))) Qe)))
  (Qh (Vm Gy (Qkn (pv 4) (λ_=>rfl))
   (Qd (Qt 5 nd (Qd8 Gu DV DW Qdy (pv 4)))
   (Qh (Zn (Ri (Xy (Q9 (pv 0) T.cl mE GE am bE .nil Q6 (Qa (Qo Q5 (pv 5) Qk) (Qa (Qo Q5 (pv 5) Qk) Qe)))))
    (Qh (Ze (Xw Gu EB EC Qa3 (pv 4) (Qa (Q9 (pv 0) T.cl mM GM an bM .nil Q6 (Qa (pv 5) Qe)) Qe)))) Q7))))),?_⟩
 obtain⟨dx,o1⟩:=X.ob;refine⟨_,Xb,_,Xb,_,Xb,by show 3<=Gj;decide,λc hc=>?_⟩;have s1:=Qg hc (.tup [jv a,jv b,rv]);refine⟨by show 1<=Gj;decide,λi af=>?_⟩;have s2:=Qg af (.lst [.ref c]);have L:=s1.trans s2;have D:H i=Gh:=s1.free af;have wO:¬Own A x.S i:=X.Q0t D;have wf:i≠A.f:=λz=>by obtain⟨g,f1,_⟩:=X.fo;rw[z,f1]at D;cases D
 have wn:i≠n:=λz=>by rw[z,o1]at D;cases D
 dsimp only[Vt];let aq:Nat->St->Hp->Prop:=λm σ H2=>XE4 λ(x5:Option V)(g:List V)(d:Nn)(pend:List Lk)=>PA8 (m=cls d*(V3 x+1)+pend.length) (σ=[Ga (.ref n),Ga (jv a),Ga (jv b),Ga rv,Ga (.ref i),x5]) (H2 i=Ga (.lst g)) (Paired (Iz H2) g pend) (Z6 P w C H2 n A fs (tb+(d.links.length - x.links.length)*V3 x) d) (Mgd fs x d a b r pend) (Rn A x.S H H2) (pend.length<=1+(cls x - cls d)*V3 x)
 refine Qcv aq
  ⟨_,Gh,[.ref c],x,[(a,b,r)],Xb,Xb,Qb,.cons ⟨c,rv,Xb,s2 _ _ Qb,ap.Qm (Qu.of L)⟩ .nil,(X.same L).mono (by lia),Mgd.start I ao aS bS,Rn.of L,by simp⟩ ?_ (λσ H Q Q' hQ=>λh=>by obtain⟨v,e1,k,e2,e3⟩:=h;exact⟨v,e1,k,e2,hQ _ _ e3⟩)
 rintro m σ H2 ⟨x5,g,d,pend,rfl,rfl,w2,p2,Y,M,F2,pl⟩;refine⟨_,Xb,_,.inl ⟨g,Zd.of w2,Xb⟩,?_⟩;have av:=Gr p2;have aw:=Qu7 x;cases hw:g with
 |nil=>refine Zp ?_;subst hw;cases p2;exact q d H2 Y M F2
 |cons z zs=>
  refine Yv ?_;have al:g≠[]:=by rw[hw];simp
  obtain⟨v,⟨u,y,J⟩,e1,e2,e3,e4⟩:=Jm p2 al;have t:pend.length=pend.dropLast.length+1:=by rw[e2];simp
  obtain⟨c5,ar,rfl,ad,aj⟩:=e3;refine⟨_,Xb,.inl ⟨Xb,_,Zd.of w2⟩,i,g,_,Xb,Xb,w2,e1,?_⟩;have B:Qu H2 (zj H2 i (.lst g.dropLast)):=Zs λxs e=>by rw[w2]at e;cases e
  have O:=M.S;have R:Z6 P w C (zj H2 i (.lst g.dropLast)) n A fs (tb+(d.links.length - x.links.length)*V3 x) d:=Y.keep (λj o e hb=>by
   rw[Qf λz=>?_]
   ·exact e
   ·subst z;rcases hb with hb|hb|hb
    ·rw[O]at hb;exact wO hb
    ·exact wf hb
    ·exact wn hb) B
  have F3:Rn A x.S H (zj H2 i (.lst g.dropLast)):=⟨λj o e hb=>by rw[Qf (Qc e D)];exact F2.keep j o e hb,λj hb=>by
   by_cases e:j=i
   ·subst e;exact D
   ·rw[Qf e]at hb;exact F2.there j hb⟩
  have w3:(zj H2 i (.lst g.dropLast)) i=Ga (.lst g.dropLast):=Qb;have p3:Paired (Iz (zj H2 i (.lst g.dropLast))) g.dropLast pend.dropLast:=L2.Paired.Ya e4 λ_ _ h=>h.Qm B;have l3:Iz (zj H2 i (.lst g.dropLast)) (.ref c5) (u,y,J):=Iz.Qm B ⟨c5,ar,Xb,ad,aj⟩;have G:=B _ _ ad;generalize zj H2 i (.lst g.dropLast)=H3 at R F3 w3 p3 l3 G;rw[e2]at M;generalize pend.dropLast=pd at M p3 t;obtain⟨ah,ai,_⟩:=M.inv.pnd u y J (by simp);obtain⟨aa,o3⟩:=R.ob;refine⟨_,Xb,n,aa,_,Xb,o3,Qcq _,_,Xb,c5,_,_,_,Xb,Xb,Z2.of G,Rk _ _,_,Xb,c5,_,_,_,Xb,Xb,Z2.of G,I0 _ _ _,n,A,fs,_,d,u,y,Xb,R,ah,ai,_,Xb,?_⟩;by_cases p:d.lead u=d.lead y
  ·rw[GX p];refine Zp ⟨_,?_,_,g.dropLast,d,pd,Xb,Xb,w3,p3,R,M.drop p,F3,by lia⟩;lia
  ·rw[Gz p];refine Yv ?_;have ak:d.links.length - x.links.length<=cls x:=by have:=M.less;lia
   have au:(d.links.length - x.links.length)*V3 x<=cls x*V3 x:=D4 _ ak;have U:=M.V3;have aC:g.dropLast.length=pd.length:=Gr p3;have ay:pd.length+V3 x<=1000000:=by have:(cls x - cls d)*V3 x<=cls x*V3 x:=D4 _ (Nat.sub_le _ _);lia
   refine⟨_,Xb,.inl ⟨Xb,_,Zd.of w3⟩,_,Xb,n,aa,_,Xb,o3,Qhr _,_,Xb,n,A,fs,_,d,c5,u,y,J,pd,Xb,R,by rw[O];exact fok,l3,M.inv,p,by rw[O];exact hS,by rw[U];exact hT,by have:=M.less;lia,by rw[U];lia,λlo hi cl l es Z ae hc Y4 W hl r4 p4=>?_⟩;rw[O]at W;have w4:Z i=Ga (.lst g.dropLast):=W.keep _ _ w3 wO;have az:l≠i:=λz=>by rw[z,w3]at hl;cases hl
   obtain⟨j1,j2,j3,j4⟩:=M.inv.less p ae hc;have aB:es.length<=V3 x:=by rw[Gr p4,<-U];exact j3
   refine⟨i,l,g.dropLast,es,Xb,Xb,w4,r4,small (by lia),?_⟩;have ag:Qu H3 Z:=λj xs e=>W.keep j _ e (by rw[<-O];exact R.Ql5 e);have N:Qu Z (zj Z i (.lst (g.dropLast++es))):=Zs λxs e=>by rw[w4]at e;cases e
   have Y5:Z6 P w C (zj Z i (.lst (g.dropLast++es))) n A fs _ _:=Y4.keep (λj o e hb=>by
    rw[Qf λz=>?_]
    ·exact e
    ·subst z;rcases hb with hb|hb|hb
     ·have hb:Own A d.S j:=hb;rw[O]at hb;exact wO hb
     ·exact wf hb
     ·exact wn hb) N
   have M5:=M.join p ae hc;refine⟨cls (Yj (Ye fs) (Zk fs) d u y J lo hi cl).1*(V3 x+1)+(pd++(Yj (Ye fs) (Zk fs) d u y J lo hi cl).2).length,?_,_,_,_,_,Xb,Xb,Qb,Ys (L2.Paired.Ya p3 λ_ _ h=>(h.Qm ag).Qm N) (L2.Paired.Ya p4 λ_ _ h=>h.Qm N),Y5.mono ?_,M5,⟨λj o e hb=>?_,λj hb=>?_⟩,?_⟩
   ·rw[List.length_append,t];have hj:cls (Yj (Ye fs) (Zk fs) d u y J lo hi cl).1+1<=cls d:=j1;have:=D4 (V3 x+1) hj;rw[Eh,FC]at this;rw[U]at j3;lia
   ·rw[U,j4];have:=M.more;rw[show d.links.length+1 - x.links.length=(d.links.length - x.links.length)+1 by lia,Eh,FC];lia
   ·rw[Qf (Qc e D)];exact W.keep j o (F3.keep j o e hb) hb
   ·by_cases e:j=i
    ·subst e;exact D
    ·rw[Qf e]at hb;exact F3.there j (W.there j hb)
   ·rw[List.length_append];have h1:cls x - cls d+1<=cls x - cls (Yj (Ye fs) (Zk fs) d u y J lo hi cl).1:=by have:=M.less;have:=M.more;lia
    have:=D4 (V3 x) h1;rw[Eh,FC]at this;rw[U]at j3;lia
end
inductive Qei(P:Gg)(w:Gs)(C:Gc)(vs:List V)(H:Hp)(Q:VK):Prop
 |mk (n:Gc) (dx:Gc) (f:Gc) (ws:List V) (fs:List Fm) (h0:vs=[.ref n,.ref f]) (h1:H n=Ga (.ins C dx [])) (h2:H f=Ga (.lst ws)) (h3:Paired (Ra H) ws fs) (h4:∀(A:Na)(H':Hp),A.f=f->Z6 P w C H' n A fs 0 (fresh (Ye fs) (Zk fs) [])->(∀b o,H b=Ga o->b≠n->H' b=Ga o)->(∀b,Own A [] b->H b=Gh)->Q .non H'):Qei P w C vs H Q
def Qfn(P:Gg)(w:Gs)(C:Gc):Sp:=λvs H Q _=>Qei P w C vs H Q
section
variable{P:Gg}{w:Gs}{K:Gd}{mg:Ta->Option Value}{base:Heap}
theorem Qp9:Qx ["self","forms"] ["self","forms"] (Ql X9):=by eq_refl
theorem Qlv{f0:Gc}(F:Wd K "__init__" "Net.__init__" X9 f0 fd)(T:Uc K mg C):Qs P w K mg base Z4 1 f0 fd ["self","forms"] (Qfn P w C):=by
 refine F.ok Qp9 (λvs H Q E h=>?_) (λcdv A outer s H vs Q E hr h=>?_)
 ·obtain⟨n,dx,f,ws,fs,rfl,_⟩:=h;rfl
 obtain⟨n,dx,f,ws,fs,rfl,hn,hf,aj,q⟩:=h;show∃t,Z7 ?mysNetInit _ t/\_;let w8:Subtype (Z7 ?mysNetInit ((Qj X9).drop 7)):=⟨_,Qh (Yw (pv 0) U7 Xb)⟩
 let w7:Subtype (Z7 ?mysNetInit ((Qj X9).drop 6)):=⟨_,Qd (Yw (pv 0) Of Xb) w8.2⟩
 let w6:Subtype (Z7 ?mysNetInit ((Qj X9).drop 5)):=⟨_,Qd (Yw (pv 0) (Zt Qe) rfl) w7.2⟩
 let w5:Subtype (Z7 ?mysNetInit ((Qj X9).drop 4)):=⟨_,Qd (Yw (tv:=Qmv P w) (pv 0) Oc Xb) w6.2⟩
 let w4:Subtype (Z7 ?mysNetInit ((Qj X9).drop 3)):=⟨_,Qd (Yw (pv 0) U7 Xb) w5.2⟩
 let w3:Subtype (Z7 ?mysNetInit ((Qj X9).drop 2)):=⟨_,Qd (Yw (pv 0) U7 Xb) w4.2⟩
 let w2:Subtype (Z7 ?mysNetInit ((Qj X9).drop 1)):=⟨_,Qd (Yw (pv 0) U7 Xb) w3.2⟩
 refine⟨_,Qd (Yw (pv 0) (pv 1) rfl) w2.2,?_⟩;have st:∀{H0:Hp}{b a:Gc}{o oa:HO}{fs':List (Ta×V)},H0 b=Ga o->b≠n->H0 a=Gh->(zj (zj H0 a oa) n (.ins C dx fs')) b=Ga o:=λe hb ha=>by rw[Qf hb,Qf (Qc e ha)];exact e
 have sn:∀{H0:Hp}{a:Gc}{oa:HO}{fs':List (Ta×V)}{o:HO},H0 n=Ga o->H0 a=Gh->(zj (zj H0 a oa) n (.ins C dx fs')) a=Ga oa:=λe ha=>by rw[Qf (Gp (Qc e ha)),Qb]
 refine⟨_,Xb,_,Xb,n,C,dx,[],Xb,hn,T.cl,T.Qcl,by show 0<1000;decide,?_⟩;have fn:f≠n:=Yd hf hn nofun;have g0:∀b o,H b=Ga o->b≠n->(zj H n (.ins C dx (Yi "forms" (.ref f) []))) b=Ga o:=λb o e hb=>by rw[Qf hb];exact e
 have n0:(zj H n (.ins C dx (Yi "forms" (.ref f) []))) n=Ga (.ins C dx (Yi "forms" (.ref f) [])):=Qb;have t0:∀b,(zj H n (.ins C dx (Yi "forms" (.ref f) []))) b=Gh->H b=Gh:=λb hb=>by
  by_cases e:b=n
  ·subst e;rw[Qb]at hb;cases hb
  ·rw[Qf e]at hb;exact hb
 generalize zj H n (.ins C dx (Yi "forms" (.ref f) []))=H0 at g0 n0 t0;have tt:∀{H0:Hp}{a:Gc}{oa:HO}{fs':List (Ta×V)},(∀b,H0 b=Gh->H b=Gh)->∀b,(zj (zj H0 a oa) n (.ins C dx fs')) b=Gh->H b=Gh:=λh b hb=>by
  refine h b ?_;by_cases e:b=n
  ·subst e;rw[Qb]at hb;cases hb
  ·rw[Qf e]at hb
   rename_i H0 a oa fs'
   by_cases e2:b=a
   ·subst e2;rw[Qb]at hb;cases hb
   ·rw[Qf e2]at hb;exact hb
 intro c L;refine⟨_,Xb,n,C,dx,_,Xb,(by rw[Qf (Qc n0 L)];exact n0),T.cl,T.Wz,by show 1<1000;decide,?_⟩;have l1:=@sn H0 c (.dK []) (Yi "leads" (.ref c) (Yi "forms" (.ref f) [])) _ n0 L;have n1:=@Qb (zj H0 c (.dK [])) n (.ins C dx (Yi "leads" (.ref c) (Yi "forms" (.ref f) [])));have g1:∀b o,H b=Ga o->b≠n->_:=λb o e hb=>@st H0 b c o (.dK []) (Yi "leads" (.ref c) (Yi "forms" (.ref f) [])) (g0 b o e hb) hb L;have t1:=@tt H0 c (.dK []) (Yi "leads" (.ref c) (Yi "forms" (.ref f) [])) t0;have ln:c≠n:=Gp (Qc n0 L);have af:=t0 _ L;generalize zj (zj H0 c (.dK [])) n (.ins C dx (Yi "leads" (.ref c) (Yi "forms" (.ref f) [])))=H1 at l1 n1 g1 t1⊢;intro g D;refine⟨_,Xb,n,C,dx,_,Xb,(by rw[Qf (Qc n1 D)];exact n1),T.cl,T.members,by show 2<1000;decide,?_⟩;generalize G:Yi "members" (.ref g) (Yi "leads" (.ref c) (Yi "forms" (.ref f) []))=Y;have m2:=@sn H1 g (.dK []) Y _ n1 D;have n2:=@Qb (zj H1 g (.dK [])) n (.ins C dx Y);have g2:∀b o,H b=Ga o->b≠n->_:=λb o e hb=>@st H1 b g o (.dK []) Y (g1 b o e hb) hb D;have t2:=@tt H1 g (.dK []) Y t1;have mn:g≠n:=Gp (Qc n1 D);have ag:=t1 _ D;have l2:=@st H1 c g _ (.dK []) Y l1 ln D;have lm:c≠g:=Qc l1 D;generalize zj (zj H1 g (.dK [])) n (.ins C dx Y)=H2 at m2 n2 g2 t2 l2⊢;intro l r;refine⟨_,Xb,n,C,dx,_,Xb,(by rw[Qf (Qc n2 r)];exact n2),T.cl,T.Qga,by rw[<-G];show 3<1000;decide,?_⟩;generalize J:Yi "users" (.ref l) Y=W;have u3:=@sn H2 l (.dK []) W _ n2 r;have n3:=@Qb (zj H2 l (.dK [])) n (.ins C dx W);have g3:∀b o,H b=Ga o->b≠n->_:=λb o e hb=>@st H2 b l o (.dK []) W (g2 b o e hb) hb r;have t3:=@tt H2 l (.dK []) W t2;have un:l≠n:=Gp (Qc n2 r);have ah:=t2 _ r;have l3:=@st H2 c l _ (.dK []) W l2 ln r;have m3:=@st H2 g l _ (.dK []) W m2 mn r;have lu:c≠l:=Qc l2 r;have mu:g≠l:=Qc m2 r;generalize zj (zj H2 l (.dK [])) n (.ins C dx W)=X at u3 n3 g3 t3 l3 m3⊢;intro at_ x;refine⟨_,Xb,n,C,dx,_,Xb,(by rw[Qf (Qc n3 x)];exact n3),T.cl,T.table,by rw[<-J,<-G];show 4<1000;decide,Gw _,?_⟩;generalize U:Yi "table" (.ref at_) W=O;have d4:=@sn X at_ (Ut P w at_ []) O _ n3 x;have n4:=@Qb (zj X at_ (Ut P w at_ [])) n (.ins C dx O);have g4:∀b o,H b=Ga o->b≠n->_:=λb o e hb=>@st X b at_ o (Ut P w at_ []) O (g3 b o e hb) hb x;have t4:=@tt X at_ (Ut P w at_ []) O t3;have dn:at_≠n:=Gp (Qc n3 x);have ac:=t3 _ x;have l4:=@st X c at_ _ (Ut P w at_ []) O l3 ln x;have m4:=@st X g at_ _ (Ut P w at_ []) O m3 mn x;have u4:=@st X l at_ _ (Ut P w at_ []) O u3 un x;generalize zj (zj X at_ (Ut P w at_ [])) n (.ins C dx O)=R at d4 n4 g4 t4 l4 m4 u4⊢;intro u m;refine⟨_,Xb,n,C,dx,_,Xb,(by rw[Qf (Qc n4 m)];exact n4),T.cl,T.links,by rw[<-U,<-J,<-G];show 5<1000;decide,?_⟩;generalize ab:Yi "links" (.ref u) O=M;have k5:=@sn R u (.lst []) M _ n4 m;have n5:=@Qb (zj R u (.lst [])) n (.ins C dx M);have g5:∀b o,H b=Ga o->b≠n->_:=λb o e hb=>@st R b u o (.lst []) M (g4 b o e hb) hb m;have t5:=@tt R u (.lst []) M t4;have kn:u≠n:=Gp (Qc n4 m);have Z:=t4 _ m;have l5:=@st R c u _ (.lst []) M l4 ln m;have m5:=@st R g u _ (.lst []) M m4 mn m;have u5:=@st R l u _ (.lst []) M u4 un m;have d5:=@st R at_ u _ (.lst []) M d4 dn m;generalize zj (zj R u (.lst [])) n (.ins C dx M)=N at k5 n5 g5 t5 l5 m5 u5 d5⊢;intro v d;refine⟨_,Xb,n,C,dx,_,Xb,(by rw[Qf (Qc n5 d)];exact n5),T.cl,T.Qb8,by rw[<-ab,<-U,<-J,<-G];show 6<1000;decide,?_⟩;generalize ad:Yi "link_at" (.ref v) M=I;have a6:=@sn N v (.dT []) I _ n5 d;have n6:=@Qb (zj N v (.dT [])) n (.ins C dx I);have g6:∀b o,H b=Ga o->b≠n->_:=λb o e hb=>@st N b v o (.dT []) I (g5 b o e hb) hb d;have t6:=@tt N v (.dT []) I t5;have an:v≠n:=Gp (Qc n5 d);have ae:=t5 _ d;have l6:=@st N c v _ (.dT []) I l5 ln d;have m6:=@st N g v _ (.dT []) I m5 mn d;have u6:=@st N l v _ (.dT []) I u5 un d;have d6:=@st N at_ v _ (.dT []) I d5 dn d;have k6:=@st N u v _ (.dT []) I k5 kn d;generalize zj (zj N v (.dT [])) n (.ins C dx I)=H6 at a6 n6 g6 t6 l6 m6 u6 d6 k6⊢;intro S y;refine⟨_,Xb,n,C,dx,_,Xb,(by rw[Qf (Qc n6 y)];exact n6),T.cl,T.above,by rw[<-ad,<-ab,<-U,<-J,<-G];show 7<1000;decide,?_⟩;have ai:Yi "above" (.ref S) I=Y9 ⟨f,c,g,l,at_,u,v,S,λ_=>0,λ_=>0⟩:=by rw[<-ad,<-ab,<-U,<-J,<-G];rfl
 rw[ai];have v7:=@sn H6 S (.dK []) (Y9 ⟨f,c,g,l,at_,u,v,S,λ_=>0,λ_=>0⟩) _ n6 y;have g7:∀b o,H b=Ga o->b≠n->_:=λb o e hb=>@st H6 b S o (.dK []) (Y9 ⟨f,c,g,l,at_,u,v,S,λ_=>0,λ_=>0⟩) (g6 b o e hb) hb y;have s7:∀{b o},H6 b=Ga o->b≠n->_:=λ{b o}e hb=>@st H6 b S o (.dK []) (Y9 ⟨f,c,g,l,at_,u,v,S,λ_=>0,λ_=>0⟩) e hb y;refine q ⟨f,c,g,l,at_,u,v,S,λ_=>0,λ_=>0⟩ _ rfl ⟨⟨dx,Qb⟩,⟨ws,g7 _ _ hf fn,L2.Paired.Ya aj λ_ _ h=>h.Qm λb xs e=>g7 b _ e (Yd e hn nofun)⟩,s7 l6 ln,s7 m6 mn,s7 u6 un,⟨[],⟨s7 d6 dn,(λp B=>nomatch B)⟩,Gm _,λk=>rfl⟩,⟨[],s7 k6 kn,.nil⟩,⟨[],s7 a6 an,Gm _,λi j=>rfl⟩,v7,(λp B=>nomatch B),(λp B=>nomatch B),
  ⟨lm,lu,Qc l6 y,mu,Qc m6 y,Qc u6 y,λz=>?_,(λp B=>nomatch B),(λp B=>nomatch B),(λp B=>nomatch B),(λp B=>nomatch B),(λp B=>nomatch B)⟩⟩ g7 (λb hb=>?_)
 ·have z:u=f:=z;rw[z,hf]at Z;cases Z
 ·rcases hb with rfl|rfl|rfl|rfl|rfl|rfl|rfl|⟨p,B,_⟩
  ·exact af
  ·exact ag
  ·exact ah
  ·exact ac
  ·exact Z
  ·exact ae
  ·exact t6 _ y
  ·exact nomatch B
end
end K05
namespace Nt
theorem Qe3{pt:Nat->List Nat}{M:Nat}(h:∀p,(pt p).length<=M):∀(S:List Nat)(q:Nat),(Yz pt S q).length<=S.length*M
 |[],q=>by simp[Yz]
 |p::S,q=>by have a:=Qe3 h S q;have h1:((pt p).count q)<=(pt p).length:=List.count_le_length;have h2:=h p;unfold Yz at a⊢;rw[List.flatMap_cons,List.length_append,List.length_replicate,List.length_cons,Eh];lia
theorem Qlg{pt:Nat->List Nat}{S:List Nat}{p:Nat}(h:∀q∈S,p∉pt q):Yz pt S p=[]:=by unfold Yz;rw[List.flatMap_eq_nil_iff];intro q a;have:(pt q).count p=0:=List.count_eq_zero.mpr (h q a);rw[this];rfl
theorem Qbw{l:List Nat}{i u q:Nat}(h:l[i]?=Ga u):(l.take (i+1)).count q=(l.take i).count q+if u=q then 1 else 0:=by
 rw[List.take_add_one,h,List.count_append];congr 1;simp only[Option.toList];rw[List.count_singleton];by_cases e:u=q
 ·rw[Gn e];simp[e]
 ·rw[Gi e];simp[e]
end Nt
namespace K05
open PySem L2 Sb Nt
variable{A:Na}{S:List Nat}{H:Hp}{C:Gc}
structure Q1d(fs:List Fm)(rk:Nat->Nat):Prop where
 str:∀p,TU (Ye fs p)=Gf
 few:∀p,(Zk fs p).length<=100
 pts:∀p,p<fs.length->∀q∈Zk fs p,q<fs.length/\rk q<rk p
 inj:∀p q,p<fs.length->q<fs.length->Ye fs p=Ye fs q->Zk fs p=Zk fs q->p=q
 len:fs.length<=1000
structure Frs(P:Gg)(w:Gs)(C:Gc)(H:Hp)(n:Gc)(A:Na)(fs:List Fm)(S:List Nat):Prop where
 at_:Z6 P w C H n A fs S.length (fresh (Ye fs) (Zk fs) S)
 nd:S.Nodup
 cl:∀p∈S,∀q∈Zk fs p,q∈S
 lt:∀p∈S,p<fs.length
structure FrT(A:Na)(S:List Nat)(A':Na)(S':List Nat)(H H':Hp):Prop where
 keep:∀b o,H b=Ga o->¬Own A S b->H' b=Ga o
 own:∀b,Own A' S' b->Own A S b\/H b=Gh
 there:∀b,H' b=Gh->H b=Gh
theorem FrT.refl:FrT A S A S H H:=⟨λ_ _ e _=>e,λ_ h=>.inl h,λ_ h=>h⟩
theorem FrT.trans{a c:Na}{S1 S2:List Nat}{H1 H2:Hp}(x:FrT A S a S1 H H1)(y:FrT a S1 c S2 H1 H2):FrT A S c S2 H H2:=by
 refine⟨λb o e h=>y.keep b o (x.keep b o e h) λz=>?_,λb h=>?_,λb h=>x.there b (y.there b h)⟩
 ·rcases x.own b z with z|z
  ·exact h z
  ·rw[e]at z;cases z
 ·rcases y.own b h with h|h
  ·exact x.own b h
  ·exact .inr (x.there b h)
def na(A:Na)(ml ul:Nat->Gc):Na:={A with ml:=ml,ul:=ul}
inductive Qnv(P:Gg)(w:Gs)(C:Gc)(k:Nat)(vs:List V)(H:Hp)(Q:VK):Prop
 |mk (n:Gc) (A:Na) (fs:List Fm) (rk:Nat->Nat) (S:List Nat) (p:Nat) (h0:vs=[.ref n,jv p]) (h1:Frs P w C H n A fs S) (h2:Q1d fs rk) (h3:p<fs.length) (h4:rk p<k) (h5:∀(S':List Nat)(ml ul:Nat->Gc)(H':Hp),Frs P w C H' n (na A ml ul) fs S'->(∀q∈S,q∈S')->p∈S'->(∀q∈S',q∈S\/rk q<=rk p)->FrT A S (na A ml ul) S' H H'->Q .non H'):Qnv P w C k vs H Q
def Qah(P:Gg)(w:Gs)(C:Gc)(k:Nat):Sp:=λvs H Q _=>Qnv P w C k vs H Q
section
variable{P:Gg}{w:Gs}{K:Gd}{mg:Ta->Option Value}{base:Heap}
theorem Qiy:Qx ["self","place","part"] ["self","place"] (Ql Ws):=by eq_refl
theorem Qxw{P:Gg}{w:Gs}{n:Gc}{fs:List Fm}{p:Nat}{m0 u0:Gc}(X:Z6 P w C H n A fs S.length (fresh (Ye fs) (Zk fs) S))(W:p∉S)(V:H m0=Gh)(Y:H u0=Gh)(j:m0≠u0)(t:Yz (Zk fs) S p=[]):
  Z6 P w C (zj (zj (zj (zj (zj (zj H A.l (.dK (dS (S++[p]) λq=>jv q))) m0 (.lst [jv p])) A.m (.dK (dS (S++[p]) λq=>.ref (if q=p then m0 else A.ml q)))) u0 (.lst [])) A.u (.dK (dS (S++[p]) λq=>.ref (if q=p then u0 else A.ul q)))) A.v (.dK (dS (S++[p]) λ_=>.non)))
   n (na A (λq=>if q=p then m0 else A.ml q) (λq=>if q=p then u0 else A.ul q)) fs S.length {fresh (Ye fs) (Zk fs) (S++[p])with Xh:=Yz (Zk fs) S,tab:=Qbe (Ye fs) (Zk fs) S}:=by
 obtain⟨dx,o1⟩:=X.ob;obtain⟨ws,x,R⟩:=X.fo;obtain⟨zw,D,O,Q⟩:=X.ta;obtain⟨ls,l1,l2⟩:=X.li;obtain⟨Z,M,N⟩:=X.at_;have g:∀{b o},H b=Ga o->b≠m0:=λe=>Qc e V;have nu:∀{b o},H b=Ga o->b≠u0:=λe=>Qc e Y;have u:∀{b o},H b=Ga o->b≠A.l->b≠A.m->b≠A.u->b≠A.v->(zj (zj (zj (zj (zj (zj H A.l (.dK (dS (S++[p]) λq=>jv q))) m0 (.lst [jv p])) A.m (.dK (dS (S++[p]) λq=>.ref (if q=p then m0 else A.ml q)))) u0 (.lst [])) A.u (.dK (dS (S++[p]) λq=>.ref (if q=p then u0 else A.ul q)))) A.v (.dK (dS (S++[p]) λ_=>.non))) b=Ga o:=λe h1 h2 T U=>by rw[Qf U,Qf T,Qf (nu e),Qf h2,Qf (g e),Qf h1];exact e
 have no:∀{b o},H b=Ga o->(∀zw,o≠.dK zw)->b≠A.l/\b≠A.m/\b≠A.u/\b≠A.v:=λe h=>⟨Yd e X.le (h _),Yd e X.me (h _),Yd e X.us (h _),Yd e X.ab (h _)⟩;have i:∀{b o},H b=Ga o->(∀zw,o≠.dK zw)->_:=λ{b o}e h=>u e (no e h).1 (no e h).2.1 (no e h).2.2.1 (no e h).2.2.2;have G:Qu H _:=λb xs e=>i e (λ_ z=>nomatch z);have y:=g X.le;have E:=g X.me;have I:=g X.us;have K:=g X.ab;have B:=nu X.le;have F:=nu X.me;have J:=nu X.us;have L:=nu X.ab;have ne:∀q∈S,q≠p:=λq a z=>W (z▸a);refine⟨⟨dx,i o1 (λ_ z=>nomatch z)⟩,⟨ws,i x (λ_ z=>nomatch z),L2.Paired.Ya R λ_ _ h=>h.Qm G⟩,?_,?_,?_,⟨zw,⟨i D.at_ (λ_ z=>nomatch z),Zg G D.keys⟩,O,Q⟩,⟨ls,i l1 (λ_ z=>nomatch z),L2.Paired.Ya l2 λ_ _ h=>h.Qm G⟩,⟨Z,i M (λ_ z=>nomatch z),N⟩,Qb,λq a=>?_,λq a=>?_,⟨X.ap.lm,X.ap.lu,X.ap.lv,X.ap.mu,X.ap.mv,X.ap.uv,X.ap.kf,λq a r s=>?_,λq a r s=>?_,λq a r s=>?_,λq a=>?_,λq a=>?_⟩⟩
 ·show(zj _ A.v _) A.l=Ga (HO.dK (dS (S++[p]) λq=>jv q));rw[Qf X.ap.lv,Qf X.ap.lu,Qf B,Qf X.ap.lm,Qf y,Qb]
 ·show(zj _ A.v _) A.m=Ga (HO.dK (dS (S++[p]) λq=>.ref (if q=p then m0 else A.ml q)));rw[Qf X.ap.mv,Qf X.ap.mu,Qf F,Qb]
 ·show(zj _ A.v _) A.u=Ga (HO.dK (dS (S++[p]) λq=>.ref (if q=p then u0 else A.ul q)));rw[Qf X.ap.uv,Qb]
 ·show(zj _ A.v _) (if q=p then m0 else A.ml q)=Ga (.lst [jv q]);rcases List.mem_append.mp a with a|a
  ·rw[Gi (ne q a)];exact i (X.ml q a) (λ_ z=>nomatch z)
  ·have:q=p:=by simpa using a
   subst this;rw[Gn Xb,Qf (Gp K),Qf (Gp I),Qf j,Qf (Gp E),Qb]
 ·show(zj _ A.v _) (if q=p then u0 else A.ul q)=Ga (.lst ((Yz (Zk fs) S q).map jv));rcases List.mem_append.mp a with a|a
  ·rw[Gi (ne q a)];exact i (X.ul q a) (λ_ z=>nomatch z)
  ·have:q=p:=by simpa using a
   subst this;rw[Gn Xb,t,Qf (Gp L),Qf (Gp J),Qb];rfl
 ·show(if q=p then m0 else A.ml q)=(if r=p then m0 else A.ml r)->q=r;rcases List.mem_append.mp a with c|c<;>rcases List.mem_append.mp s with d|d
  ·rw[Gi (ne q c),Gi (ne r d)];exact X.ap.mm q c r d
  ·have:r=p:=by simpa using d
   subst this;rw[Gi (ne q c),Gn rfl];intro z;exact absurd z (g (X.ml q c))
  ·have:q=p:=by simpa using c
   subst this;rw[Gi (ne r d),Gn rfl];intro z;exact absurd z.symm (g (X.ml r d))
  ·intro _;have h1:q=p:=by simpa using c
   have h2:r=p:=by simpa using d
   rw[h1,h2]
 ·show(if q=p then u0 else A.ul q)=(if r=p then u0 else A.ul r)->q=r;rcases List.mem_append.mp a with c|c<;>rcases List.mem_append.mp s with d|d
  ·rw[Gi (ne q c),Gi (ne r d)];exact X.ap.uu q c r d
  ·have:r=p:=by simpa using d
   subst this;rw[Gi (ne q c),Gn rfl];intro z;exact absurd z (nu (X.ul q c))
  ·have:q=p:=by simpa using c
   subst this;rw[Gi (ne r d),Gn rfl];intro z;exact absurd z.symm (nu (X.ul r d))
  ·intro _;have h1:q=p:=by simpa using c
   have h2:r=p:=by simpa using d
   rw[h1,h2]
 ·show(if q=p then m0 else A.ml q)≠(if r=p then u0 else A.ul r);rcases List.mem_append.mp a with c|c<;>rcases List.mem_append.mp s with d|d
  ·rw[Gi (ne q c),Gi (ne r d)];exact X.ap.mul q c r d
  ·have:r=p:=by simpa using d
   subst this;rw[Gi (ne q c),Gn rfl];exact nu (X.ml q c)
  ·have:q=p:=by simpa using c
   subst this;rw[Gi (ne r d),Gn rfl];exact Gp (g (X.ul r d))
  ·have h1:q=p:=by simpa using c
   have h2:r=p:=by simpa using d
   rw[Gn h1,Gn h2];exact j
 ·show(if q=p then m0 else A.ml q)≠A.k/\(if q=p then m0 else A.ml q)≠A.f;rcases List.mem_append.mp a with a|a
  ·rw[Gi (ne q a)];exact X.ap.mkf q a
  ·have:q=p:=by simpa using a
   rw[Gn this];exact⟨Gp (g l1),Gp (g x)⟩
 ·show(if q=p then u0 else A.ul q)≠A.k/\(if q=p then u0 else A.ul q)≠A.f;rcases List.mem_append.mp a with a|a
  ·rw[Gi (ne q a)];exact X.ap.ukf q a
  ·have:q=p:=by simpa using a
   rw[Gn this];exact⟨Gp (nu l1),Gp (nu x)⟩
end
section
variable{P:Gg}{w:Gs}{K:Gd}{mg:Ta->Option Value}{base:Heap}
theorem Zy{b c:Gc}{o:HO}(h:zj H b o c=Gh):H c=Gh:=by
 by_cases e:c=b
 ·subst e;rw[Qb]at h;cases h
 ·rw[Qf e]at h;exact h
theorem Qi{b c:Gc}{o u:HO}(e:H c=Ga u)(h:c≠b):zj H b o c=Ga u:=by rw[Qf h];exact e
theorem Qwm{k:Nat}{f fK:Gc}{fd ag:Ts}(F:Wd K "take_in" "Net.take_in" Ws f fd)(T:Uc K mg C)(mT:Z9 K C "take_in" f)(bT:Binds K fd ["self","place"] [])(G:Qs P w K mg base Z4 (k+1) f fd ["self","place"] (Qah P w C k))
  (mK:Z9 K C "key_of" fK)(GK:Qs P w K mg base Z4 1 fK ag ["self","place"] (Qb7 P w C))(bK:Binds K ag ["self","place"] []):Qs P w K mg base Z4 (k+2) f fd ["self","place"] (Qah P w C (k+1)):=by
 refine F.ok Qiy (λvs H Q E h=>?_) (λcdv A outer s H vs Q E g h=>?_)
 ·obtain⟨n,A,fs,rk,S,p,rfl,_⟩:=h;rfl
 obtain⟨n,A,fs,rk,S,p,rfl,X,tk,hp,hk,q⟩:=h;have O:=U6 g;have aj:=g.units;have aB:Yb 1 _:=g.mono (by omega);have nd:=Qiy.nd;show∃t,Z7 ?mysTakeIn _ t/\_;let w8:Subtype (Z7 ?mysTakeIn ((Qj Ws).drop 7)):=⟨_,Qh (Qaw (pv 1) (Qcd (Qn (pv 0) rfl) (Q9 (pv 0) T.cl mK GK aB bK .nil Q6 (Qa (pv 1) Qe)) (Qd3 aj)))⟩
 let w7:Subtype (Z7 ?mysTakeIn ((Qj Ws).drop 6)):=⟨_,Qd (Yg Gy rfl (Uo (Qo Q5 (Qo Zh (Qn (pv 0) rfl) (pv 1)) Qk)) (Yc 2 nd)
   (Qh (Ze (Xw Gu GF GV Z0 (Zr O (Qn (pv 0) rfl) (pv 2) (λ_ _=>rfl)) (Qa (pv 1) Qe))))) w8.2⟩
 let w6:Subtype (Z7 ?mysTakeIn ((Qj Ws).drop 5)):=⟨_,Qd (Wo O (Qn (pv 0) rfl) (pv 1) Ur Xb) w7.2⟩
 let w5:Subtype (Z7 ?mysTakeIn ((Qj Ws).drop 4)):=⟨_,Qd (Wo O (Qn (pv 0) rfl) (pv 1) (Zt Qe) rfl) w6.2⟩
 let w4:Subtype (Z7 ?mysTakeIn ((Qj Ws).drop 3)):=⟨_,Qd (Wo O (Qn (pv 0) rfl) (pv 1) (Zt (Qa (pv 1) Qe)) rfl) w5.2⟩
 let w3:Subtype (Z7 ?mysTakeIn ((Qj Ws).drop 2)):=⟨_,Qd (Wo O (Qn (pv 0) rfl) (pv 1) (pv 1) rfl) w4.2⟩
 let w2:Subtype (Z7 ?mysTakeIn ((Qj Ws).drop 1)):=⟨_,Qd (Yg Gy rfl (Uo (Qo Q5 (Qo Zh (Qn (pv 0) rfl) (pv 1)) Qk)) (Yc 2 nd)
   (Qh (Ze (Q9 (pv 0) T.cl mT G g bT .nil Q6 (Qa (pv 2) Qe))))) w3.2⟩
 refine⟨_,Qd (Zn (R0 (Qmm O (pv 1) (Qn (pv 0) rfl))) (Qh Qw5) Q7) w2.2,?_⟩;obtain⟨dx,o1⟩:=X.at_.ob;have aS:S.length<=fs.length:=Xk (S:=List.range fs.length) X.nd (λr g=>List.mem_range.mpr (X.lt r g))|>λh=>by rw[List.length_range]at h;exact h
 have aW:=tk.len;have gl:Wx H A.l (jv p) (Y2 (dS S λr=>jv r) (ki p)):=Wx.k (k:=ki p) X.at_.le;refine⟨_,Xb,_,Xb,n,C,dx,_,_,Xb,o1,T.cl,T.Wz,Yo _,A.l,_,Xb,gl,_,Xb,?_⟩;rw[Qod];by_cases U:p∈S
 ·rw[GX U];refine Yv ?_;exact q S A.ml A.ul H X (λ_ h=>h) U (λr h=>.inl h) FrT.refl
 rw[Gz U];refine Zp ?_;subst_vars;obtain⟨ws,f1,f2⟩:=X.at_.fo;have hw:p<ws.length:=by rw[Gr f2];exact hp
 obtain⟨y,hy,c,e,ec,h1,h2⟩:=Qy f2 (List.getElem?_eq_getElem hw);and_intros;rw[Qgj hp]at hy;cases hy;have few:=tk.few p;let aJ:Nat->St->Hp->Prop:=λi σ H2=>XE4 λ(x2:Option V)(S2:List Nat)(ml ul:Nat->Gc)=>PA6 (σ=[Ga (.ref n),Ga (jv p),x2]) (Frs P w C H2 n (na A ml ul) fs S2) (∀r∈S,r∈S2) (∀r∈(Zk fs p).take i,r∈S2) (∀r∈S2,r∈S\/rk r<rk p) (FrT A S (na A ml ul) S2 H H2)
 refine⟨_,Xb,n,C,dx,_,_,Xb,o1,T.cl,T.Qcl,U5 _,_,Xb,A.f,ws,_,_,Xb,Xb,Zd.of f1,Qz (List.getElem?_eq_getElem hw),c,_,_,_,ec,Xb,Z2.of h1,I0 _ _ _,e,Xb,⟨_,Z2.of h2⟩,Qhg (K:=K) (a:=e) (xs:=(Zk fs p).map jv)
  aJ
  ⟨_,S,A.ml,A.ul,Xb,X,λ_ h=>h,by simp,λr h=>.inl h,FrT.refl⟩ (by rintro i σ H2 _ ⟨_,_,_,_,_,_,_,_,_,F2⟩;exact Z2.of (F2.keep _ _ h2 (X.at_.Ql5 h2))) ?_ ?_⟩
 ·rintro i y σ H2 hi ⟨x2,S2,ml,ul,rfl,d,sub,done,Z,F2⟩;rw[List.getElem?_map]at hi;cases eq:(Zk fs p)[i]? with
  |none=>rw[eq]at hi;cases hi
  |some r=>
   rw[eq]at hi;cases hi;obtain⟨rl,rr⟩:=tk.pts p hp r (List.mem_of_getElem? eq);obtain⟨j,o2⟩:=d.at_.ob;refine⟨_,Xb,n,j,_,Xb,o2,O8 _,_,Xb,n,na A ml ul,fs,rk,S2,r,Xb,d,tk,rl,by omega,λS3 aG aO H3 X3 aa r3 aL F3=>?_⟩;refine⟨_,S3,aG,aO,Xb,X3,λt N=>aa t (sub t N),λt N=>?_,λt N=>?_,F2.trans F3⟩
   ·rw[List.take_add_one,eq]at N;rcases List.mem_append.mp N with N|N
    ·exact aa t (done t N)
    ·have:t=r:=by simpa using N
     rw[this];exact r3
   ·rcases aL t N with h|h
    ·exact Z t h
    ·exact .inr (by omega)
 rintro σ H2 ⟨x2,S2,ml,ul,rfl,d,sub,done,Z,F2⟩;rw[List.length_map,List.take_length]at done;have x:p∉S2:=λz=>by
  rcases Z p z with h|h
  ·exact U h
  ·omega
 have aX:S2.length<=1000:=by have:=Xk (S:=List.range fs.length) d.nd (λr g=>List.mem_range.mpr (d.lt r g));rw[List.length_range]at this;omega
 have az:Yz (Zk fs) S2 p=[]:=Qlg λr g z=>x (d.cl r g p z);obtain⟨j,o2⟩:=d.at_.ob;have ay:(dS S2 λr=>jv r).length<Gj:=by rw[Va,GQ];omega
 have aD:H2 A.l=Ga (.dK (dS S2 λr=>jv r)):=d.at_.le;have aE:H2 A.m=Ga (.dK (dS S2 λr=>.ref (ml r))):=d.at_.me;have aP:H2 A.u=Ga (.dK (dS S2 λr=>.ref (ul r))):=d.at_.us;have ao:H2 A.v=Ga (.dK (dS S2 λ_=>.non)):=d.at_.ab;have k1:=I8.k (k:=ki p) (v:=jv p) aD ay;rw[Qaj x]at k1;have e1:(dS (S2++[p]) λr=>if r=p then jv p else jv r)=dS (S2++[p]) λr=>jv r:=Wt λr _=>by
  by_cases h:r=p
  ·rw[Gn h,h]
  ·rw[Gi h]
 rw[e1]at k1;refine⟨_,Xb,_,Xb,n,C,j,_,_,Xb,o2,T.cl,T.Wz,Yo _,_,Xb,A.l,_,Xb,k1,?_⟩;have nl:n≠A.l:=Yd o2 d.at_.le nofun;have o3:(zj H2 A.l (.dK (dS (S2++[p]) λr=>jv r))) n=Ga (.ins C j (Y9 A)):=by rw[Qf nl];exact o2
 refine⟨_,Xb,by show 1<=Gj;decide,λm0 D=>?_⟩;have s3:=Qg D (.lst [jv p]);have ae:H2 m0=Gh:=by
  by_cases h:m0=A.l
  ·subst h;rw[Qb]at D;cases D
  ·rw[Qf h]at D;exact D
 have aF:(zj H2 A.l (.dK (dS (S2++[p]) λr=>jv r))) A.m=Ga (.dK (dS S2 λr=>.ref (ml r))):=Qi aE (Gp d.at_.ap.lm);have k2:=I8.k (k:=ki p) (v:=.ref m0) (s3 _ _ aF) (by rw[Va,GQ];omega);rw[Qaj x]at k2;have e2:(dS (S2++[p]) λr=>if r=p then V.ref m0 else .ref (ml r))=dS (S2++[p]) λr=>.ref (if r=p then m0 else ml r):=Wt λr _=>by split<;>rfl
 rw[e2]at k2;refine⟨_,Xb,n,C,j,_,_,Xb,s3 _ _ o3,T.cl,T.members,Vb _,_,Xb,A.m,_,Xb,k2,?_⟩;have aH:n≠A.m:=Yd o2 d.at_.me nofun;generalize ad:zj (zj (zj H2 A.l (.dK (dS (S2++[p]) λr=>jv r))) m0 (.lst [jv p])) A.m (.dK (dS (S2++[p]) λr=>.ref (if r=p then m0 else ml r)))=Hc;have cA:∀{b o},H2 b=Ga o->b≠A.l->b≠A.m->Hc b=Ga o:=λe h1 h2=>by rw[<-ad,Qf h2,Qf (Qc e ae),Qf h1];exact e
 have cN:∀{b},Hc b=Gh->H2 b=Gh/\b≠m0:=λ{b}h=>by
  rw[<-ad]at h;by_cases h1:b=A.m
  ·subst h1;rw[Qb]at h;cases h
  ·rw[Qf h1]at h;by_cases h2:b=m0
   ·subst h2;rw[Qb]at h;cases h
   ·rw[Qf h2]at h;by_cases h3:b=A.l
    ·subst h3;rw[Qb]at h;cases h
    ·rw[Qf h3]at h;exact⟨h,h2⟩
 have o4:=cA o2 nl aH;refine⟨Gw _,λu0 ai=>?_⟩;obtain⟨am,aM⟩:=cN ai;have s5:=Qg ai (.lst []);have aN:=cA aP (Gp d.at_.ap.lu) (Gp d.at_.ap.mu);have k3:=I8.k (k:=ki p) (v:=.ref u0) (s5 _ _ aN) (by rw[Va,GQ];omega);rw[Qaj x]at k3;have e3:(dS (S2++[p]) λr=>if r=p then V.ref u0 else .ref (ul r))=dS (S2++[p]) λr=>.ref (if r=p then u0 else ul r):=Wt λr _=>by split<;>rfl
 rw[e3]at k3;refine⟨_,Xb,n,C,j,_,_,Xb,s5 _ _ o4,T.cl,T.Qga,Jz _,_,Xb,A.u,_,Xb,k3,?_⟩;have nu:n≠A.u:=Yd o2 d.at_.us nofun;have o5:(zj (zj Hc u0 (.lst [])) A.u (.dK (dS (S2++[p]) λr=>.ref (if r=p then u0 else ul r)))) n=Ga (.ins C j (Y9 A)):=by rw[Qf nu];exact s5 _ _ o4
 have aQ:(zj (zj Hc u0 (.lst [])) A.u (.dK (dS (S2++[p]) λr=>.ref (if r=p then u0 else ul r)))) A.v=Ga (.dK (dS S2 λ_=>.non)):=by exact Qi (s5 _ _ (cA ao (Gp d.at_.ap.lv) (Gp d.at_.ap.mv))) (Gp d.at_.ap.uv)
 have k4:=I8.k (k:=ki p) (v:=.non) aQ (by rw[Va,GQ];omega);rw[Qaj x]at k4;have e4:(dS (S2++[p]) λr=>if r=p then V.non else .non)=dS (S2++[p]) λ_=>.non:=Wt λr _=>by split<;>rfl
 rw[e4]at k4;refine⟨_,Xb,n,C,j,_,_,Xb,o5,T.cl,T.above,Ow _,_,Xb,A.v,_,Xb,k4,?_⟩;have Y:=Qxw (m0:=m0) (u0:=u0) d.at_ x ae am (Gp aM) az;have FY:FrT (na A ml ul) S2 (na A (λr=>if r=p then m0 else ml r) (λr=>if r=p then u0 else ul r)) (S2++[p]) H2 (zj (zj (zj Hc u0 (.lst [])) A.u (.dK (dS (S2++[p]) λr=>.ref (if r=p then u0 else ul r)))) A.v (.dK (dS (S2++[p]) λ_=>.non))):=by
  refine⟨λb o e hb=>?_,λb hb=>?_,λb hb=>?_⟩
  ·rw[Qf (λz=>hb (by rw[z];exact .inr (.inr (.inr (.inr (.inr (.inr (.inl Xb)))))))),Qf (λz=>hb (by rw[z];exact .inr (.inr (.inl Xb))))];exact s5 _ _ (cA e (λz=>hb (by rw[z];exact .inl Xb)) (λz=>hb (by rw[z];exact .inr (.inl Xb))))
  ·rcases hb with h|h|h|h|h|h|h|⟨r,aA,h⟩
   ·exact .inl (.inl h)
   ·exact .inl (.inr (.inl h))
   ·exact .inl (.inr (.inr (.inl h)))
   ·exact .inl (.inr (.inr (.inr (.inl h))))
   ·exact .inl (.inr (.inr (.inr (.inr (.inl h)))))
   ·exact .inl (.inr (.inr (.inr (.inr (.inr (.inl h))))))
   ·exact .inl (.inr (.inr (.inr (.inr (.inr (.inr (.inl h)))))))
   ·have h:b=(if r=p then m0 else ml r)\/b=(if r=p then u0 else ul r):=h;by_cases I:r=p
    ·rw[Gn I,Gn I]at h;rcases h with h|h
     ·rw[h];exact .inr ae
     ·rw[h];exact .inr am
    ·rw[Gi I,Gi I]at h;have aC:r∈S2:=by
      rcases List.mem_append.mp aA with z|z
      ·exact z
      ·exact absurd (by simpa using z) I
     exact .inl (.inr (.inr (.inr (.inr (.inr (.inr (.inr ⟨r,aC,h⟩)))))))
  ·by_cases h1:b=A.v
   ·subst h1;rw[Qb]at hb;cases hb
   ·rw[Qf h1]at hb;by_cases h2:b=A.u
    ·subst h2;rw[Qb]at hb;cases hb
    ·rw[Qf h2]at hb;exact(cN (s5.free hb)).1
 have Y:Z6 P w C (zj (zj (zj Hc u0 (.lst [])) A.u (.dK (dS (S2++[p]) λr=>.ref (if r=p then u0 else ul r)))) A.v (.dK (dS (S2++[p]) λ_=>.non))) n (na A (λr=>if r=p then m0 else ml r) (λr=>if r=p then u0 else ul r)) fs S2.length {fresh (Ye fs) (Zk fs) (S2++[p])with Xh:=Yz (Zk fs) S2,tab:=Qbe (Ye fs) (Zk fs) S2}:=by rw[<-ad];exact Y
 generalize zj (zj (zj Hc u0 (.lst [])) A.u (.dK (dS (S2++[p]) λr=>.ref (if r=p then u0 else ul r)))) A.v (.dK (dS (S2++[p]) λ_=>.non))=H4 at Y FY⊢;generalize (λr=>if r=p then m0 else ml r)=L at Y FY;generalize (λr=>if r=p then u0 else ul r)=B at Y FY;have F4:=F2.trans FY;subst_vars;obtain⟨ar,aI⟩:=Y.ob;obtain⟨an,av,af⟩:=Y.fo;have ak:p<an.length:=by rw[Gr af];exact hp
 obtain⟨y4,al,c4,ac,au,ax,ah⟩:=Qy af (List.getElem?_eq_getElem ak);and_intros;rw[Qgj hp]at al;cases al;let aK:Nat->St->Hp->Prop:=λi σ H5=>XE1 λ(x2:Option V)=>PA4 (σ=[Ga (.ref n),Ga (jv p),x2]) (Z6 P w C H5 n (na A L B) fs S2.length {fresh (Ye fs) (Zk fs) (S2++[p])with Xh:=(λr=>Yz (Zk fs) S2 r++List.replicate (((Zk fs p).take i).count r) p),tab:=Qbe (Ye fs) (Zk fs) S2}) (FrT A S (na A L B) (S2++[p]) H H5) (H5 ac=Ga (.tup ((Zk fs p).map jv)))
 refine⟨_,Xb,n,C,ar,_,_,Xb,aI,T.cl,T.Qcl,U5 _,_,Xb,A.f,an,_,_,Xb,Xb,Zd.of av,Qz (List.getElem?_eq_getElem ak),c4,_,_,_,au,Xb,Z2.of ax,I0 _ _ _,ac,Xb,⟨_,Z2.of ah⟩,Qhg (K:=K) (a:=ac) (xs:=(Zk fs p).map jv)
  aK
  ⟨_,Xb,?_,F4,ah⟩ (by rintro i σ H5 _ ⟨_,_,_,_,h⟩;exact Z2.of h) ?_ ?_⟩
 ·have:(λr=>Yz (Zk fs) S2 r++List.replicate (((Zk fs p).take 0).count r) p)=Yz (Zk fs) S2:=by funext r;simp
  rw[this];exact Y
 ·rintro i y σ H5 hi ⟨x5,rfl,M,F5,h5⟩;rw[List.getElem?_map]at hi;cases eq:(Zk fs p)[i]? with
  |none=>rw[eq]at hi;cases hi
  |some r=>
   rw[eq]at hi;cases hi;have rS:r∈S2++[p]:=List.mem_append_left _ (done r (List.mem_of_getElem? eq));have ur:=M.ul r rS;obtain⟨R,W⟩:=M.ob;have aT:=Qe3 tk.few S2 r;have aR:((Zk fs p).take i).count r<=100:=Tt List.count_le_length (by rw[List.length_take];omega);refine⟨_,Xb,n,C,R,_,_,Xb,W,T.cl,T.Qga,Jz _,_,Xb,A.u,_,Xb,Xj M.us rS,.inl ⟨Xb,_,Zd.of ur⟩,_,Xb,_,_,_,Xb,Xb,ur,?_,?_⟩
   ·rw[List.length_map,GQ];show(Yz (Zk fs) S2 r++List.replicate (((Zk fs p).take i).count r) p).length<_;rw[List.length_append,List.length_replicate];omega
   ·have Y6:=M.Qsc rS (Yz (Zk fs) S2 r++List.replicate (((Zk fs p).take i).count r) p++[p]);have eH:(HO.lst ((Yz (Zk fs) S2 r++List.replicate (((Zk fs p).take i).count r) p++[p]).map jv))=.lst ((Yz (Zk fs) S2 r++List.replicate (((Zk fs p).take i).count r) p).map jv++[jv p]):=by rw[List.map_append];rfl
    rw[eH]at Y6;have oR:Own (na A L B) (S2++[p]) (B r):=.inr (.inr (.inr (.inr (.inr (.inr (.inr ⟨r,rS,.inr Xb⟩))))));have eU:(λr'=>if r'=r then Yz (Zk fs) S2 r++List.replicate (((Zk fs p).take i).count r) p++[p]else Yz (Zk fs) S2 r'++List.replicate (((Zk fs p).take i).count r') p)=λr'=>Yz (Zk fs) S2 r'++List.replicate (((Zk fs p).take (i+1)).count r') p:=by
     funext r'
     rw[Qbw eq];by_cases h:r'=r
     ·rw[Gn h,Gn h.symm,h,List.replicate_succ',List.append_assoc]
     ·rw[Gi h,Gi (Gp h),Fd]
    refine⟨_,Xb,?_,F5.trans ⟨λb o e hb=>?_,λb hb=>.inl hb,λb hb=>?_⟩,?_⟩
    ·rw[<-eU];exact Y6
    ·exact Qi e (λz=>hb (by rw[z];exact oR))
    ·exact Zy hb
    ·exact Qi h5 (Yd h5 ur nofun)
 rintro σ H5 ⟨x5,rfl,M,F5,h5⟩;rw[List.length_map,List.take_length]at M;have eU:(λr=>Yz (Zk fs) S2 r++List.replicate ((Zk fs p).count r) p)=Yz (Zk fs) (S2++[p]):=by
  funext r
  rw[Qtl]
 rw[eU]at M;obtain⟨R,W⟩:=M.ob;have pin:∀r∈Zk fs p,r∈S2++[p]:=λr g=>List.mem_append_left _ (done r g);refine⟨_,Xb,_,Xb,n,C,R,_,_,Xb,W,T.cl,T.table,Qhy _,_,Xb,n,R,_,Xb,W,Qec _,_,Xb,n,na A L B,fs,_,_,p,Xb,M,hp,pin,by omega,λc6 H6 g6 aU aw=>?_⟩;have Y6:=M.same g6;obtain⟨J,D6,aV,aq⟩:=Y6.ta;have kc:=aw.key (tk.str p);refine⟨A.t,c6,_,J,Xb,Xb,D6,kc,by rw[GQ];omega,?_⟩;have new:∀r∈S2,Zj (Ye fs) (Zk fs) id r≠Zj (Ye fs) (Zk fs) id p:=λr g z=>by simp only[Zj,List.map_id,Df]at z;exact x (tk.inj r p (d.lt r g) hp z.1 z.2▸g)
 have Y7:=Y6.Qsn (kvs':=Wy J (Y1 (Zj (Ye fs) (Zk fs) id p)) c6 (jv p)) D6 (by have:=Qds J (Y1 (Zj (Ye fs) (Zk fs) id p)) c6 (jv p);omega) (D6.keys.put kc) (t':=Qbe (Ye fs) (Zk fs) (S2++[p])) (λk'=>by
  rw[Jy,Qsv _ _ new];by_cases h:k'=Zj (Ye fs) (Zk fs) id p
  ·rw[Gn (by rw[h]),Gn h];rfl
  ·rw[Gi (λz=>h (U2 z)),Gi h];exact aq k')
 refine q (S2++[p]) L B _ ⟨?_,?_,λr g=>?_,λr g=>?_⟩ (λr g=>List.mem_append_left _ (sub r g)) (by simp) (λr g=>?_) (F5.trans ⟨λb o e hb=>?_,λb hb=>.inl ?_,λb hb=>?_⟩)
 ·rw[List.length_append,List.length_singleton];exact Y7
 ·rw[List.nodup_append];refine⟨d.nd,by simp,λr g u O=>?_⟩;have:u=p:=by simpa using O
  rw[this];exactλz=>x (z▸g)
 ·rcases List.mem_append.mp g with h|h
  ·exactλu O=>List.mem_append_left _ (d.cl r h u O)
  ·have:r=p:=by simpa using h
   subst this;exact pin
 ·rcases List.mem_append.mp g with h|h
  ·exact d.lt r h
  ·have:r=p:=by simpa using h
   subst this;exact hp
 ·rcases List.mem_append.mp g with h|h
  ·rcases Z r h with h|h
   ·exact .inl h
   ·exact .inr (by omega)
  ·have:r=p:=by simpa using h
   subst this;exact .inr (Gm _)
 ·exact Qi (g6 _ _ e) (λz=>hb (by rw[z];exact .inr (.inr (.inr (.inl Xb)))))
 ·exact hb
 ·exact g6.free (Zy hb)
theorem Q2t{f:Gc}{fd:Ts}:Qs P w K mg base Z4 1 f fd ["self","place"] (Qah P w C 0):=by
 have no:∀vs H Q E,¬Qah P w C 0 vs H Q E:=λvs H Q E h=>by obtain⟨n,A,fs,a,S,p,_,_,_,_,h1,_⟩:=h;lia
 exact⟨λvs H Q E h=>absurd h (no vs H Q E),λA outer s H args us vs Q E _ _ _ _ h=>absurd h (no vs H Q E)⟩
theorem Qka{f e C:Gc}{fd a:Ts}(F:Wd K "take_in" "Net.take_in" Ws f fd)(T:Uc K mg C)(h:Z9 K C "take_in" f)(d:Binds K fd ["self","place"] [])
  (g:Z9 K C "key_of" e)(b:Qs P w K mg base Z4 1 e a ["self","place"] (Qb7 P w C))(c:Binds K a ["self","place"] []):∀k:Nat,Qs P w K mg base Z4 (k+1) f fd ["self","place"] (Qah P w C k)
 |0=>Q2t
 |k+1=>Qwm F T h d (Qka F T h d g b c k) g b c
end
end K05
namespace Nt
theorem Oh{l:List Nat}:∀{S:List Nat},S.Nodup->(S.map λq=>l.count q).sum<=l.length
 |[],_=>by simp
 |q::S,nd=>by
  rw[List.nodup_cons]at nd;have c:=Oh (l:=l.filter (λz=>z !=q)) nd.2;have e:(S.map λr=>(l.filter (λz=>z !=q)).count r)=S.map λr=>l.count r:=List.map_congr_left λr b=>by rw[List.count_filter];simp only[bne_iff_ne,ne_eq];intro z;exact nd.1 (z▸b)
  rw[e]at c;have h2:(l.filter (λz=>z !=q)).length+l.count q=l.length:=by
   have:=List.length_eq_countP_add_countP (λz=>z !=q) (l:=l);rw[<-List.countP_eq_length_filter];have d:l.countP (λa=>¬(a !=q)=Gf)=l.count q:=by unfold List.count;refine List.countP_congr λx _=>?_;simp
   lia
  simp only[List.map_cons,List.sum_cons];lia
theorem Qbp{f g:Nat->Nat}:∀S:List Nat,(S.map λq=>f q+g q).sum=(S.map f).sum+(S.map g).sum
 |[]=>rfl
 |q::S=>by simp only[List.map_cons,List.sum_cons,Qbp S];lia
theorem Qpk{W ρ:Type}[DecidableEq W]{wd:Nat->W}{pt:Nat->List Nat}{S:List Nat}{M:Nat}(nd:S.Nodup)(h:∀p,(pt p).length<=M):V3 (fresh (ρ:=ρ) wd pt S)<=S.length*M:=by
 have gen:∀T:List Nat,(S.map λq=>(Yz pt T q).length).sum<=T.length*M:=by
  intro T;induction T with
  |nil=>
   have:(S.map λq=>(Yz pt [] q).length)=S.map λ_=>0:=List.map_congr_left λq _=>by simp[Yz]
   rw[this];clear this nd;have z:∀S:List Nat,(S.map λ_=>0).sum=0:=by
    intro S;induction S with
    |nil=>rfl
    |cons a S b=>simpa using b
   rw[z];lia
  |cons p T b=>
   have e:(S.map λq=>(Yz pt (p::T) q).length)=S.map λq=>(pt p).count q+(Yz pt T q).length:=List.map_congr_left λq _=>by simp only[Yz,List.flatMap_cons,List.length_append,List.length_replicate]
   rw[e,Qbp];have h1:=Oh (l:=pt p) nd;have h2:=h p;rw[List.length_cons,Eh];lia
 unfold V3;refine Tt (Sa ?_) (gen S);congr 1;refine List.map_congr_left λq _=>?_;rw[Gn (show(fresh (ρ:=ρ) wd pt S).lead q=q from rfl)];rfl
end Nt
namespace K05
open PySem L2 Sb Nt
variable{C:Gc}
abbrev En:=Ta×Nat×Nat
abbrev sme(p q:Nat):En:=(("same":Ta),p,q)
abbrev unl(p q:Nat):En:=(("unlike":Ta),p,q)
inductive Qb1(H:Hp)(v:V)(e:En):Prop
 |mk (c:_) (h0:v=.ref c) (h1:H c=Ga (.tup [.str e.1,jv e.2.1,jv e.2.2])):Qb1 H v e
theorem Qb1.Qm{H H':Hp}{v:V}{e:En}(t:Qu H H')(h:Qb1 H v e):Qb1 H' v e:=by obtain⟨c,h1,h2⟩:=h;exact⟨c,h1,t _ _ h2⟩
structure Nok(P:Gg)(w:Gs)(C:Gc)(H0 H:Hp)(n:Gc)(A:Na)(fs:List Fm)(tb:Nat)(x:Nn):Prop where
 at_:Z6 P w C H n A fs tb x
 inv:X8 (Ye fs) (Zk fs) x []
 fok:Qem fs x.S
 new:∀b,Own A x.S b->H0 b=Gh
 nn:H0 n=Gh
 O7:Q4 H0 H
 len:x.S.length<=60
 tt:V3 x<=6000
 cl:cls x+x.links.length<=x.S.length
 tbb:tb<=x.S.length+x.links.length*V3 x
structure Tup(fs:List Fm)(x:Nn)(ens:List En)(i:Nat):Prop where
 ins:∀e∈ens,e.2.1∈x.S/\e.2.2∈x.S
 eq:∀(j p q:Nat),j<i->ens[j]?=Ga (sme p q)->x.lead p=x.lead q
 snd:∀E,Ec (Ye fs) (Zk fs) x.S E->(∀(j p q:Nat),j<i->ens[j]?=Ga (sme p q)->E p q)->∀p∈x.S,∀q∈x.S,x.lead p=x.lead q->E p q
 rsn:∀y∈x.links,y.2.2=Gh\/∃(j p q:Nat),y=(p,q,Ga (.told j))/\ens[j]?=Ga (sme p q)
inductive Qji(P:Gg)(w:Gs)(C:Gc)(vs:List V)(H:Hp)(Q:VK):Prop
 |mk (f:Gc) (t:Gc) (ws:List V) (es:List V) (fs:List Fm) (ens:List En) (rk:Nat->Nat) (h0:vs=[.ref f,.ref t]) (h1:H f=Ga (.lst ws)) (h2:Paired (Ra H) ws fs) (h3:H t=Ga (.lst es)) (h4:Paired (Qb1 H) es ens) (h5:Q1d fs rk) (h6:fs.length<=60) (h7:(∀p,rk p<59)) (h8:(∀e∈ens,e.2.1<fs.length/\e.2.2<fs.length)) (h9:ens.length<=1000) (h10:∀(n:Gc)(A:Na)(tb:Nat)(x:Nn)(H':Hp),Nok P w C H H' n A fs tb x->A.f=f->Tup fs x ens ens.length->Q (.ref n) H'):Qji P w C vs H Q
def Qgl(P:Gg)(w:Gs)(C:Gc):Sp:=λvs H Q _=>Qji P w C vs H Q
theorem Nok.merged{P:Gg}{w:Gs}{H0 H H':Hp}{n:Gc}{A:Na}{fs:List Fm}{tb:Nat}{x d:Nn}{a b:Nat}{r:Option Jb}(N:Nok P w C H0 H n A fs tb x)(Y:Z6 P w C H' n A fs (tb+(d.links.length - x.links.length)*V3 x) d)(M:Mgd fs x d a b r [])(F:Rn A x.S H H'):Nok P w C H0 H' n A fs (tb+(d.links.length - x.links.length)*V3 x) d:=by
 have e:=M.S;refine⟨Y,M.inv,by rw[e];exact N.fok,by rw[e];exact N.new,N.nn,λc o f=>F.keep c o (N.O7 c o f) (λz=>by rw[N.new c z]at f;cases f),by rw[e];exact N.len,by rw[M.V3];exact N.tt,by rw[e];have:=N.cl;have:=M.less;omega,?_⟩;rw[e,M.V3];have h1:=N.tbb;have h2:=M.more;have:d.links.length*V3 x=x.links.length*V3 x+(d.links.length - x.links.length)*V3 x:=by rw[<-Eh];congr 1;omega
 omega
theorem Tup.step{fs:List Fm}{x g:Nn}{d:List En}{i a b:Nat}(U:Tup fs x d i)(e:d[i]?=Ga (sme a b))(M:Mgd fs x g a b (Ga (.told i)) []):Tup fs g d (i+1):=by
 have f:=M.S;obtain⟨aS,bS⟩:=U.ins _ (List.mem_of_getElem? e);refine⟨by rw[f];exact U.ins,λj p q l c=>?_,λE X h=>?_,λy n=>?_⟩
 ·rcases Tk j i with h|h
  ·obtain⟨o,r⟩:=U.ins _ (List.mem_of_getElem? c);exact M.mono p o q r (U.eq j p q h c)
  ·have:j=i:=by lia
   subst this;rw[e]at c;cases c;exact M.eq.nil
 ·rw[f]at X;have k:=U.snd E X λj p q l=>h j p q (by lia);have:=M.snd E X ⟨k,λu v s m=>by simp at m;obtain⟨rfl,rfl,rfl⟩:=m;exact h i u v (by lia) e⟩
  exact this.1
 ·rcases M.rsn y n with h|h|h
  ·exact U.rsn y h
  ·exact .inr ⟨i,a,b,h,e⟩
  ·exact .inl h
theorem Tup.skip{fs:List Fm}{x:Nn}{c:List En}{i:Nat}{k:Ta}{a b:Nat}(U:Tup fs x c i)(e:c[i]?=Ga (k,a,b))(g:k≠"same"):Tup fs x c (i+1):=by
 refine⟨U.ins,λj p q f d=>?_,λE X h=>U.snd E X λj p q f=>h j p q (by omega),U.rsn⟩;rcases Tk j i with h|h
 ·exact U.eq j p q h d
 ·have:j=i:=by omega
  subst this;rw[e]at d;cases d;exact absurd rfl g
def Q0j(x:Nn)(a:List En):Option Nat->Prop
 |none=>∀(j p q:Nat),a[j]?=Ga (unl p q)->x.lead p≠x.lead q
 |some i=>(∃p q,a[i]?=Ga (unl p q)/\x.lead p=x.lead q)/\∀(j p q:Nat),j<i->a[j]?=Ga (unl p q)->x.lead p≠x.lead q
inductive Qia(P:Gg)(w:Gs)(C:Gc)(vs:List V)(H:Hp)(Q:VK):Prop
 |mk (n:Gc) (t:Gc) (A:Na) (fs:List Fm) (tb:Nat) (x:Nn) (es:List V) (ens:List En) (h0:vs=[.ref n,.ref t]) (h1:Z6 P w C H n A fs tb x) (h2:H t=Ga (.lst es)) (h3:Paired (Qb1 H) es ens) (h4:(∀e∈ens,e.2.1∈x.S/\e.2.2∈x.S)) (h5:∀(o:Option Nat)(H':Hp),Q4 H H'->Q0j x ens o->Q (ov o) H'):Qia P w C vs H Q
def Qhf(P:Gg)(w:Gs)(C:Gc):Sp:=λvs H Q _=>Qia P w C vs H Q
section
variable{P:Gg}{w:Gs}{K:Gd}{mg:Ta->Option Value}{base:Heap}
theorem Qmx:Qx ["net","entries","number","entry"] ["net","entries"] (Ql Ql6):=by eq_refl
theorem Yh{a b:Ta}:decide (V.str a=V.str b)=(a==b):=by rw[ED];simp
theorem Qri{f U:Gc}{fd o:Ts}(F:Wd K "least_clash" "least_clash" Ql6 f fd)(T:Uc K mg C)(B:Jr mg)(Z:Z9 K C "equal" U)(GE:Qs P w K mg base Z4 1 U o ["self","one","other"] (Qcc P w C))(W:Binds K o ["self","one","other"] []):
  Qs P w K mg base Z4 2 f fd ["net","entries"] (Qhf P w C):=by
 refine F.ok Qmx (λvs H Q E h=>?_) (λcdv A outer s H vs Q E Y h=>?_)
 ·obtain⟨n,t,A,fs,tb,x,es,m,rfl,_⟩:=h;rfl
 obtain⟨n,t,A,fs,tb,x,es,m,rfl,X,V,v,J,q⟩:=h;have M:Yb 1 _:=Y.mono (by lia);have nd:=Qmx.nd;refine⟨_,Qd (Yg Gy rfl (Qnh rfl B.enumerate (Qa (pv 1) Qe)) (Vr rfl (Zl (Yc 2 nd) (Zl (Yc 3 nd) Wb)))
   (Qh (Zn (PW.pt (Vs (Qr Wu (Qo Q5 (pv 3) Qk) Zf (Q3 _)) (Wr (Xy (Q9 (pv 0) T.cl Z GE M W .nil Q6 (Qa (Qo Q5 (pv 3) Qk) (Qa (Qo Q5 (pv 3) Qk) Qe)))))))
    (Qh (Qv (pv 2))) Q7)))
  (Qh (Qv Ur)),?_⟩
 let N:Nat->St->Hp->Prop:=λi σ H2=>PA3 (∃O R,σ=[Ga (.ref n),Ga (.ref t),O,R]) (Q4 H H2) (∀(j p r:Nat),j<i->m[j]?=Ga (unl p r)->x.lead p≠x.lead r)
 refine⟨_,Xb,t,es,Xb,Zd.of V,Qix (K:=K) (a:=t) (xs:=es) N
  ⟨⟨_,_,Xb⟩,λ_ _ h=>h,λ_ _ _ h=>by lia⟩ (by rintro i σ H2 _ ⟨_,g,_⟩;exact Zd.of (g _ _ V)) ?_ ?_⟩
 ·rintro i y c σ H2 hi ⟨⟨O,R,rfl⟩,g,no⟩ hc;subst_vars;obtain⟨⟨k,a,b⟩,D,z,rfl,I⟩:=Qy v hi;have s3:=Qg hc (.tup [.int (i:Int),.ref z]);have u:=g.trans s3;obtain⟨aS,bS⟩:=J _ (List.mem_of_getElem? D);and_intros;have l:=u _ _ I;refine⟨c,_,Xb,Z2.of Qb,Xb,_,_,Xb,_,_,Xb,Xb,?_⟩;refine⟨_,Xb,z,_,_,_,Xb,Xb,Z2.of l,Rk _ _,Xb,_,Xb,?_⟩;rw[Yh];by_cases L:k="unlike"
  ·subst L;rw[Ey];refine Yv ?_;have S:=X.same u;obtain⟨dx,o1⟩:=S.ob;refine⟨_,Xb,n,dx,_,Xb,o1,Qcq _,_,Xb,z,_,_,_,Xb,Xb,Z2.of l,I0 _ _ _,_,Xb,z,_,_,_,Xb,Xb,Z2.of l,Qjc _ _ _ _,n,A,fs,tb,x,a,b,Xb,S,aS,bS,_,Xb,?_⟩;by_cases e:x.lead a=x.lead b
   ·rw[GX e];refine Yv ⟨_,Xb,q (Ga i) _ u ⟨⟨a,b,D,e⟩,no⟩⟩
   ·rw[Gz e];refine Zp ⟨⟨_,_,Xb⟩,u,λj p r G d=>?_⟩;rcases Tk j i with h|h
    ·exact no j p r h d
    ·have:j=i:=by lia
     subst this;rw[D]at d;cases d;exact e
  ·have:(k==("unlike":Ta))=Gq:=by simpa using L
   rw[this];refine Zp ?_;refine Zp ⟨⟨_,_,Xb⟩,u,λj p r G d=>?_⟩;rcases Tk j i with h|h
   ·exact no j p r h d
   ·have:j=i:=by lia
    subst this;rw[D]at d;cases d;exact absurd rfl L
 ·rintro σ H2 ⟨⟨O,R,rfl⟩,g,no⟩;refine q Gh H2 g λj p r G=>no j p r ?_ G;rw[Gr v];exact(List.getElem?_eq_some_iff.mp G).1
theorem Qnk:Qx ["forms","told","net","kind","one","other","number","entry"] ["forms","told"] (Ql Qa6):=by eq_refl
theorem Qsa{f fI fT fM:Gc}{fd Y aa Z:Ts}(F:Wd K "net_of" "net_of" Qa6 f fd)(T:Uc K mg C)(B:Jr mg)(ag:Mk K C fI)(GI:Qs P w K mg base Z4 1 fI Y ["self","forms"] (Qfn P w C))(bI:Binds K Y ["self","forms"] [])
  (mT:Z9 K C "take_in" fT)(GT:Qs P w K mg base Z4 60 fT aa ["self","place"] (Qah P w C 59))(bT:Binds K aa ["self","place"] [])(mM:Z9 K C "merge" fM)(GM:Qs P w K mg base Z4 4 fM Z ["self","one","other","reason"] (Qhh P w C))(bM:Binds K Z ["self","one","other","reason"] []):
  Qs P w K mg base Z4 61 f fd ["forms","told"] (Qgl P w C):=by
 refine F.ok Qnk (λvs H Q E h=>?_) (λcdv A outer s H vs Q E v h=>?_)
 ·obtain⟨f,t,ws,es,fs,l,rk,rfl,_⟩:=h;rfl
 obtain⟨f,t,ws,es,fs,l,rk,rfl,hf,ar,ht,L,tk,aE,ac,ao,aD,q⟩:=h;have ap:Yb 2 _:=v.mono (by lia);have aq:Yb 4 _:=v.mono (by lia);have nd:=Qnk.nd;show∃t,Z7 ?mysNetOf _ t/\_;let w4:Subtype (Z7 ?mysNetOf ((Qj Qa6).drop 3)):=⟨_,Qh (Qv (pv 2))⟩
 let w3:Subtype (Z7 ?mysNetOf ((Qj Qa6).drop 2)):=⟨_,Qd (Yg Gy rfl (Qnh rfl B.enumerate (Qa (pv 1) Qe)) (Vr rfl (Zl (Yc 6 nd) (Zl (Yc 7 nd) Wb)))
   (Qh (Zn (Qr Wu (Qo Q5 (pv 7) Qk) Zf (Q3 _))
    (Qh (Ze (Q9 (pv 2) T.cl mM GM aq bM .nil Q6 (Qa (Qo Q5 (pv 7) Qk) (Qa (Qo Q5 (pv 7) Qk) (Qa (Zb (Qa Zf (Qa (pv 6) Qe))) Qe)))))) Q7))) w4.2⟩
 let w2:Subtype (Z7 ?mysNetOf ((Qj Qa6).drop 1)):=⟨_,Qd (Yg Gy rfl (Xd (pv 1)) (Vr rfl (Zl (Yc 3 nd) (Zl (Yc 4 nd) (Zl (Yc 5 nd) Wb))))
   (Qd (Ze (Q9 (pv 2) T.cl mT GT v bT .nil Q6 (Qa (pv 4) Qe)))
   (Qh (Ze (Q9 (pv 2) T.cl mT GT v bT .nil Q6 (Qa (pv 5) Qe)))))) w3.2⟩
 refine⟨_,Qd (Qt 2 nd (Qg4 ag GI ap rfl T.mgC bI .nil Q6 (Qa (pv 0) Qe))) w2.2,?_⟩;refine⟨_,Xb,λn dx hn an aF=>?_⟩;have s0:Q4 H (zj (zj H dx (.own n)) n (.ins C dx [])):=λc o e=>by rw[Qf (Qc e hn),Qf (Qc e an)];exact e
 refine⟨n,dx,f,ws,fs,Xb,Qb,s0 _ _ hf,L2.Paired.Ya ar λ_ _ h=>h.Qm (Qu.of s0),λA H1 fA X1 k1 w1=>⟨Xb,?_⟩⟩;have s1:Q4 H H1:=λc o e=>k1 c o (s0 c o e) (Qc e hn);have n1:∀b,Own A [] b->H b=Gh:=λb hb=>s0.free (w1 b hb);have ad:es.length=l.length:=Gr L;let av:Nat->St->Hp->Prop:=λi σ H2=>XE6 λ(x3 x4 x5:Option V)(S:List Nat)(ml ul:Nat->Gc)=>PA5 (σ=[Ga (.ref f),Ga (.ref t),Ga (.ref n),x3,x4,x5,Gh,Gh]) (Frs P w C H2 n (na A ml ul) fs S) (Q4 H H2) (∀b,Own (na A ml ul) S b->H b=Gh) (∀e∈l.take i,e.2.1∈S/\e.2.2∈S)
 refine⟨_,Xb,t,Xb,⟨_,Zd.of (s1 _ _ ht)⟩,Xl (K:=K) (a:=t) (xs:=es) av
  ⟨_,_,_,[],A.ml,A.ul,Xb,⟨X1,List.nodup_nil,(λp R=>nomatch R),(λp R=>nomatch R)⟩,s1,n1,by simp⟩ (by rintro i σ H2 _ ⟨_,_,_,_,_,_,_,_,g,_⟩;exact Zd.of (g _ _ ht)) ?_ ?_⟩
 ·rintro i y σ H2 hi ⟨x3,x4,x5,S,ml,ul,rfl,d,M,n2,W⟩;subst_vars;obtain⟨⟨k,a,b⟩,O,D,rfl,J⟩:=Qy L hi;obtain⟨al,bl⟩:=ao _ (List.mem_of_getElem? O);obtain⟨ah,o2⟩:=d.at_.ob;and_intros;refine⟨D,_,Xb,Z2.of (M _ _ J),Xb,_,_,Xb,_,_,Xb,_,_,Xb,Xb,?_⟩;refine⟨_,Xb,n,ah,_,Xb,o2,O8 _,_,Xb,n,na A ml ul,fs,rk,S,a,Xb,d,tk,al,ac a,λS3 ae af u X3 G a3 _ F3=>?_⟩;have g3:Q4 H u:=λc o e=>F3.keep c o (M c o e) (λz=>by rw[n2 c z]at e;cases e);have n3:∀b,Own (na A ae af) S3 b->H b=Gh:=λb hb=>(F3.own b hb).elim (n2 b) (λz=>M.free z);obtain⟨ai,o3⟩:=X3.at_.ob;refine⟨_,Xb,n,ai,_,Xb,o3,O8 _,_,Xb,n,na A ae af,fs,rk,S3,b,Xb,X3,tk,bl,ac b,λS4 au ax H4 X4 m b4 _ F4=>?_⟩;have g4:Q4 H H4:=λc o e=>F4.keep c o (g3 c o e) (λz=>by rw[n3 c z]at e;cases e);refine⟨_,_,_,S4,au,ax,Xb,X4,g4,λb hb=>(F4.own b hb).elim (n3 b) (λz=>g3.free z),λe ab=>?_⟩;rw[List.take_add_one,O]at ab;rcases List.mem_append.mp ab with h|h
  ·exact⟨m _ (G _ (W e h).1),m _ (G _ (W e h).2)⟩
  ·have:e=(k,a,b):=by simpa using h
   subst this;exact⟨m _ a3,b4⟩
 rintro σ H2 ⟨x3,x4,x5,S,ml,ul,rfl,d,M,n2,W⟩;rw[ad,List.take_length]at W;have ay:S.length<=fs.length:=Xk (S:=List.range fs.length) d.nd (λr v=>List.mem_range.mpr (d.lt r v))|>λh=>by rw[List.length_range]at h;exact h
 have ni:X8 (ρ:=Jb) (Ye fs) (Zk fs) (fresh (Ye fs) (Zk fs) S) []:=Qoy d.nd d.cl λp R r v e1 e2=>tk.inj p r (d.lt p R) (d.lt r v) e1 e2;have N0:Nok P w C H H2 n (na A ml ul) fs S.length (fresh (Ye fs) (Zk fs) S):=⟨d.at_,ni,⟨tk.str,d.lt,d.cl,λp=>by have:=tk.few p;lia⟩,n2,hn,M,by show S.length<=60;lia,Tt (Qpk d.nd tk.few) (by lia),Qu7 _,by show S.length<=S.length+0*_;lia⟩;have U0:Tup fs (fresh (Ye fs) (Zk fs) S) l 0:=⟨W,λj p r hj=>by lia,λE X _ p R r v e=>by have e:p=r:=e;subst e;exact X.refl p,λy hy=>nomatch hy⟩
 let aw:Nat->St->Hp->Prop:=λi σ u=>XE4 λ(x6 x7:Option V)(tb:Nat)(x:Nn)=>PA3 (σ=[Ga (.ref f),Ga (.ref t),Ga (.ref n),x3,x4,x5,x6,x7]) (Nok P w C H u n (na A ml ul) fs tb x) (Tup fs x l i)
 refine⟨_,Xb,t,es,Xb,Zd.of (M _ _ ht),Qix (K:=K) (a:=t) (xs:=es) aw
  ⟨_,_,_,_,Xb,N0,U0⟩ (by rintro i σ u _ ⟨_,_,_,_,_,N,_⟩;exact Zd.of (N.O7 _ _ ht)) ?_ ?_⟩
 ·rintro i y c σ u hi ⟨x6,x7,tb,x,rfl,N,U⟩ hc;subst_vars;obtain⟨⟨k,a,b⟩,O,D,rfl,J⟩:=Qy L hi;have s4:=Qg hc (.tup [.int (i:Int),.ref D]);have g4:=N.O7.trans s4;have I:=g4 _ _ J;obtain⟨aS,bS⟩:=U.ins _ (List.mem_of_getElem? O);and_intros;have N4:Nok P w C H (zj u c (.tup [.int (i:Int),.ref D])) n (na A ml ul) fs tb x:=⟨N.at_.same s4,N.inv,N.fok,N.new,N.nn,g4,N.len,N.tt,N.cl,N.tbb⟩;refine⟨c,_,Xb,Z2.of Qb,Xb,_,_,Xb,_,_,Xb,Xb,?_⟩;refine⟨_,Xb,D,_,_,_,Xb,Xb,Z2.of I,Rk _ _,Xb,_,Xb,?_⟩;rw[Yh];by_cases hk:k="same"
  ·subst hk;rw[Ey];refine Yv ?_;obtain⟨aj,o4⟩:=N4.at_.ob;refine⟨_,Xb,n,aj,_,Xb,o4,Qj7 _,_,Xb,D,_,_,_,Xb,Xb,Z2.of I,I0 _ _ _,_,Xb,D,_,_,_,Xb,Xb,Z2.of I,Qjc _ _ _ _,_,Xb,by show 2<=Gj;decide,λc5 am=>?_⟩;have s5:=Qg am (.tup [.str "told",.int (i:Int)]);have g5:=g4.trans s5;have N5:Nok P w C H (zj (zj u c (.tup [.int (i:Int),.ref D])) c5 (.tup [.str "told",.int (i:Int)])) n (na A ml ul) fs tb x:=⟨N4.at_.same s5,N.inv,N.fok,N.new,N.nn,g5,N.len,N.tt,N.cl,N.tbb⟩;have az:=N.len;have ak:=N.tt;have aA:=N.cl;have aB:=N.tbb;have aC:x.links.length*V3 x+cls x*V3 x<=60*6000:=by rw[<-Eh];exact FQ (by lia) ak
   refine⟨n,na A ml ul,fs,tb,x,a,b,.ref c5,Ga (.told i),Xb,N5.at_,N.fok,⟨c5,Xb,Qb⟩,by simp,aS,bS,N.inv,by lia,by lia,by lia,by lia,λx' H6 Y6 M6 F6=>?_⟩;exact⟨_,_,_,x',Xb,N5.merged Y6 M6 F6,U.step O M6⟩
  ·have:(k==("same":Ta))=Gq:=by simpa using hk
   rw[this];exact Zp ⟨_,_,tb,x,Xb,N4,U.skip O hk⟩
 ·rintro σ u ⟨x6,x7,tb,x,rfl,N,U⟩;rw[ad]at U;exact⟨_,Xb,q n (na A ml ul) tb x u N fA U⟩
end
end K05
namespace L2
open PySem PySem.Spec PyProof.Rows
inductive Qf9(x:V)(vs:List V)(H:Hp)(Q:VK):Prop
 |mk (d:_) (k:_) (dv:_) (zw:_) (h0:x=.ref d) (h1:vs=[kV k,dv]) (h2:H d=Ga (.dK zw)) (h3:zw.length<Gj) (h4:(∀v,Y2 zw k=Ga v->Q v H)) (h5:(Y2 zw k=Gh->Q dv (zj H d (.dK (W9 zw k dv))))):Qf9 x vs H Q
def Qtx:V->List V->Hp->VK->Prop:=λx vs H Q=>Qf9 x vs H Q
theorem Ql8{X:Cx}:MtR X "dict.setdefault" Qtx:=by
 intro zq s σ H x vs v us Q I p rv h;obtain⟨d,k,c,zw,rfl,rfl,e,hz,m,n⟩:=h;cases(show v=Value.ref d from p);obtain⟨u,r,rfl,o,g⟩:=vals2 rv;obtain⟨z,hd,t,rel,f⟩:=Qot I.Zw e;refine Fa F.slot_dict_setdefault f.typeIs F.entry_dict_setdefault (F.args_dict_setdefault_3 _ _ _) (kt_meets_setdefault (Ym X.prog X.w) d (Qgc o) hd r) ⟨t,f,by rw[<-rel.length];exact z,λw hw=>?_,λj h' b l=>?_⟩
 ·have a:=rel.val k;rw[hw]at a;cases q:Y2 zw k with
  |none=>rw[q]at a;exact(show False from a).elim
  |some y=>rw[q]at a;exact⟨y,H,I.tok _,a,m y q⟩
 ·have a:=rel.val k;rw[j]at a;cases q:Y2 zw k with
  |some y=>rw[q]at a;exact(show False from a).elim
  |none=>
   have i:∃q,h'.get? d=Ga q:=let⟨q,_,_,hq,_⟩:=b;⟨q,hq⟩;have hl:(W9 zw k c).length<=Gj:=by have:=Wm zw k c;omega
   exact⟨c,_,Ir I (by rw[e];exact TC) l i (Qto hl hd (rel.put k g) b),g,n q⟩
end L2
namespace PySem
variable{Q:Value->Gk->Prop}{it:Gc}{xs:Array Value}{i:Nat}{x:Value}
structure Qn1(prog:Gg)(w:Gs)(A:TL)(I S:Gc)(fp:List Gc)(n:Nat)(St:Nat->Heap->List Value->Prop)(Out:Heap->List Value->Prop):Prop where
 item:∀(i:Nat)(s:Gk)(acc:List Value)(Q:Option Value->Gk->Prop)(E:Value->Gk->Prop),i<n->St i s.heap acc->(∀v h' tk,St (i+1) h' (acc++[v])->(∀b o,b∉fp->s.heap.get? b=Ga o->h'.get? b=Ga o)->Q (Ga v) {s with heap:=h',toks:=tk})->wpAny (GY prog w) A (pyNext (.ref I)) Q E s
 done:∀(s:Gk)(acc:List Value)(Q:Option Value->Gk->Prop)(E:Value->Gk->Prop),St n s.heap acc->(∀h' tk,Out h' acc->(∀b o,b∉fp->s.heap.get? b=Ga o->h'.get? b=Ga o)->Q Gh {s with heap:=h',toks:=tk})->wpAny (GY prog w) A (pyNext (.ref I)) Q E s
 keep:∀(i:Nat)(h h':Heap)(acc:List Value),St i h acc->(∀b o,b≠S->h.get? b=Ga o->h'.get? b=Ga o)->S<h'.objs.size->St i h' acc
section
variable{prog:Gg}{w:Gs}{A:TL}{E:Value->Gk->Prop}{s:Gk}{R:M7->Gk->Prop}{I S:Gc}{fp:List Gc}{n:Nat}{St:Nat->Heap->List Value->Prop}{Out:Heap->List Value->Prop}
theorem Qus(G:Qn1 prog w A.in1 I S fp n St Out)(m:S∉fp)(z:n<=Gj)(res:Value){h₁:Heap}
  (t:∀h' tk acc c,(∀b o,b≠S->b∉fp->h₁.get? b=Ga o->h'.get? b=Ga o)->h'.get? S=Ga {cls:=.type "list",dict:=Gh,data:=.seq acc c,slots:=#[]}->acc.size=n->Out h' acc.toList->R (.ok (.ret res)) {s with heap:=h',toks:=tk}):
  ∀(k i:Nat)(h:Heap)(tk c:Nat)(acc:Array Value),n - i=k->i<=n->St i h acc.toList->(∀b o,b≠S->b∉fp->h₁.get? b=Ga o->h.get? b=Ga o)->acc.size=i->
   h.get? S=Ga {cls:=.type "list",dict:=Gh,data:=.seq acc c,slots:=#[]}->codeAny (GY prog w) A (.builtin "list.extend.loop" ⟨[.ref S,.ref I,res],[]⟩) R {s with heap:=h,toks:=tk}:=by
 intro k;induction k with
 |zero=>
  intro i h tk c acc u hi j a f hS;have q:i=n:=by lia
  subst q;refine FE Sq ?_;rw[Lp DB _];show wpAny _ A.in1 (pyNext (.ref I)>>=_) _ _ _;refine Gb (G.done {s with heap:=h,toks:=tk} acc.toList _ _ j λh' l x r=>?_);exact Ge (t h' l acc c (λb o h1 h2 e=>r b o h2 (a b o h1 h2 e)) (r S _ m hS) f x)
 |succ k y=>
  intro i h tk c acc u hi j a f hS;refine FE Sq ?_;rw[Lp DB _];show wpAny _ A.in1 (pyNext (.ref I)>>=_) _ _ _;refine Gb (G.item i {s with heap:=h,toks:=tk} acc.toList _ _ (by lia) j λv h' l p g=>?_);dsimp only at g⊢;have d:=g S _ m hS;have up:∀b o,b≠S->h'.get? b=Ga o->(h'.update S (Eu (·.push v))).get? b=Ga o:=λb o hb e=>(Heap.get?_update_other _ _ (Gp hb)).trans e;show wpAny _ A.in1 (updateSeq S (·.push v)>>=_) _ _ _;refine Gb ?_;refine E5 d rfl (Ge ⟨LD DB _,y (i+1) _ l _ (acc.push v) (by lia) (by lia) (G.keep _ _ _ _ (by rw[Array.toList_push];exact p) up (Heap.lt_size (Heap.get?_update_self _ d Xb)))
   (λb o h1 h2 e=>up b o h1 (g b o h2 (a b o h1 h2 e))) (by rw[FF,f]) (Heap.get?_update_self _ d Xb)⟩) (by lia) (by show(acc.push v).size<=Gj+1;rw[FF];lia)
theorem Qh2{T:String}{hb:Bool}(G:Qn1 prog w A.in1.in1 I s.heap.objs.size fp n St Out)(u:∀b∈fp,b<s.heap.objs.size)(C:I<s.heap.objs.size)(L:n<=Gj)(v:∀h2:Heap,(∀b o,s.heap.get? b=Ga o->h2.get? b=Ga o)->s.heap.objs.size<h2.objs.size->St 0 h2 [])
  (H:∀h acc,St 0 h acc->ML {s with heap:=h} (.ref I) T)(O:(Value.type T==Value.type "list")=Gq)(P:(Value.type T==Value.type "tuple")=Gq)
  (self:∀(A:TL)(E:Value->Gk->Prop)(h:Heap)(Q:Value->Gk->Prop),St 0 h []->Q (.ref I) {s with heap:=h}->wpAny (GY prog w) A (pyIter (.ref I)) Q E {s with heap:=h})
  (hint:∀(A:TL)(E:Value->Gk->Prop)(h:Heap)(Q:Bool->Gk->Prop),St 0 h []->Q hb {s with heap:=h}->wpAny (GY prog w) A (Builtin.List.listLengthHint (.ref I)) Q E {s with heap:=h})
  (D:∀h' tk acc c,(∀b o,b∉fp->s.heap.get? b=Ga o->h'.get? b=Ga o)->h'.get? s.heap.objs.size=Ga {cls:=.type "list",dict:=Gh,data:=.seq acc c,slots:=#[]}->acc.size=n->Out h' acc.toList->Q (.ref s.heap.objs.size) {s with heap:=h',toks:=tk}):
  wpAny (GY prog w) A (call (.type "list") [.ref I]) Q E s:=by
 have t:s.heap.objs.size∉fp:=λK=>Du _ (u _ K);have q:s.heap.objs.size≠I:=Tu C;refine callType_codes (Q₁:=λobj i=>obj=.ref s.heap.objs.size/\i={s with heap:=s.heap.push {cls:=.type "list",data:=.seq #[]}}) NI (MT _) MU
  (code_list_new _ ⟨Xb,Xb⟩) λobj i h₁=>?_
 obtain⟨rfl,rfl⟩:=h₁;have hS:(s.heap.push {cls:=.type "list",data:=.seq #[]}).get? s.heap.objs.size=Ga {cls:=.type "list",data:=.seq #[]}:=Heap.get?_push_size _ rfl;refine⟨⟨_,hS,Xb⟩,MM _ _,?_⟩;show wpAny _ _ (do let x<-Builtin.List.listItems (.ref s.heap.objs.size);Builtin.List.listUpdate (.ref s.heap.objs.size) (λ_=>#[]);letGo x.toList.reverse;Builtin.List.listExtendWith (.ref s.heap.objs.size) (.ref I) .none) _ _ _;refine Gb ?_;unfold Builtin.List.listItems;refine Gb (Dc hS rfl (Ge ?_));show wpAny _ _ (updateSeq s.heap.objs.size (λ_=>#[])>>=λ_=>letGo (#[]:Array Value).toList.reverse>>=λ_=>Builtin.List.listExtendWith (.ref s.heap.objs.size) (.ref I) .none) _ _ _;refine Gb (E5 hS rfl ?_);have a:=Heap.get?_update_self (Eu (λ_=>(#[]:Array Value))) hS rfl;refine Gb (Sx ?_);generalize k:(s.heap.push {cls:=.type "list",data:=.seq #[]}).update s.heap.objs.size (Eu (λ_=>(#[]:Array Value)))=h2 at a;have z:∀b o,s.heap.get? b=Ga o->h2.get? b=Ga o:=λb o e=>by rw[<-k];exact(Heap.get?_update_other _ _ (Gp (Td (Heap.lt_size e)))).trans (Heap.get?_push_of_some _ e)
 have g:St 0 h2 []:=v h2 z (Heap.lt_size a);clear k;unfold Builtin.List.listExtendWith;refine Gb (M9 (T:=T) (H _ _ g) ?_);have h1:Builtin.List.listSameRef (.ref s.heap.objs.size) (.ref I)=Gq:=by simp[Builtin.List.listSameRef,q]
 simp only[h1,O,P,MC,TM,Dq];refine Gb (self _ _ h2 _ g ?_);refine Gb (T4 (hint _ _ h2 _ g ?_));have fin:∀(j:Heap)(c:Nat),St 0 j []->(∀b o,b≠s.heap.objs.size->h2.get? b=Ga o->j.get? b=Ga o)->j.get? s.heap.objs.size=Ga {cls:=.type "list",dict:=Gh,data:=.seq #[] c,slots:=#[]}->
   codeAny (GY prog w) A.in1 (.builtin "list.extend.loop" ⟨[.ref s.heap.objs.size,.ref I,.none],[]⟩) (wants (λr l=>r=Value.none/\Q (Value.ref s.heap.objs.size) l) E) {s with heap:=j,toks:=s.toks}:=by
  intro j c y N p;refine Qus (A:=A.in1) (s:=s) (h₁:=s.heap) G t L .none (λh' tk acc c J m hl M=>⟨Xb,D h' tk acc c (λb o hb e=>J b o (Td (Heap.lt_size e)) hb e) m hl M⟩) n 0 j s.toks c #[] (by lia) (Gw _) y (λb o hb _ e=>N b o hb (z b o e)) rfl p
 refine E6 (λ_=>?_) (λ_=>Ge ⟨LD DB _,fin h2 _ g (λb o _ e=>e) a⟩);refine Gb (ET ?_);refine Gb ?_;show wpAny _ _ (updateSeq s.heap.objs.size (·.push .none)>>=λ_=>updateSeq s.heap.objs.size (·.pop)) _ _ _;refine Gb (E5 a rfl ?_);have d:=Heap.get?_update_self (Eu (·.push Value.none)) a rfl;refine E5 (hz:=by seq_fits) d rfl ?_;have f:=Heap.get?_update_self (Eu (·.pop)) d rfl;have B:∀b o,b≠s.heap.objs.size->h2.get? b=Ga o->((h2.update s.heap.objs.size (Eu (·.push Value.none))).update s.heap.objs.size (Eu (·.pop))).get? b=Ga o:=λb o hb e=>(Heap.get?_update_other _ _ (Gp hb)).trans ((Heap.get?_update_other _ _ (Gp hb)).trans e)
 exact Ge ⟨LD DB _,fin _ _ (G.keep _ _ _ _ g B (Heap.lt_size f)) B f⟩
end
structure Nxt(prog:Gg)(w:Gs)(it l:Gc)(xs:Array Value)(St:Nat->Heap->Prop):Prop where
 item:∀(A:TL)(E:Value->Gk->Prop)(s:Gk)(i:Nat)(x:Value)(Q:Value->Gk->Prop),St i s.heap->xs[i]?=Ga x->(∀h',St (i+1) h'->Heap.SameBut it s.heap h'->Q x {s with heap:=h'})->wpAny (GY prog w) A (Builtin.SmallTypes.nextOf (.ref it)) Q E s
 fin:∀(A:TL)(E:Value->Gk->Prop)(s:Gk)(i:Nat)(Q:Value->Gk->Prop),A.handled=Gh->St i s.heap->xs[i]?=Gh->(∀h' e,Heap.ExtBut it s.heap h'->(∃o,h'.get? e=Ga o/\o.cls=.type "StopIteration")->E (.ref e) {s with heap:=h'})->wpAny (GY prog w) A (Builtin.SmallTypes.nextOf (.ref it)) Q E s
 keep:∀(i:Nat)(h h':Heap),St i h->(∀b,b=it\/b=l->∀o,h.get? b=Ga o->h'.get? b=Ga o)->St i h'
 there:∀(i:Nat)(h:Heap),St i h->it<h.objs.size/\l<h.objs.size
theorem Qih{prog:Gg}{w:Gs}{l:Gc}(b:l≠it):Nxt prog w it l xs (λi h=>h.IsListIter it l i/\h.IsList l xs) where
 item:=λA E s i x Q st c g=>wpAny_nextOf_list_item st.1 st.2 c λh' a d=>g h' ⟨a,st.2.extBut d.extBut b⟩ d
 fin:=λA E s i Q j st c f=>wpAny_nextOf_list_end j st.1 st.2 c f
 keep:=λi h h' st k=>⟨st.1.at λo e=>k it (.inl Xb) o e,st.2.at λo e=>k l (.inr Xb) o e⟩
 there:=λi h st=>⟨let⟨_,e,_⟩:=st.1;Heap.lt_size e,let⟨_,e,_⟩:=st.2;Heap.lt_size e⟩
section
variable{prog:Gg}{w:Gs}{A:TL}{E:Value->Gk->Prop}{s:Gk}
theorem Ja{t:Gc}{a:Array Value}(b:s.heap.IsTupleIter it t i)(g:s.heap.IsTuple t a)(h:a[i]?=Ga x)
  (f:∀h',h'.IsTupleIter it t (i+1)->Heap.SameBut it s.heap h'->Q x {s with heap:=h'}):wpAny (GY prog w) A (Builtin.SmallTypes.nextOf (.ref it)) Q E s:=by
 obtain⟨o,c,hc,hd⟩:=id b;obtain⟨k,e,_,j,d⟩:=g;unfold Builtin.SmallTypes.nextOf;refine Gb (TR (name:=Dy "__next__") b.typeIs F.slot_tuple_iterator_next
  (Tv F.slot_tuple_iterator_next b.typeIs F.entry_tuple_iterator_next ?_ (F.args_tuple_iterator_next_1 _)))
 show wpAny _ _ (field (.ref it) 0>>=_) _ _ s;refine Gb (TF c hd (x:=.ref t) rfl ?_);show wpAny _ _ (if(Value.ref t==Value.none)=Gf then _ else _) _ _ s;rw[Gi (show¬((Value.ref t==Value.none)=Gf)from Gx)];show wpAny _ _ (field (.ref it) 1>>=_) _ _ s;refine Gb (TF c hd (x:=.int i 0) rfl ?_);show wpAny _ _ (seqItems? (.ref t)>>=_) _ _ s;refine Gb (Dc e d ?_);simp only[Dl,h];refine Gb (Ev c hd (by simp) (Ge ⟨x,Xb,Ge (f _ ?_ (Heap.SameBut.update ..))⟩));exact⟨_,Heap.get?_update_self _ c (ER (DU hd _)),(Sz ..).trans hc,by rw[DU hd];simp[rawInt]⟩
theorem Jj{t:Gc}{b:Array Value}(h:A.handled=Gh)(c:s.heap.IsTupleIter it t i)(k:s.heap.IsTuple t b)(l:b[i]?=Gh)
  (j:∀h' e,Heap.ExtBut it s.heap h'->(∃o,h'.get? e=Ga o/\o.cls=.type "StopIteration")->E (.ref e) {s with heap:=h'}):wpAny (GY prog w) A (Builtin.SmallTypes.nextOf (.ref it)) Q E s:=by
 obtain⟨o,f,hc,hd⟩:=id c;obtain⟨p,g,_,n,d⟩:=k;unfold Builtin.SmallTypes.nextOf;refine Gb (TR (name:=Dy "__next__") c.typeIs F.slot_tuple_iterator_next
  (Tv F.slot_tuple_iterator_next c.typeIs F.entry_tuple_iterator_next ?_ (F.args_tuple_iterator_next_1 _)))
 show wpAny _ _ (field (.ref it) 0>>=_) _ _ s;refine Gb (TF f hd (x:=.ref t) rfl ?_);show wpAny _ _ (if(Value.ref t==Value.none)=Gf then _ else _) _ _ s;rw[Gi (show¬((Value.ref t==Value.none)=Gf)from Gx)];show wpAny _ _ (field (.ref it) 1>>=_) _ _ s;refine Gb (TF f hd (x:=.int i 0) rfl ?_);show wpAny _ _ (seqItems? (.ref t)>>=_) _ _ s;refine Gb (Dc g d ?_);simp only[Dl,l];refine Gb (ET (Gb (Ev f hd (by simp) ?_)));show wpAny _ _ (newExc (.type "StopIteration") []>>=_) _ _ _;refine Gb ?_;simp only[newExc,newTuple];refine Gb (Tw ?_ (by size_fits));refine Gb (m:=firstArgMember _ _) (Fy (a:=Value.none) (by first|rfl|(simp only[firstArgMember];rfl)) ?_);refine Tw ?_ (by size_fits);simp only[raiseNew];refine Gb (LC ?_);first|rw[show A.in1.handled=Gh from h]|rw[h]
 refine Gb (Ge (Fz ?_));exact j _ _ (((Heap.SameBut.update ..).extBut.push _).push _) ⟨_,Heap.get?_push_size _ Xb,Xb⟩
end
theorem Qmy{prog:Gg}{w:Gs}{l:Gc}(b:l≠it):Nxt prog w it l xs (λi h=>h.IsTupleIter it l i/\h.IsTuple l xs) where
 item:=λA E s i x Q st c g=>Ja st.1 st.2 c λh' a d=>g h' ⟨a,st.2.extBut d.extBut b⟩ d
 fin:=λA E s i Q j st c f=>Jj j st.1 st.2 c f
 keep:=λi h h' st k=>⟨let⟨o,ho,r⟩:=st.1;⟨o,k it (.inl Xb) o ho,r⟩,let⟨o,ho,r⟩:=st.2;⟨o,k l (.inr Xb) o ho,r⟩⟩
 there:=λi h st=>⟨let⟨_,e,_⟩:=st.1;Heap.lt_size e,let⟨_,e,_⟩:=st.2;Heap.lt_size e⟩
abbrev Ii(h:Heap)(z TI TO a:Gc)(f:Bool):Prop:=h.get? z=Ga {cls:=.type "zip",dict:=Gh,data:=.fields #[rawInt a,.bool f,.bool Gq,.ref TI,.ref TO],slots:=#[]}
section
variable{prog:Gg}{w:Gs}{A:TL}{E:Value->Gk->Prop}{s:Gk}{z TI TO i1 i2 l1 l2:Gc}{k:Nat}{xs ys:Array Value}{S1 S2:Nat->Heap->Prop}
theorem Qlz{y a b:Value}(D:FR z TI TO i1 i2 l1 l2)(V:Nxt prog w i1 l1 xs S1)(W:Nxt prog w i2 l2 ys S2)
  (hz:S9 s.heap z TI TO .none)(Y:DK s.heap TI (.ref i1) (.ref i2))(Z:DK s.heap TO a b)(h1:S1 k s.heap)(h2:S2 k s.heap)(hx:xs[k]?=Ga x)(hy:ys[k]?=Ga y)
  (hQ:∀h',Ii h' z TI TO s.heap.objs.size Gq->DK h' TO x y->S1 (k+1) h'->S2 (k+1) h'->DK h' s.heap.objs.size x y->
   (∀c o,c≠z->c≠TO->c≠i1->c≠i2->s.heap.get? c=Ga o->h'.get? c=Ga o)->Q (.ref s.heap.objs.size) {s with heap:=h'}):
  wpAny (GY prog w) A (Builtin.«zip.__next__» ⟨[.ref z],[]⟩) (λfin s'=>∃v,fin=.done (.ret v)/\Q v s') E s:=by
 show wpAny _ _ (field (.ref z) 2>>=_) _ _ _;refine Gb (TF hz rfl (x:=.bool Gq) rfl ?_);show wpAny _ _ (field (.ref z) 3>>=_) _ _ _;refine Gb (TF hz rfl (x:=.ref TI) rfl ?_);refine Gb (Dc Y rfl ?_);show wpAny _ _ (Builtin.SmallTypes.ownedTupleIsFree (.ref z)>>=_) _ _ _;refine Gb ?_;unfold Builtin.SmallTypes.ownedTupleIsFree;refine Gb (TF hz rfl (x:=.none) rfl (Ge ?_));simp only[Su];refine Gb (ET ?_);refine Gb (TF hz rfl (x:=.ref TO) rfl ?_);refine Gb (DE hz (by simp) λh₁ q C=>?_);replace q:S9 h₁ z TI TO .ellipsis:=q;have b1:∀c o,c≠z->s.heap.get? c=Ga o->h₁.get? c=Ga o:=λc o h e=>C.extBut _ _ h e;refine Gb ?_;simp only[List.zipIdx_cons,List.zipIdx_nil,List.forIn_cons,List.forIn_nil];refine Gb (Gb (SF ?_));show wpAny _ _ (Builtin.SmallTypes.nextOf (.ref i1)>>=_) _ _ _;refine Gb (V.item _ _ _ k x _ (V.keep k _ h₁ h1 λc hc o e=>b1 c o (by rcases hc with rfl|rfl;exact D.i1z;exact D.l1z) e) hx λS L n=>Ge ?_);have t:DK S TO a b:=n.extBut _ _ D.TOi1 (b1 _ _ D.TOz Z);refine Gb (Dc t rfl ?_);refine Gb (E2 t λI m j=>?_);replace m:DK I TO x b:=m;refine Gb (Sx (Ge ?_));have b3:∀c o,c≠z->c≠i1->c≠TO->s.heap.get? c=Ga o->I.get? c=Ga o:=λc o J P R e=>j.extBut _ _ R (n.extBut _ _ P (b1 c o J e));refine Gb (Gb (SF ?_));show wpAny _ _ (Builtin.SmallTypes.nextOf (.ref i2)>>=_) _ _ _;refine Gb (W.item _ _ _ k y _ (W.keep k _ I h2 λc hc o e=>by
  rcases hc with rfl|rfl
  ·exact b3 _ o D.i2z D.i12.symm D.TOi2.symm e
  ·exact b3 _ o D.l2z D.l2i1 D.l2TO e) hy λT M g=>Ge ?_)
 have u:DK T TO x b:=g.extBut _ _ D.TOi2 m;refine Gb (Dc u rfl ?_);refine Gb (E2 u λd i f=>?_);replace i:DK d TO x y:=i;refine Gb (Sx (Ge (Ge ?_)));refine Gb (Dc i rfl ?_);refine Gb (FS ?_);have hsz:d.objs.size=s.heap.objs.size:=by rw[f.1,g.1,j.1,n.1,C.1]
 have H:S9 d z TI TO .ellipsis:=f.extBut _ _ D.TOz.symm (g.extBut _ _ D.i2z.symm (j.extBut _ _ D.TOz.symm (n.extBut _ _ D.i1z.symm q)));have N:∀c o,c≠z->c≠TO->c≠i1->c≠i2->s.heap.get? c=Ga o->d.get? c=Ga o:=λc o J P R X e=>f.extBut _ _ P (g.extBut _ _ X (b3 c o J R P e));have K:z<d.objs.size:=Heap.lt_size H;show wpAny _ _ (Builtin.SmallTypes.ownedTupleHandOut (.ref z) (.ref d.objs.size)>>=_) _ _ _;refine Gb ?_;unfold Builtin.SmallTypes.ownedTupleHandOut;have O:S9 (d.push {cls:=.type "tuple",data:=.seq #[x,y]}) z TI TO .ellipsis:=Heap.get?_push_of_some _ H;refine Gb (DE O (by simp) λU r F=>?_);replace r:S9 U z TI TO (rawInt d.objs.size):=r;refine DE r (by simp) λl p G=>?_;replace p:S9 l z TI TO (rawInt d.objs.size):=p;have up:∀c o,c≠z->d.get? c=Ga o->l.get? c=Ga o:=λc o J e=>G.extBut _ _ J (F.extBut _ _ J (Heap.get?_push_of_some _ e));have B:DK l d.objs.size x y:=G.extBut _ _ (Tu K) (F.extBut _ _ (Tu K) (Heap.get?_push_size _ Xb));rw[hsz]at p B;refine Ge ⟨_,Xb,?_⟩;show Q (.ref d.objs.size) _;rw[hsz];have a1:S1 (k+1) l:=V.keep _ _ _ L λc hc o e=>by
  rcases hc with rfl|rfl
  ·exact up _ o D.i1z (f.extBut _ _ D.TOi1.symm (g.extBut _ _ D.i12 (j.extBut _ _ D.TOi1.symm e)))
  ·exact up _ o D.l1z (f.extBut _ _ D.l1TO (g.extBut _ _ D.l1i2 (j.extBut _ _ D.l1TO e)))
 have a2:S2 (k+1) l:=W.keep _ _ _ M λc hc o e=>by
  rcases hc with rfl|rfl
  ·exact up _ o D.i2z (f.extBut _ _ D.TOi2.symm e)
  ·exact up _ o D.l2z (f.extBut _ _ D.l2TO e)
 exact hQ l p (up _ _ D.TOz i) a1 a2 B λc o J P R X e=>up c o J (N c o J P R X e)
theorem Qe8{a:Gc}{f:Bool}{h:Eg}{Q:Bool->Gk->Prop}(hz:Ii s.heap z TI TO a f)(g:s.heap.get? a=Ga h)(e:∀h',Ii h' z TI TO a Gf->Heap.SameBut z s.heap h'->Q Gq {s with heap:=h'}):
  wpAny (GY prog w) A (Builtin.SmallTypes.ownedTupleIsFree (.ref z)) Q E s:=by
 unfold Builtin.SmallTypes.ownedTupleIsFree;refine Gb (TF hz rfl (x:=rawInt a) rfl ?_);show wpAny _ _ (loadIfAlive ((a:Int).toNat)>>=_) _ _ _;rw[Dl];refine Gb (RG g ?_);simp only[Option.isNone_some,TM,Dq];refine Gb (TF hz rfl (x:=.bool f) rfl ?_);cases f with
 |true=>rw[Gi (show¬((Value.bool Gf !=Value.bool Gf)=Gf)from Gx)];exact Ge (e _ hz (Heap.SameBut.refl _ _))
 |false=>rw[Gn (show(Value.bool Gq !=Value.bool Gf)=Gf from rfl)];exact Gb (DE hz (by simp) λd b c=>Ge (e d b c))
end
section
variable{prog:Gg}{w:Gs}{A:TL}{E:Value->Gk->Prop}{s:Gk}{z TI TO i1 i2 l1 l2:Gc}{k:Nat}{xs ys:Array Value}{S1 S2:Nat->Heap->Prop}
theorem Qsg{y:Value}{a:Gc}{f:Bool}{I:Eg}(D:FR z TI TO i1 i2 l1 l2)(p:Nxt prog w i1 l1 xs S1)(q:Nxt prog w i2 l2 ys S2)
  (hz:Ii s.heap z TI TO a f)(F:s.heap.get? a=Ga I)(u:DK s.heap TI (.ref i1) (.ref i2))(h1:S1 k s.heap)(h2:S2 k s.heap)(G:xs[k]?=Ga x)(H:ys[k]?=Ga y)
  (C:∀h',Ii h' z TI TO a Gf->S1 (k+1) h'->S2 (k+1) h'->DK h' s.heap.objs.size x y->
   (∀c o,c≠z->c≠i1->c≠i2->s.heap.get? c=Ga o->h'.get? c=Ga o)->Q (.ref s.heap.objs.size) {s with heap:=h'}):
  wpAny (GY prog w) A (Builtin.«zip.__next__» ⟨[.ref z],[]⟩) (λfin s'=>∃v,fin=.done (.ret v)/\Q v s') E s:=by
 show wpAny _ _ (field (.ref z) 2>>=_) _ _ _;refine Gb (TF hz rfl (x:=.bool Gq) rfl ?_);show wpAny _ _ (field (.ref z) 3>>=_) _ _ _;refine Gb (TF hz rfl (x:=.ref TI) rfl ?_);refine Gb (Dc u rfl ?_);show wpAny _ _ (Builtin.SmallTypes.ownedTupleIsFree (.ref z)>>=_) _ _ _;refine Gb (Qe8 hz F λh₁ n i=>?_);have b1:∀c o,c≠z->s.heap.get? c=Ga o->h₁.get? c=Ga o:=λc o h e=>i.extBut _ _ h e;simp only[TM,Dq];refine Gb ?_;rw[<-EE];simp only[List.forIn_cons,List.forIn_nil];refine Gb (Gb (T4 ?_));show wpAny _ _ (Builtin.SmallTypes.nextOf (.ref i1)>>=_) _ _ _;refine Gb (p.item _ _ _ k x _ (p.keep k _ h₁ h1 λc hc o e=>b1 c o (by rcases hc with rfl|rfl;exact D.i1z;exact D.l1z) e) G λj l d=>Ge (Ge ?_));have b2:∀c o,c≠z->c≠i1->s.heap.get? c=Ga o->j.get? c=Ga o:=λc o r t e=>d.extBut _ _ t (b1 c o r e);refine Gb (Gb (T4 ?_));show wpAny _ _ (Builtin.SmallTypes.nextOf (.ref i2)>>=_) _ _ _;refine Gb (q.item _ _ _ k y _ (q.keep k _ j h2 λc hc o e=>by
  rcases hc with rfl|rfl
  ·exact b2 _ o D.i2z D.i12.symm e
  ·exact b2 _ o D.l2z D.l2i1 e) H λg m b=>Ge (Ge (Ge ?_)))
 refine Gb (FS (hsz:=by show 2<=Gj;decide) ?_);have hsz:g.objs.size=s.heap.objs.size:=by rw[b.1,d.1,i.1]
 refine Ge ⟨_,Xb,?_⟩;show Q (.ref g.objs.size) _;rw[hsz];have p3:∀c o,g.get? c=Ga o->(g.push {cls:=.type "tuple",data:=.seq #[x,y]}).get? c=Ga o:=λc o e=>Heap.get?_push_of_some _ e;refine C _ (p3 _ _ (b.extBut _ _ D.i2z.symm (d.extBut _ _ D.i1z.symm n))) (p.keep _ _ _ l λc hc o e=>p3 _ _ ?_) (q.keep _ _ _ m λc hc o e=>p3 _ _ e) (by rw[<-hsz];exact Heap.get?_push_size _ Xb) λc o r t B e=>p3 _ _ (b.extBut _ _ B (b2 c o r t e));rcases hc with rfl|rfl
 ·exact b.extBut _ _ D.i12 e
 ·exact b.extBut _ _ D.l1i2 e
theorem Qtq{a b:Value}{Q:Fin->Gk->Prop}(S:A.handled=Gh)(D:FR z TI TO i1 i2 l1 l2)(J:Nxt prog w i1 l1 xs S1)(O:Nxt prog w i2 l2 ys S2)
  (hz:S9 s.heap z TI TO .none\/∃c f X,Ii s.heap z TI TO c f/\s.heap.get? c=Ga X)(L:DK s.heap TI (.ref i1) (.ref i2))(U:DK s.heap TO a b)(h1:S1 k s.heap)(h2:S2 k s.heap)(F:xs[k]?=Gh\/ys[k]?=Gh)
  (P:∀h' e,(∀c o,c≠z->c≠TO->c≠i1->c≠i2->s.heap.get? c=Ga o->h'.get? c=Ga o)->(∃o,h'.get? e=Ga o/\o.cls=.type "StopIteration")->E (.ref e) {s with heap:=h'}):
  wpAny (GY prog w) A (Builtin.«zip.__next__» ⟨[.ref z],[]⟩) Q E s:=by
 rcases hz with hz|⟨Z,f,X,hz,Y⟩
 ·show wpAny _ _ (field (.ref z) 2>>=_) _ _ _;refine Gb (TF hz rfl (x:=.bool Gq) rfl ?_);show wpAny _ _ (field (.ref z) 3>>=_) _ _ _;refine Gb (TF hz rfl (x:=.ref TI) rfl ?_);refine Gb (Dc L rfl ?_);show wpAny _ _ (Builtin.SmallTypes.ownedTupleIsFree (.ref z)>>=_) _ _ _;refine Gb ?_;unfold Builtin.SmallTypes.ownedTupleIsFree;refine Gb (TF hz rfl (x:=.none) rfl (Ge ?_));simp only[Su];refine Gb (ET ?_);refine Gb (TF hz rfl (x:=.ref TO) rfl ?_);refine Gb (DE hz (by simp) λh₁ j n=>?_);replace j:S9 h₁ z TI TO .ellipsis:=j;have b1:∀c o,c≠z->s.heap.get? c=Ga o->h₁.get? c=Ga o:=λc o h e=>n.extBut _ _ h e;refine Gb ?_;simp only[List.zipIdx_cons,List.zipIdx_nil,List.forIn_cons,List.forIn_nil];refine Gb (Gb (SF ?_));show wpAny _ _ (Builtin.SmallTypes.nextOf (.ref i1)>>=_) _ _ _;have B:=J.keep k _ h₁ h1 λc hc o e=>b1 c o (by rcases hc with rfl|rfl;exact D.i1z;exact D.l1z) e;cases hx:xs[k]? with
  |none=>
   refine Gb (J.fin _ _ _ k _ S B hx λi e d H=>?_);obtain⟨W,m,r⟩:=H;have v:S9 i z TI TO .ellipsis:=d _ _ D.i1z.symm j;have I:e≠z:=λx=>by subst x;rw[v]at m;cases m;simp at r
   refine DE v (by simp) λl _ g=>P l e (λc o q _ C _ x=>g.extBut _ _ q (d _ _ C (b1 _ _ q x))) ⟨W,g.extBut _ _ I m,r⟩
  |some x=>
   have V:ys[k]?=Gh:=by rcases F with h|h;rw[hx]at h;cases h;exact h
   refine Gb (J.item _ _ _ k x _ B hx λi G d=>Ge ?_);have p:DK i TO a b:=d.extBut _ _ D.TOi1 (b1 _ _ D.TOz U);refine Gb (Dc p rfl ?_);refine Gb (E2 p λl R g=>?_);refine Gb (Sx (Ge ?_));have b3:∀c o,c≠z->c≠i1->c≠TO->s.heap.get? c=Ga o->l.get? c=Ga o:=λc o q K C e=>g.extBut _ _ C (d.extBut _ _ K (b1 c o q e));refine Gb (Gb (SF ?_));show wpAny _ _ (Builtin.SmallTypes.nextOf (.ref i2)>>=_) _ _ _;refine Gb (O.fin _ _ _ k _ S (O.keep k _ l h2 λc hc o e=>by
    rcases hc with rfl|rfl
    ·exact b3 _ o D.i2z D.i12.symm D.TOi2.symm e
    ·exact b3 _ o D.l2z D.l2i1 D.l2TO e) V λM e t H=>?_)
   obtain⟨W,m,r⟩:=H;have y:S9 M z TI TO .ellipsis:=t _ _ D.i2z.symm (g.extBut _ _ D.TOz.symm (d.extBut _ _ D.i1z.symm j));have I:e≠z:=λx=>by subst x;rw[y]at m;cases m;simp at r
   refine DE y (by simp) λN _ u=>P N e (λc o q K C T x=>u.extBut _ _ q (t _ _ T (b3 c o q C K x))) ⟨W,u.extBut _ _ I m,r⟩
 ·show wpAny _ _ (field (.ref z) 2>>=_) _ _ _;refine Gb (TF hz rfl (x:=.bool Gq) rfl ?_);show wpAny _ _ (field (.ref z) 3>>=_) _ _ _;refine Gb (TF hz rfl (x:=.ref TI) rfl ?_);refine Gb (Dc L rfl ?_);show wpAny _ _ (Builtin.SmallTypes.ownedTupleIsFree (.ref z)>>=_) _ _ _;refine Gb (Qe8 hz Y λh₁ j n=>?_);have b1:∀c o,c≠z->s.heap.get? c=Ga o->h₁.get? c=Ga o:=λc o h e=>n.extBut _ _ h e;simp only[TM,Dq];refine Gb ?_;rw[<-EE];simp only[List.forIn_cons,List.forIn_nil];refine Gb (Gb (T4 ?_));show wpAny _ _ (Builtin.SmallTypes.nextOf (.ref i1)>>=_) _ _ _;have B:=J.keep k _ h₁ h1 λc hc o e=>b1 c o (by rcases hc with rfl|rfl;exact D.i1z;exact D.l1z) e;cases hx:xs[k]? with
  |none=>exact Gb (J.fin _ _ _ k _ S B hx λi e d H=>P i e (λc o q _ C _ x=>d _ _ C (b1 _ _ q x)) H)
  |some x=>
   have V:ys[k]?=Gh:=by rcases F with h|h;rw[hx]at h;cases h;exact h
   refine Gb (J.item _ _ _ k x _ B hx λi G d=>Ge (Ge ?_));have b2:∀c o,c≠z->c≠i1->s.heap.get? c=Ga o->i.get? c=Ga o:=λc o q K e=>d.extBut _ _ K (b1 c o q e);refine Gb (Gb (T4 ?_));show wpAny _ _ (Builtin.SmallTypes.nextOf (.ref i2)>>=_) _ _ _;exact Gb (O.fin _ _ _ k _ S (O.keep k _ i h2 λc hc o e=>by
    rcases hc with rfl|rfl
    ·exact b2 _ o D.i2z D.i12.symm e
    ·exact b2 _ o D.l2z D.l2i1 e) V λl e g H=>P l e (λc o q _ C T x=>g _ _ T (b2 c o q C x)) H)
structure ZSt(S1 S2:Nat->Heap->Prop)(xs ys:Array Value)(z TI TO i1 i2 S:Gc)(i:Nat)(h:Heap)(acc:List Value):Prop where
 zip:(i=0/\S9 h z TI TO .none)\/∃c f oa,Ii h z TI TO c f/\h.get? c=Ga oa/\c≠S/\c≠z/\c≠TO/\c≠i1/\c≠i2
 ti:DK h TI (.ref i1) (.ref i2)
 to:∃a b,DK h TO a b
 s1:S1 i h
 s2:S2 i h
 len:acc.length=i
 sl:S<h.objs.size
 out:∀(j:Nat)v,acc[j]?=Ga v->∃c x y,v=.ref c/\xs[j]?=Ga x/\ys[j]?=Ga y/\DK h c x y/\c≠S/\c≠z/\c≠TO/\c≠i1/\c≠i2/\z<c
theorem Qd1{Q:Option Value->Gk->Prop}{R:Value->Gk->Prop}(c:s.TypeIs (.ref z) "zip")(h:wpAny (GY prog w) A.in1 (Builtin.«zip.__next__» ⟨[.ref z],[]⟩) (λfin s'=>∃v,fin=.done (.ret v)/\Q (Ga v) s') (λe s'=>∃o,(∃a,e=.ref a/\s'.heap.get? a=Ga o/\o.cls=.type "StopIteration")/\Q Gh s') s):wpAny (GY prog w) A (pyNext (.ref z)) Q E s:=by
 unfold pyNext;refine Gb (EW (TR (name:=Dy "__next__") c F.slot_zip_next
  (Tv F.slot_zip_next c F.entry_zip_next (DD h (λfin s'⟨v,e,q⟩=>⟨v,e,Ge q⟩) λe s'⟨o,⟨a,ea,d,hc⟩,q⟩=>?_) (F.args_zip_next_1 _))))
 subst ea;exact Gb (Ez (T:="StopIteration") (b:=Gf) ⟨o,d,hc⟩ Ll (Ge q))
theorem ZSt.type{S:Gc}{h:Heap}{acc:List Value}(x:ZSt S1 S2 xs ys z TI TO i1 i2 S i h acc):ML {s with heap:=h} (.ref z) "zip":=by
 rcases x.zip with⟨_,e⟩|⟨c,f,a,e,_⟩
 ·exact⟨_,e,Xb⟩
 ·exact⟨_,e,Xb⟩
theorem Qx3{S:Gc}(hh:A.handled=Gh)(D:FR z TI TO i1 i2 l1 l2)(u:Nxt prog w i1 l1 xs S1)(B:Nxt prog w i2 l2 ys S2)(hS:S≠z/\S≠TI/\S≠TO/\S≠i1/\S≠i2/\S≠l1/\S≠l2):
  Qn1 prog w A z S [z,TO,i1,i2] (min xs.size ys.size) (ZSt S1 S2 xs ys z TI TO i1 i2 S)
   (λh acc=>∀(j:Nat)v,acc[j]?=Ga v->∃c x y,v=.ref c/\xs[j]?=Ga x/\ys[j]?=Ga y/\DK h c x y/\c≠S/\z<c):=by
 have nf:∀{c:Gc},c≠z->c≠TO->c≠i1->c≠i2->c∉[z,TO,i1,i2]:=λa b c d h=>by simp at h;rcases h with h|h|h|h<;>contradiction
 have fn:∀{c:Gc},c∉[z,TO,i1,i2]->c≠z/\c≠TO/\c≠i1/\c≠i2:=λh=>by simp at h;exact h
 refine⟨λi s acc Q E hi st Y=>?_,λs acc Q E st Y=>?_,λi h h' acc st k n=>?_⟩
 ·have Z:xs[i]?=Ga xs[i]:=Tg (by omega);have hy:ys[i]?=Ga ys[i]:=Tg (by omega);obtain⟨ta,tb,g⟩:=st.to;have n:=st.sl;refine Qd1 (R:=λ_ _=>True) st.type ?_;have fin:∀h',(∃c f p,Ii h' z TI TO c f/\h'.get? c=Ga p/\c≠S/\c≠z/\c≠TO/\c≠i1/\c≠i2)->(∃a b,DK h' TO a b)->S1 (i+1) h'->S2 (i+1) h'->DK h' s.heap.objs.size xs[i] ys[i]->(∀c o,c≠z->c≠TO->c≠i1->c≠i2->s.heap.get? c=Ga o->h'.get? c=Ga o)->Q (Ga (.ref s.heap.objs.size)) {s with heap:=h',toks:=s.toks}:=by
   intro h' aa M F G q l;have V:z<s.heap.objs.size:=by rcases st.zip with⟨_,e⟩|⟨c,f,p,e,_⟩<;>exact Heap.lt_size e
   have t:TO<s.heap.objs.size:=Heap.lt_size g;have ab:i1≠s.heap.objs.size:=Td (u.there _ _ st.s1).1;have ac:i2≠s.heap.objs.size:=Td (B.there _ _ st.s2).1;refine Y _ h' s.toks ⟨.inr aa,l _ _ D.TIz D.TITO D.TIi1 D.TIi2 st.ti,M,F,G,by simp[st.len],Nf n (Heap.lt_size q),λj v m=>?_⟩ λb o hb e=>l b o (fn hb).1 (fn hb).2.1 (fn hb).2.2.1 (fn hb).2.2.2 e;rcases Tk j acc.length with h|h
   ·rw[List.getElem?_append_left h]at m;obtain⟨c,x,y,I,J,K,L,C,O,P,T,U,H⟩:=st.out j v m;exact⟨c,x,y,I,J,K,l _ _ O P T U L,C,O,P,T,U,H⟩
   ·rw[List.getElem?_append_right h]at m;have h0:j - acc.length=0:=by have:=(List.getElem?_eq_some_iff.mp m).1;simp at this;omega
    rw[h0]at m;simp at m;subst m;have:j=i:=by have:=st.len;omega
    subst this;exact⟨_,_,_,Xb,Z,hy,q,Tu n,Tu V,Tu t,Gp ab,Gp ac,V⟩
  have V:z<s.heap.objs.size:=by rcases st.zip with⟨_,e⟩|⟨c,f,p,e,_⟩<;>exact Heap.lt_size e
  have t:TO<s.heap.objs.size:=Heap.lt_size g;rcases st.zip with⟨_,hz⟩|⟨c,f,p,hz,hc,N,c2,c3,c4,c5⟩
  ·exact Qlz D u B hz st.ti g st.s1 st.s2 Z hy λh' W X F G q l=>fin h' ⟨_,_,_,W,q,Tu n,Tu V,Tu t,Tu (u.there _ _ st.s1).1,Tu (B.there _ _ st.s2).1⟩ ⟨_,_,X⟩ F G q l
  ·exact Qsg D u B hz hc st.ti st.s1 st.s2 Z hy λh' W F G q l=>fin h' ⟨c,Gf,p,W,l _ _ c2 c4 c5 hc,N,c2,c3,c4,c5⟩ ⟨_,_,l _ _ D.TOz D.TOi1 D.TOi2 g⟩ F G q λb o b1 _ b3 b4 e=>l b o b1 b3 b4 e
 ·obtain⟨ta,tb,g⟩:=st.to;refine Qd1 (R:=λ_ _=>True) st.type (Qtq (k:=min xs.size ys.size) hh D u B ?_ st.ti g st.s1 st.s2 ?_ λh' e l he=>?_)
  ·rcases st.zip with⟨_,hz⟩|⟨c,f,p,hz,hc,_⟩
   ·exact .inl hz
   ·exact .inr ⟨c,f,p,hz,hc⟩
  ·rcases Nat.le_total xs.size ys.size with h|h
   ·exact .inl (Dh (by omega))
   ·exact .inr (Dh (by omega))
  ·obtain⟨o,ho,hc⟩:=he;refine⟨o,⟨e,Xb,ho,hc⟩,Y h' s.toks (λj v m=>?_) λb o hb e=>l b o (fn hb).1 (fn hb).2.1 (fn hb).2.2.1 (fn hb).2.2.2 e⟩;obtain⟨c,x,y,I,J,K,L,C,O,P,T,U,H⟩:=st.out j v m;exact⟨c,x,y,I,J,K,l _ _ O P T U L,C,H⟩
 ·obtain⟨ta,tb,g⟩:=st.to;refine⟨?_,k _ _ (Gp hS.2.1) st.ti,⟨ta,tb,k _ _ (Gp hS.2.2.1) g⟩,u.keep _ _ _ st.s1 λb hb o e=>k b o ?_ e,B.keep _ _ _ st.s2 λb hb o e=>k b o ?_ e,st.len,n,λj v m=>?_⟩
  ·rcases st.zip with⟨H,hz⟩|⟨c,f,p,hz,hc,N,r⟩
   ·exact .inl ⟨H,k _ _ (Gp hS.1) hz⟩
   ·exact .inr ⟨c,f,p,k _ _ (Gp hS.1) hz,k _ _ N hc,N,r⟩
  ·rcases hb with rfl|rfl
   ·exact Gp hS.2.2.2.1
   ·exact Gp hS.2.2.2.2.2.1
  ·rcases hb with rfl|rfl
   ·exact Gp hS.2.2.2.2.1
   ·exact Gp hS.2.2.2.2.2.2
  ·obtain⟨c,x,y,I,J,K,L,C,r⟩:=st.out j v m;exact⟨c,x,y,I,J,K,k _ _ C L,C,r⟩
end
theorem Qmg:typeLookup (.type "zip") "__len__"=pure Gh:=by rw[E7,Et];kernel_rfl
theorem Qik:typeLookup (.type "zip") "__length_hint__"=pure Gh:=by rw[E7,Et];kernel_rfl
section
variable{prog:Gg}{w:Gs}{A:TL}{E:Value->Gk->Prop}{s:Gk}
theorem Qrv{z:Gc}{Q:Bool->Gk->Prop}(a:s.TypeIs (.ref z) "zip")(h:Q Gf s):wpAny (GY prog w) A (Builtin.List.listLengthHint (.ref z)) Q E s:=by unfold Builtin.List.listLengthHint;refine Gb (DO a Qmg ?_);show wpAny _ A (specialOf (Value.ref z) (Dy "__length_hint__")>>=_) _ _ _;refine Gb (DO a Qik ?_);exact Ge h
end
abbrev Qn9(h:Heap)(l1:Gc):Heap:=h.push {cls:=.type "tuple_iterator",data:=.fields #[.ref l1,.int 0 0]}
abbrev Qm5(h:Heap)(l1 l2:Gc):Heap:=(Qn9 h l1).push {cls:=.type "tuple_iterator",data:=.fields #[.ref l2,.int 0 0]}
abbrev Qnw(h:Heap)(l1 l2:Gc):Heap:=(Qm5 h l1 l2).push {cls:=.type "tuple",data:=.seq #[.ref h.objs.size,.ref (Qn9 h l1).objs.size]}
abbrev Qno(h:Heap)(l1 l2:Gc):Heap:=(Qnw h l1 l2).push {cls:=.type "tuple",data:=.seq #[.none,.none]}
abbrev Qcg(h:Heap)(l1 l2:Gc):Heap:=(Qno h l1 l2).push {cls:=.type "zip",data:=.fields #[.none,.bool Gq,.bool Gq,.ref (Qm5 h l1 l2).objs.size,.ref (Qnw h l1 l2).objs.size]}
theorem Qdq(l1 l2:Gc)(xs ys:Array Value):
  Meets (Builtin.«zip.__new__» ⟨[.type "zip",.ref l1,.ref l2],[]⟩) (λ_ R s=>s.heap.IsTuple l1 xs/\s.heap.IsTuple l2 ys/\
   R (.ok (.ret (.ref (Qno s.heap l1 l2).objs.size))) {s with heap:=Qcg s.heap l1 l2}):=
 .of_wp λprog w A R s h=>by
  obtain⟨f,g,d,tk,os⟩:=s;obtain⟨c,e,h⟩:=h;have i:=sub_zip;have a:Heap.IsTuple (ND ⟨f,g,d,tk,os⟩) l1 xs:=c;have b:Heap.IsTuple (ND ⟨f.push {cls:=.type "tuple_iterator",data:=.fields #[.ref l1,.int 0 0]},g,d,tk,os⟩) l2 ys:=Heap.IsTuple.push e _;wp_walk using Sf a,Sf b
  exact⟨_,Xb,h⟩
section
variable{prog:Gg}{w:Gs}{A:TL}{E:Value->Gk->Prop}{s:Gk}
theorem Qh9{l1 l2:Gc}{ys:Array Value}(b:s.heap.IsTuple l1 xs)(d:s.heap.IsTuple l2 ys)
  (h:∀h',S9 h' (s.heap.objs.size+4) (s.heap.objs.size+2) (s.heap.objs.size+3) .none->DK h' (s.heap.objs.size+2) (.ref s.heap.objs.size) (.ref (s.heap.objs.size+1))->
   DK h' (s.heap.objs.size+3) .none .none->h'.IsTupleIter s.heap.objs.size l1 0->h'.IsTupleIter (s.heap.objs.size+1) l2 0->h'.objs.size=s.heap.objs.size+5->
   (∀c o,s.heap.get? c=Ga o->h'.get? c=Ga o)->Q (.ref (s.heap.objs.size+4)) {s with heap:=h'}):
  wpAny (GY prog w) A (call (.type "zip") [.ref l1,.ref l2]) Q E s:=by
 refine callType_new F.called_zip (by decide) (F.typeCall_zip_2 _ _) (F.newCall_zip_2 _ _) (λobj=>F.args_object_init_3 obj _ _) F.entry_zip_new
  (Qdq l1 l2 xs ys) ⟨b,d,?_⟩
 have e:(Qn9 s.heap l1).objs.size=s.heap.objs.size+1:=Heap.size_push ..;have f:(Qm5 s.heap l1 l2).objs.size=s.heap.objs.size+2:=by rw[Heap.size_push,e]
 have g:(Qnw s.heap l1 l2).objs.size=s.heap.objs.size+3:=by rw[Heap.size_push,f]
 have i:(Qno s.heap l1 l2).objs.size=s.heap.objs.size+4:=by rw[Heap.size_push,g]
 have n:(Qcg s.heap l1 l2).objs.size=s.heap.objs.size+5:=by rw[Heap.size_push,i]
 have a:(Qcg s.heap l1 l2).get? (Qno s.heap l1 l2).objs.size=Ga _:=Heap.get?_push_size _ rfl;have l:(Qcg s.heap l1 l2).get? (Qnw s.heap l1 l2).objs.size=Ga _:=Heap.get?_push_of_some _ (Heap.get?_push_size _ Xb);have k:(Qcg s.heap l1 l2).get? (Qm5 s.heap l1 l2).objs.size=Ga _:=Heap.get?_push_of_some _ (Heap.get?_push_of_some _ (Heap.get?_push_size _ Xb));have j:(Qcg s.heap l1 l2).get? (Qn9 s.heap l1).objs.size=Ga _:=Heap.get?_push_of_some _ (Heap.get?_push_of_some _ (Heap.get?_push_of_some _ (Heap.get?_push_size _ Xb)));have m:(Qcg s.heap l1 l2).get? s.heap.objs.size=Ga _:=Heap.get?_push_of_some _ (Heap.get?_push_of_some _ (Heap.get?_push_of_some _ (Heap.get?_push_of_some _ (Heap.get?_push_size _ Xb))));show _/\_;rw[f,g,i]at a;rw[e,f]at k;rw[g]at l;rw[e]at j;rw[i];exact⟨⟨_,a,Xb⟩,h _ a k l ⟨_,m,Xb,Xb⟩ ⟨_,j,Xb,Xb⟩ n λc o x=>Heap.get?_push_of_some _ (Heap.get?_push_of_some _ (Heap.get?_push_of_some _ (Heap.get?_push_of_some _ (Heap.get?_push_of_some _ x))))⟩
theorem Qin{S1 S2:Nat->Heap->Prop}{l1 l2:Gc}{ys:Array Value}{n0:Nat}(M:A.handled=Gh)(q:Nxt prog w n0 l1 xs S1)(r:Nxt prog w (n0+1) l2 ys S2)(h1:l1<n0)(h2:l2<n0)(hsz:s.heap.objs.size=n0+5)
  (hz:S9 s.heap (n0+4) (n0+2) (n0+3) .none)(g:DK s.heap (n0+2) (.ref n0) (.ref (n0+1)))(i:DK s.heap (n0+3) .none .none)(m:S1 0 s.heap)(p:S2 0 s.heap)(O:min xs.size ys.size<=Gj)
  (L:∀h' tk acc c,(∀b o,b<n0->s.heap.get? b=Ga o->h'.get? b=Ga o)->h'.get? (n0+5)=Ga {cls:=.type "list",dict:=Gh,data:=.seq acc c,slots:=#[]}->acc.size=min xs.size ys.size->
   (∀(j:Nat)v,acc.toList[j]?=Ga v->∃c x y,v=.ref c/\xs[j]?=Ga x/\ys[j]?=Ga y/\DK h' c x y/\c≠n0+5/\n0<=c)->Q (.ref (n0+5)) {s with heap:=h',toks:=tk}):
  wpAny (GY prog w) A (call (.type "list") [.ref (n0+4)]) Q E s:=by
 have D:=Mi (n:=n0) h1 h2;have G:=Qx3 (A:=A.in1.in1) (S:=s.heap.objs.size) M D q r ⟨by rw[hsz];exact Tu (DC _),by rw[hsz];exact Tu (by show n0+2<n0+5;exact Ed (by decide) _),by rw[hsz];exact Tu (by show n0+3<n0+5;exact Ed (by decide) _),by rw[hsz];exact Tu (SK (by decide)),by rw[hsz];exact Tu (by show n0+1<n0+5;exact Ed (by decide) _),by rw[hsz];exact Tu (Tc h1 (T1 _ _)),by rw[hsz];exact Tu (Tc h2 (T1 _ _))⟩;refine Qh2 (T:="zip") (hb:=Gf) G (λb hb=>?_) (by rw[hsz];exact DC _) O (λK a l=>⟨.inl ⟨Xb,a _ _ hz⟩,a _ _ g,⟨_,_,a _ _ i⟩,q.keep _ _ _ m λb _ o e=>a b o e,r.keep _ _ _ p λb _ o e=>a b o e,Xb,l,λj v k=>by simp at k⟩) (λh acc st=>st.type) (by decide) (by decide) (λA E h Q st d=>?_) (λA E h Q st d=>Qrv st.type d) (λh' tk acc c N hS hl t=>?_)
 ·simp only[List.mem_cons,List.not_mem_nil,Ee]at hb;rw[hsz];rcases hb with h|h|h|h<;>rw[h]
  ·exact DC _
  ·exact Ed (by decide) _
  ·exact SK (by decide)
  ·exact Ed (by decide) _
 ·rcases st.zip with⟨_,e⟩|⟨c,f,P,e,_⟩
  ·exact wpAny_pyIter_zip e d
  ·refine Sy (s:={s with heap:=h}) ⟨_,e,Xb⟩ F.slot_zip_iter (Tv F.slot_zip_iter ⟨_,e,Xb⟩ F.entry_zip_iter ?_ (F.args_zip_iter_1 _));show wpAny _ _ (ret (.ref (n0+4))) _ _ _;exact Ge ⟨_,Xb,"zip",_,⟨_,e,Xb⟩,F.slot_zip_next.lookup,d⟩
 ·rw[hsz]at hS t⊢;refine L h' tk acc c (λb o hb e=>N b o (λz=>?_) e) hS hl λj v k=>?_
  ·simp only[List.mem_cons,List.not_mem_nil,Ee]at z;rcases z with h|h|h|h<;>rw[h]at hb
   ·exact absurd hb (LQ.mpr (T1 _ _))
   ·exact absurd hb (LQ.mpr (T1 _ _))
   ·exact absurd hb (Du _)
   ·exact absurd hb (LQ.mpr (T1 _ _))
  ·obtain⟨c,x,y,u,B,C,H,I,J⟩:=t j v k;exact⟨c,x,y,u,B,C,H,I,E9 (DS (T1 _ _) J)⟩
end
end PySem
namespace L2
open PySem PySem.Spec PyProof.Rows
theorem Inv.Q1a{X:Cx}{zq:List (Gc×Eg)}{σ:List (Option V)}{H H':Hp}{s:Gk}{h':Heap}{t':Nat}(I:Inv X zq σ H s)(k:∀b u,s.heap.get? b=Ga u->h'.get? b=Ga u)(a:∀b,b<s.heap.objs.size->H' b=H b)
  (new:∀b o,s.heap.objs.size<=b->H' b=Ga o->Z3 X.prog X.w H' h' b o):Inv X zq σ H' {s with heap:=h',toks:=t'}:=by
 have d:∀b o,H b=Ga o->H' b=Ga o:=λb o e=>by rw[a b (I.Zw b o e).lt];exact e
 refine I.un ⟨λb u q _ _ _=>k b u q,λb u q _ _ _=>⟨u.slots,k b u q⟩,λb u q n _=>by rw[a b (Heap.lt_size q)];exact n,λb u q _=>⟨u,k b u q⟩,λb xs e=>d b _ e,λb o u e=>d b _ e,λb ps e=>⟨#[],by rw[d b _ e];simp⟩⟩ λb o e=>?_;by_cases hb:b<s.heap.objs.size
 ·rw[a b hb]at e;exact(I.Zw b o e).Qkm (λc u _ q=>k c u q) (λc q=>d c _ q) λc xs q=>d c _ q
 ·exact new b o (Ft hb) e
def PrV(H:Hp)(v:V)(p:V×V):Prop:=∃c,v=.ref c/\H c=Ga (.tup [p.1,p.2])
def Q4l(K:Gd):List V->Hp->VK->Prop:=λvs H Q=>∃p q xs ys,vs=[.ref p,.ref q]/\((Zd K H p xs/\Zd K H q ys)\/(Z2 K H p xs/\Z2 K H q ys))/\
 ∀(r:Gc)(es:List V)(H':Hp),Q4 H H'->H r=Gh->H' r=Ga (.lst es)->Paired (PrV H') es (xs.zip ys)->Q (.ref r) H'
open Classical in
noncomputable def Qeu(H:Hp)(r:Gc)(es:List V)(xs ys:List V):Hp:=λb=>if b=r then Ga (.lst es)else if h:∃p:V×V,∃j:Nat,es[j]?=Ga (.ref b)/\xs[j]?=Ga p.1/\ys[j]?=Ga p.2 then Ga (.tup [(EU h).1,(EU h).2])else H b
section
variable{X:Cx}{zq:List (Gc×Eg)}{σ:St}{H:Hp}{s:Gk}
theorem Qm4{h':Heap}{tk c:Nat}{n0:Nat}{acc:Array Value}{xs ys:List V}{us P:List Value}(I:Inv X zq σ H s)(i:s.heap.objs.size=n0)(R:Zv xs us)(S:Zv ys P)(hk:∀b o,b<n0->s.heap.get? b=Ga o->h'.get? b=Ga o)
  (hS:h'.get? (n0+5)=Ga {cls:=.type "list",dict:=Gh,data:=.seq acc c,slots:=#[]})(hl:acc.size=min us.length P.length)(hz:xs.length<=Gj)
  (F:∀(j:Nat)v,acc.toList[j]?=Ga v->∃c x y,v=.ref c/\us[j]?=Ga x/\P[j]?=Ga y/\DK h' c x y/\c≠n0+5/\n0<=c):
  ∃es H',Inv X zq σ H' {s with heap:=h',toks:=tk}/\Q4 H H'/\H (n0+5)=Gh/\H' (n0+5)=Ga (.lst es)/\Paired (PrV H') es (xs.zip ys):=by
 have lx:=R.length;have ly:=S.length;have ex:∀j:Nat,j<acc.size->∃c,acc.toList[j]?=Ga (Value.ref c):=λj A=>by
  have e:acc.toList[j]?=Ga acc[j]:=by rw[T8,Tg A]
  obtain⟨c,x,y,a,_⟩:=F j _ e;exact⟨c,by rw[e,a]⟩
 let es:List V:=(List.range acc.size).map λj=>match acc.toList[j]? with|some (Value.ref c)=>V.ref c|_=>V.non
 have f:∀(j:Nat)c,acc.toList[j]?=Ga (Value.ref c)->es[j]?=Ga (V.ref c):=λj c e=>by
  have A:j<acc.size:=by rw[<-TB];exact(List.getElem?_eq_some_iff.mp e).1
  show((List.range acc.size).map _)[j]?=_;rw[List.getElem?_map,List.getElem?_range A,TZ];simp only[e]
 have w:∀(j:Nat)b,es[j]?=Ga (V.ref b)->acc.toList[j]?=Ga (Value.ref b):=λj b e=>by
  have A:j<acc.size:=by have:=(List.getElem?_eq_some_iff.mp e).1;simpa[es]using this
  obtain⟨c,hc⟩:=ex j A;rw[f j c hc]at e;cases e;exact hc
 have g:es.length=acc.size:=by simp[es]
 have K:acc.size=(xs.zip ys).length:=by rw[List.length_zip,hl,lx,ly]
 have key:∀b(p:V×V)(j:Nat),es[j]?=Ga (.ref b)->xs[j]?=Ga p.1->ys[j]?=Ga p.2->∃u v,RelV p.1 u/\RelV p.2 v/\DK h' b u v/\b≠n0+5/\n0<=b:=λb p j a d q=>by obtain⟨c,x,y,U,W,Y,Z,f5,f6⟩:=F j _ (w j b a);cases U;obtain⟨u,Q,ru⟩:=R.get d;obtain⟨v,B,rv⟩:=S.get q;rw[W]at Q;cases Q;rw[Y]at B;cases B;exact⟨x,y,ru,rv,Z,f5,f6⟩
 have C:∀b(p:V×V)(j:Nat),es[j]?=Ga (.ref b)->xs[j]?=Ga p.1->ys[j]?=Ga p.2->Qeu H (n0+5) es xs ys b=Ga (.tup [p.1,p.2]):=λb p j a d q=>by obtain⟨u,v,L,N,n,hb,_⟩:=key b p j a d q;have z:∃p:V×V,∃j:Nat,es[j]?=Ga (.ref b)/\xs[j]?=Ga p.1/\ys[j]?=Ga p.2:=⟨p,j,a,d,q⟩;unfold Qeu;rw[Gi hb,dif_pos z];obtain⟨j',g1,g2,g3⟩:=Lc z;obtain⟨u',T,M,O,G,_⟩:=key b (EU z) j' g1 g2 g3;have:({cls:=.type "tuple",data:=.seq #[u,v]}:Eg)={cls:=.type "tuple",data:=.seq #[u',T]}:=Tj (n.symm.trans G);injection this with _ _ hd;injection hd with hd;injection hd with hd;injection hd with h1 h2;injection h2 with h2;subst h1 h2;rw[L.inj M,N.inj O]
 have t:∀b,b<n0->Qeu H (n0+5) es xs ys b=H b:=λb hb=>by unfold Qeu;rw[Gi (Td (Tc hb (T1 _ _))),dif_neg];rintro⟨p,j,a,d,q⟩;obtain⟨_,_,_,_,_,_,h⟩:=key b p j a d q;exact absurd hb (LQ.mpr h)
 have k:∀b,n0<=b->H b=Gh:=λb hb=>I.Zw.fresh (by rw[i];exact hb);refine⟨es,Qeu H (n0+5) es xs ys,?_,λb o e=>?_,k _ (T1 _ _),by unfold Qeu;rw[Gn rfl],?_⟩
 ·refine I.Q1a (λb u e=>hk b u (by rw[<-i];exact Heap.lt_size e) e) (λb hb=>t b (by rw[<-i];exact hb)) λb o hb e=>?_;by_cases h1:b=n0+5
  ·subst h1;have:o=.lst es:=by unfold Qeu at e;rw[Gn rfl]at e;exact(Tj e).symm
   subst this;refine⟨by rw[g,K,List.length_zip];lia,acc.toList,c,?_,by rw[D2];exact hS⟩;have all:∀(l:List Value)(m:List V),l.length=m.length->(∀j:Nat,∀v,l[j]?=Ga v->∃c,v=.ref c/\m[j]?=Ga (V.ref c))->Zv m l:=by
    intro l;induction l with
    |nil=>intro m E _;cases m with
     |nil=>exact .nil
     |cons _ _=>simp at E
    |cons v l J=>intro m E D;cases m with
     |nil=>simp at E
     |cons x m=>obtain⟨r,a,d⟩:=D 0 v rfl;simp at d;subst a d;exact .cons rfl (J m (by simpa using E) λj v B=>by have:=D (j+1) v (by simpa using B);simpa using this)
   refine all acc.toList es (by rw[g,TB]) λj v B=>?_;obtain⟨r,x,y,a,_⟩:=F j v B;subst a;exact⟨r,Xb,f j r B⟩
  ·by_cases h2:∃p:V×V,∃j:Nat,es[j]?=Ga (.ref b)/\xs[j]?=Ga p.1/\ys[j]?=Ga p.2
   ·obtain⟨p,j,a,d,q⟩:=h2;rw[C b p j a d q]at e;cases e;obtain⟨u,v,L,N,n,_⟩:=key b p j a d q;exact⟨by show 2<=Gj;decide,[u,v],.cons L (.cons N .nil),_,n,Xb,_,Xb⟩
   ·exfalso;unfold Qeu at e;rw[Gi h1,dif_neg h2,k b (by rw[<-i];exact hb)]at e;cases e
 ·rw[t b (by rw[<-i];exact(I.Zw b o e).lt)];exact e
 ·have all:∀(m:List V)(l:List (V×V)),m.length=l.length->(∀(j:Nat)p,l[j]?=Ga p->∃v,m[j]?=Ga v/\PrV (Qeu H (n0+5) es xs ys) v p)->Paired (PrV (Qeu H (n0+5) es xs ys)) m l:=by
   intro m;induction m with
   |nil=>intro l hl _;cases l with
    |nil=>exact .nil
    |cons _ _=>simp at hl
   |cons v m J=>intro l hl D;cases l with
    |nil=>simp at hl
    |cons p l=>obtain⟨T,a,d⟩:=D 0 p rfl;simp at a;subst a;exact .cons d (J l (by simpa using hl) λj p n=>by have:=D (j+1) p (by simpa using n);simpa using this)
  refine all es (xs.zip ys) (by rw[g,K]) λj p n=>?_;rw[List.getElem?_zip_eq_some]at n;have A:j<acc.size:=by have h1:=(List.getElem?_eq_some_iff.mp n.1).1;have h2:=(List.getElem?_eq_some_iff.mp n.2).1;rw[K,List.length_zip];lia
  obtain⟨r,hc⟩:=ex j A;have:=f j r hc;exact⟨.ref r,this,r,Xb,C r p j this n.1 n.2⟩
end
section
variable{X:Cx}{a b:T3}{ta:TA}{p1 p2 pos1 pos2:SX}
theorem Qdr(hc:X.calm=Gf)(E:Gl X "list")(G:X.mg "list"=Gh)(F:Gl X "zip")(J:X.mg "zip"=Gh)(ha:PA X [a,b] ta)
  (z:Te [RW (.Name "zip" p2) [a,b] [] pos2] X.env=(Gq,eval (.Call (.Name "zip" p2) [a,b] [] pos2) X.env)::Te [] X.env:=by rfl)(D:Te [a,b] X.env=(Gq,eval a X.env)::Te [b] X.env:=by rfl)
  (O:(DQ pos1 (Te ([]:List T3) X.env)).any (·.1)=Gq:=by rfl)(P:(DQ pos2 (Te [b] X.env)).any (·.1)=Gq:=by rfl):
  PE X (.Call (.Name "list" p1) [.Call (.Name "zip" p2) [a,b] [] pos2] [] pos1) (tCB (Q4l X.K) ta):=by
 intro zq s σ H Q I h;refine Db (V2 I E G boot_list ?_);refine callWith_type1 ?_ z O;rw[z];show wpAny _ _ (spliced ((Gq,eval (.Call (.Name "zip" p2) [a,b] [] pos2) X.env)::DQ pos1 (Te ([]:List T3) X.env))) _ _ s;refine Si ?_;refine Db (V2 I F J boot_zip ?_);refine callWith_type1 (Yq (ha pos2 zq s σ H _ I h) λus s1⟨vs,H1,i,r1,q1⟩=>?_) D P;obtain⟨p,q,xs,ys,rfl,hq,Y⟩:=q1;obtain⟨u,v,rfl,ru,rv⟩:=vals2 r1;cases(show u=Value.ref p from ru);cases(show v=Value.ref q from rv);have W:=i.ok.hd hc;rcases hq with⟨h1,h2⟩|⟨h1,h2⟩
 ·obtain⟨us,A,d,T⟩:=i.list h1;obtain⟨Z,V,f,U⟩:=i.list h2;have x:p<s1.heap.objs.size:=by obtain⟨_,e,_⟩:=d.isList;exact Heap.lt_size e
  have y:q<s1.heap.objs.size:=by obtain⟨_,e,_⟩:=f.isList;exact Heap.lt_size e
  have lx:=A.length;refine call_zip_2 d.isList f.isList λh' hz k l m n hsz t=>EJ ?_;refine Qin (s:={s1 with heap:=h'}) (n0:=s1.heap.objs.size) W (Qih (Td x)) (Qih (Td (Tc y (T1 _ _)))) x y hsz hz k l ⟨m,Heap.IsList.at d.isList (λo e=>t _ o e)⟩ ⟨n,Heap.IsList.at f.isList (λo e=>t _ o e)⟩ (by rw[List.size_toArray,List.size_toArray];lia) λC tk acc c w hS hl M=>?_;obtain⟨es,H',B,g,L,R,N⟩:=Qm4 (tk:=tk) i rfl A V (λb o hb e=>w b o hb (t b o e)) hS (by simpa using hl) (by lia) (λj v S=>by simpa using M j v S);exact⟨.ref (s1.heap.objs.size+5),H',B,Xb,Y _ es H' g L R N⟩
 ·obtain⟨us,A,d,T⟩:=i.tuple h1;obtain⟨Z,V,f,U⟩:=i.tuple h2;have d:s1.heap.IsTuple p us.toArray:=d;have f:s1.heap.IsTuple q Z.toArray:=f;have x:p<s1.heap.objs.size:=by obtain⟨_,e,_⟩:=d;exact Heap.lt_size e
  have y:q<s1.heap.objs.size:=by obtain⟨_,e,_⟩:=f;exact Heap.lt_size e
  have lx:=A.length;refine Qh9 d f λh' hz k l m n hsz t=>EJ ?_;refine Qin (s:={s1 with heap:=h'}) (n0:=s1.heap.objs.size) W (Qmy (Td x)) (Qmy (Td (Tc y (T1 _ _)))) x y hsz hz k l ⟨m,let⟨o,e,r⟩:=d;⟨o,t _ o e,r⟩⟩ ⟨n,let⟨o,e,r⟩:=f;⟨o,t _ o e,r⟩⟩ (by rw[List.size_toArray,List.size_toArray];lia) λC tk acc c w hS hl M=>?_;obtain⟨es,H',B,g,L,R,N⟩:=Qm4 (tk:=tk) i rfl A V (λb o hb e=>w b o hb (t b o e)) hS (by simpa using hl) (by lia) (λj v S=>by simpa using M j v S);exact⟨.ref (s1.heap.objs.size+5),H',B,Xb,Y _ es H' g L R N⟩
end
end L2
namespace PySem
theorem Qlq:typeLookup (.type "list_reverseiterator") "__len__"=pure Gh:=by rw[E7,Et];kernel_rfl
theorem Qjf:typeLookup (.type "list_reverseiterator") "__length_hint__"=pure (Ga (.builtin "list_reverseiterator.__length_hint__")):=by rw[E7,Et];kernel_rfl
section
variable{prog:Gg}{w:Gs}{A:TL}{E:Value->Gk->Prop}{s:Gk}
theorem Qsp{z:Gc}{Q:Bool->Gk->Prop}(c:s.TypeIs (.ref z) "list_reverseiterator")(h:Q Gq s):wpAny (GY prog w) A (Builtin.List.listLengthHint (.ref z)) Q E s:=by
 unfold Builtin.List.listLengthHint;refine Gb (DO c Qlq ?_);show wpAny _ A (specialOf (Value.ref z) (Dy "__length_hint__")>>=_) _ _ _;refine Gb (DO c Qjf ?_);generalize hid:("list_reverseiterator.__length_hint__":String)=d
 wp_delta
 rw[show splitId d=Ga ("list_reverseiterator","__length_hint__")from by subst hid;decide+kernel];subst hid;refine Gb (Ez (T:="list_reverseiterator") (b:=Gf) c (by rw[isSubtype_type];kernel_rfl) ?_);refine E6 (λa=>absurd a (by decide)) (λ_=>?_);refine E6 (λ_=>?_) (λa=>absurd (by decide+kernel) a);refine E6 (λa=>absurd a (by decide+kernel)) (λ_=>?_);exact Ge h
structure Q4v(xs:Array Value)(it l S:Gc)(i:Nat)(h:Heap)(acc:List Value):Prop where
 rv:h.IsRevIter it l ((xs.size:Int) - 1 - (i:Int))
 ls:h.IsList l xs
 acc:acc=xs.toList.reverse.take i
theorem Qxc{xs:Array Value}{it l S:Gc}(p:A.handled=Gh)(hS:S≠it/\S≠l)(d:l≠it):Qn1 prog w A it S [it] xs.size (Q4v xs it l S) (λ_ acc=>acc=xs.toList.reverse):=by
 refine⟨λi s acc Q E hi st c=>?_,λs acc Q E st c=>?_,λi h h' acc st k _=>?_⟩
 ·have g:xs[xs.size - 1 - i]?=Ga xs[xs.size - 1 - i]:=Tg (by omega);have e:(xs.size:Int) - 1 - (i:Int)=((xs.size - 1 - i:Nat):Int):=by omega
  have a:=st.rv;rw[e]at a;refine Le a st.ls g λh' f j=>?_;have hl:xs.toList.reverse[i]?=Ga xs[xs.size - 1 - i]:=by rw[List.getElem?_reverse (by rw[TB];exact hi),TB,T8];exact g
  refine c _ h' s.toks ⟨?_,st.ls.extBut j.extBut d,?_⟩ λb o hb e=>j.extBut b o (λz=>hb (by simp[z])) e
  ·have m:((xs.size - 1 - i:Nat):Int) - 1=(xs.size:Int) - 1 - ((i+1:Nat):Int):=by omega
   rw[<-m];exact f
  ·rw[st.acc,List.take_add_one,hl];rfl
 ·have a:=st.rv;rw[show(xs.size:Int) - 1 - (xs.size:Int)= -1 by omega]at a;refine Lo p a λh' n=>c h' s.toks ?_ λb o hb e=>n b o (λz=>hb (by simp[z])) e;rw[st.acc,<-TB,<-List.length_reverse,List.take_length]
 ·exact⟨st.rv.at λo e=>k it o (Gp hS.1) e,st.ls.at λo e=>k l o (Gp hS.2) e,st.acc⟩
end
end PySem
namespace L2
open PySem PySem.Spec PyProof.Rows
def Q3v(K:Gd):List V->Hp->VK->Prop:=λvs H Q=>∃p xs,vs=[.ref p]/\Zd K H p xs/\∀r,H r=Gh->Q (.ref r) (zj H r (.lst xs.reverse))
theorem Qib:∀{xs:List V}{us:List Value},Zv xs us->Zv xs.reverse us.reverse
 |_,_,.nil=>.nil
 |_,_,.cons h t=>by rw[List.reverse_cons,List.reverse_cons];exact(Qib t).append (.cons h .nil)
theorem Qlw{X:Cx}{a:T3}{ta:TA}{p1 p2 pos1 pos2:SX}(hc:X.calm=Gf)(p:Gl X "list")(t:X.mg "list"=Gh)(r:Gl X "reversed")(v:X.mg "reversed"=Gh)(G:PA X [a] ta)
  (f:Te [RW (.Name "reversed" p2) [a] [] pos2] X.env=(Gq,eval (.Call (.Name "reversed" p2) [a] [] pos2) X.env)::Te [] X.env:=by rfl)(n:Te [a] X.env=(Gq,eval a X.env)::Te [] X.env:=by rfl)
  (x:(DQ pos1 (Te ([]:List T3) X.env)).any (·.1)=Gq:=by rfl)(y:(DQ pos2 (Te ([]:List T3) X.env)).any (·.1)=Gq:=by rfl):
  PE X (.Call (.Name "list" p1) [.Call (.Name "reversed" p2) [a] [] pos2] [] pos1) (tCB (Q3v X.K) ta):=by
 intro zq s σ H Q I h;refine Db (V2 I p t boot_list ?_);refine callWith_type1 ?_ f x;rw[f];show wpAny _ _ (spliced ((Gq,eval (.Call (.Name "reversed" p2) [a] [] pos2) X.env)::DQ pos1 (Te ([]:List T3) X.env))) _ _ s;refine Si ?_;refine Db (V2 I r v MJ ?_);refine callWith_type1 (Yq (G pos2 zq s σ H _ I h) λus s1⟨vs,H1,j,N,M⟩=>?_) n y;obtain⟨b,xs,rfl,i,q⟩:=M;obtain⟨u,rfl,O⟩:=vals1 N;cases(show u=Value.ref b from O);obtain⟨its,rv,pt,hz⟩:=j.list i;have hl:=rv.length;have B:b<s1.heap.objs.size:=by obtain⟨_,e,_⟩:=pt.isList;exact Heap.lt_size e
 refine LP pt.isList (EJ ?_);have hsz:(s1.heap.push (revObj b ((its.toArray.size:Int) - 1))).objs.size=s1.heap.objs.size+1:=Heap.size_push ..;have k:(s1.heap.push (revObj b ((its.toArray.size:Int) - 1))).objs.size≠s1.heap.objs.size:=by rw[hsz];exact Fw _
 have m:(s1.heap.push (revObj b ((its.toArray.size:Int) - 1))).objs.size≠b:=by rw[hsz];exact Tu (Ff B)
 refine Qh2 (s:={s1 with heap:=s1.heap.push (revObj b ((its.toArray.size:Int) - 1))}) (T:="list_reverseiterator") (hb:=Gq) (Qxc (xs:=its.toArray) (l:=b) (j.ok.hd hc) ⟨k,m⟩ (Td B)) (λc hc=>?_) (by show s1.heap.objs.size<(s1.heap.push _).objs.size;rw[hsz];exact DC _) (by rw[List.size_toArray];lia)
  (λh2 C _=>⟨?_,pt.isList.at λo e=>C _ o (Heap.get?_push_of_some _ e),by simp⟩) (λh acc st=>let⟨o,g,hc,_⟩:=st.rv;⟨o,g,hc⟩) (by decide) (by decide) (λA E h Q st i=>E1 (s:={s1 with heap:=h}) st.rv i) (λA E h Q st i=>Qsp (s:={s1 with heap:=h}) (let⟨o,g,hc,_⟩:=st.rv;⟨o,g,hc⟩) i) (λh' tk acc c J hS L g=>?_)
 ·have e:c=s1.heap.objs.size:=by simpa using hc
  rw[e];show s1.heap.objs.size<(s1.heap.push _).objs.size;rw[hsz];exact DC _
 ·have F:(its.toArray.size:Int) - 1 - ((0:Nat):Int)=(its.toArray.size:Int) - 1:=by lia
  rw[F];exact⟨_,C _ _ (Heap.get?_push_size _ Xb),Xb,Xb⟩
 ·have hS:h'.get? (s1.heap.push (revObj b ((its.toArray.size:Int) - 1))).objs.size=Ga {cls:=.type "list",dict:=Gh,data:=.seq acc c,slots:=#[]}:=hS;have d:s1.heap.objs.size<=(s1.heap.push (revObj b ((its.toArray.size:Int) - 1))).objs.size:=by rw[hsz];exact EF _
  have D:Inv X zq σ (zj H1 (s1.heap.push (revObj b ((its.toArray.size:Int) - 1))).objs.size (.lst xs.reverse)) {s1 with heap:=h',toks:=tk}:=
   j.laid (t':=tk) (λc o e=>J c o (λz=>by
    have:c=s1.heap.objs.size:=by simpa using z
    exact absurd (Heap.lt_size e) (by rw[this];exact Du _)) (Heap.get?_push_of_some _ e)) d
    (show Z3 X.prog X.w _ h' _ (.lst _)from⟨by rw[List.length_reverse];lia,acc.toList,c,by rw[g];exact Qib rv,by rw[D2];exact hS⟩)
  exact⟨.ref (s1.heap.push (revObj b ((its.toArray.size:Int) - 1))).objs.size,_,D,Xb,q _ (j.Zw.fresh d)⟩
end L2
namespace Nt
inductive Qaa:Nat->List (Nat×Nat)->Nat->Prop
 |nil (p:Nat):Qaa p [] p
 |cons {p q z:Nat} {r:List (Nat×Nat)}:Qaa q r z->Qaa p ((p,q)::r) z
theorem Qhz:∀{l:List Nat}{p z:Nat},l.head?=Ga p->l.getLast?=Ga z->Qaa p (l.zip (l.drop 1)) z
 |[],_,_,h,_=>by simp at h
 |[x],p,z,h1,h2=>by simp at h1 h2;subst h1 h2;exact .nil _
 |x::y::r,p,z,h1,h2=>by simp at h1;subst h1;have a:=Qhz (l:=y::r) (p:=y) (z:=z) rfl (by rw[List.getLast?_cons_cons]at h2;exact h2);simp only[List.drop_succ_cons,List.drop_zero,List.zip_cons_cons]at a⊢;exact .cons a
theorem Ch.last{up:Nat->Option Nat}{p:Nat}{l:List Nat}(h:Ch up p l):∃a,l=a++[Zu l]:=by have b:=h.ne;refine⟨l.dropLast,?_⟩;unfold Zu;rw[List.getLastD_eq_getLast?,List.getLast?_eq_some_getLast b];exact(List.dropLast_concat_getLast b).symm
inductive O2(up:Nat->Option Nat)(one other:Nat)(st:List (Nat×Nat)):Prop
 |mk (l1:List Nat) (l2:List Nat) (P:List Nat) (Q:List Nat) (s:List Nat) (m:Nat) (h0:Ch up one l1) (h1:Ch up other l2) (h2:l1=P++m::s) (h3:l2=Q++m::s) (h4:(P=[]\/Q=[]\/P.getLast?≠Q.getLast?)) (h5:st=(P++m::Q.reverse).zip ((P++m::Q.reverse).drop 1)):O2 up one other st
theorem Qta{P b s s':List Nat}{m c:Nat}(h:P++m::s=b++c::s')(hl:s.length<s'.length):∃u,P=b++c::u/\s'=u++m::s:=by
 rcases List.append_eq_append_iff.mp h with⟨a,h1,h2⟩|⟨a,h1,h2⟩
 ·have:=congrArg List.length h2;simp at this;cases a with
  |nil=>simp at h2;rw[h2.2]at hl;omega
  |cons y a=>simp at this;omega
 ·cases a with
  |nil=>simp at h2;rw[h2.2]at hl;omega
  |cons y a=>simp only[List.cons_append,List.cons.injEq]at h2;exact⟨a,by rw[h1,h2.1],h2.2⟩
theorem O2.uniq{up:Nat->Option Nat}{one c:Nat}{st f:List (Nat×Nat)}(a:O2 up one c st)(b:O2 up one c f):st=f:=by
 obtain⟨l1,l2,P,Q,s,m,t,w,x,y,ne,rfl⟩:=a;obtain⟨A,B,g,h,s',e,i,j,k,l,p,rfl⟩:=b;have D:=t.uniq i;have E:=w.uniq j;subst D E;have n:P++m::s=g++e::s':=by rw[<-x,k]
 have o:Q++m::s=h++e::s':=by rw[<-y,l]
 have d:∀{P Q g h s s':List Nat}{m e:Nat},P++m::s=g++e::s'->Q++m::s=h++e::s'->(P=[]\/Q=[]\/P.getLast?≠Q.getLast?)->¬s.length<s'.length:=λh1 h2 ne hl=>by
  obtain⟨u,p1,p2⟩:=Qta h1 hl;obtain⟨v,q,C⟩:=Qta h2 hl;have:u=v:=by have:=p2.symm.trans C;exact List.append_cancel_right this
  subst this;rcases ne with z|z|z
  ·rw[p1]at z;simp at z
  ·rw[q]at z;simp at z
  ·rw[p1,q,List.getLast?_append,List.getLast?_append,List.getLast?_eq_some_getLast (List.cons_ne_nil _ _)]at z;exact z rfl
 have hl:s.length=s'.length:=by have h1:=d n o ne;have h2:=d n.symm o.symm p;lia
 obtain⟨F,r⟩:=List.append_inj' n (by simp[hl]);obtain⟨G,_⟩:=List.append_inj' o (by simp[hl]);simp only[List.cons.injEq]at r;rw[F,G,r.1]
structure Way(x:Nst W ρ)(one other:Nat)(st:List (Nat×Nat)):Prop where
 path:Qaa one st other
 lk:∀p q,(p,q)∈st->∃k,x.Xf p q=Ga k/\∀n,Cn (x.links.take n) one other->k<n
 len:st.length<=2*x.S.length
 rel:O2 x.up one other st
end Nt
namespace K05
open PySem L2 Sb Nt
def Qxa(H:Hp)(v:V)(p:Nat×Nat):Prop:=∃c,v=.ref c/\H c=Ga (.tup [jv p.1,jv p.2])
inductive Qr4(P:Gg)(w:Gs)(C:Gc)(vs:List V)(H:Hp)(Q:VK):Prop
 |mk (n:Gc) (A:Na) (fs:List Fm) (tb:Nat) (x:Nn) (one:Nat) (other:Nat) (h0:vs=[.ref n,jv one,jv other]) (h1:Z6 P w C H n A fs tb x) (h2:X8 (Ye fs) (Zk fs) x []) (h3:one∈x.S) (h4:other∈x.S) (h5:x.lead one=x.lead other) (h6:x.S.length<=1000) (h7:∀(r:Gc)(es:List V)(st:List (Nat×Nat))(H':Hp),Q4 H H'->H r=Gh->H' r=Ga (.lst es)->Paired (Qxa H') es st->Way x one other st->Q (.ref r) H'):Qr4 P w C vs H Q
def Qt3(P:Gg)(w:Gs)(C:Gc):Sp:=λvs H Q _=>Qr4 P w C vs H Q
theorem Qzh(P:List Nat)(a m:Nat):atI ((P++[a,m]).map jv) (-2:Int)=Ga (jv a):=by
 unfold atI ixN;rw[Gi (by decide),Gn (by simp;lia)];have e:((-2:Int)+(((P++[a,m]).map jv).length:Int)).toNat=P.length:=by simp;lia
 rw[e];simp
theorem Q00(Q:List Nat)(m:Nat):U9 ((Q++[m]).map jv) Gh (Ga (-1:Int))=Q.map jv:=by
 unfold U9;rw[HT.Oi];have e:HT.Wn ((Q++[m]).map jv).length ((Q++[m]).map jv).length (Ga (-1:Int))=Q.length:=by show(if(-1:Int)<0 then((-1:Int)+(((Q++[m]).map jv).length:Int)).toNat else min (-1:Int).toNat ((Q++[m]).map jv).length)=_;rw[Gn (by decide)];simp;lia
 rw[e];simp
theorem Q27(l:List V):U9 l (Ga 1) Gh=l.drop 1:=by
 cases l with
 |nil=>rfl
 |cons x r=>rw[Qjo];rfl
theorem Qc8{H:Hp}:∀{es:List V}{l m:List Nat},Paired (PrV H) es ((l.map jv).zip (m.map jv))->Paired (Qxa H) es (l.zip m)
 |_,[],m,h=>by simp at h;cases h;simp;exact .nil
 |_,x::l,[],h=>by simp at h;cases h;simp;exact .nil
 |_,x::l,y::m,h=>by
  simp only[List.map_cons,List.zip_cons_cons]at h⊢;cases h with
  |cons h t=>exact .cons h (Qc8 t)
section
variable{P:Gg}{w:Gs}{K:Gd}{mg:Ta->Option Value}{base:Heap}
theorem Qyk:Qx ["self","one","other","climb","descent","stops"] ["self","one","other"] (Ql Qll):=by eq_refl
set_option hygiene false
local macro_rules
 |`(tactic|infer_instance)=>`(tactic|(
 refine⟨_,Xb,_,Xb,_,Xb,_,Xb,⟨rd,_,Xb,Zd.of ed,λr1 hr1'=>?_⟩⟩
 rw[Q00]
 have z1:=Qi (o:=.lst (_root_.List.map jv Qq)) ec (Qc ec hr1')
 refine⟨r1,_,Xb,Zd.of Qb,λr2 hr2'=>?_⟩
 have z2:=Qi (o:=.lst (_root_.List.map jv Qq).reverse) z1 (Qc z1 hr2')
 refine⟨rc,r2,_,_,Xb,Xb,z2,Qb,small (by rw[List.length_reverse,List.length_map,List.length_map,List.length_append];simp only[List.length_cons,List.length_nil];omega),λr3 hr3'=>?_⟩
 have ecat:List.map jv (Pp++[mm])++(List.map jv Qq).reverse=(Pp++mm::Qq.reverse).map jv:=by simp
 rw[ecat]
 dsimp only[Vt]
 refine⟨_,Xb,_,Xb,⟨_,Xb,⟨r3,_,Xb,Zd.of Qb,λr4 hr4'=>?_⟩⟩⟩
 rw[Q27]
 have n34:r3≠r4:=Qc Qb hr4'
 have s5:Q4 H3 (zj (zj (zj (zj H3 r1 (.lst (List.map jv Qq))) r2 (.lst (List.map jv Qq).reverse)) r3 (.lst ((Pp++mm::Qq.reverse).map jv))) r4 (.lst (((Pp++mm::Qq.reverse).map jv).drop 1))):=((Qg hr1' _).trans (Qg hr2' _)).trans ((Qg hr3' _).trans (Qg hr4' _))
 refine⟨r3,r4,_,_,Xb,.inl ⟨Zd.of (Qi Qb n34),Zd.of Qb⟩,λr es H' sm r0 hr' pr=>?_⟩
 rw[<-List.map_drop]at pr
 exact q r es _ H' (g3.trans (s5.trans sm)) (g3.free (s5.free r0)) hr' (Qc8 pr) ⟨Qhz hone hoth,λp q' hm=>I.fst.way h1 h2 k1 k2 hne p q' hm,by rw[List.length_zip,List.length_append,List.length_cons,List.length_reverse];omega,_,_,_,_,_,_,h1,h2,k1,k2,hne,Xb⟩))
set_option hygiene true
theorem Q0i{f fU C:Gc}{fd L:Ts}(F:Wd K "way" "Net.way" Qll f fd)(T:Uc K mg C)(B:Jr mg)(mU:Z9 K C "way_up" fU)(GU:Qs P w K mg base Z4 1 fU L ["self","place"] (Qoj P w C))(bU:Binds K L ["self","place"] []):
  Qs P w K mg base Z4 2 f fd ["self","one","other"] (Qt3 P w C):=by
 refine F.ok Qyk (λvs H Q E h=>?_) (λcdv A outer s H vs Q E g h=>?_)
 ·obtain⟨n,A,fs,tb,x,one,d,rfl,_⟩:=h;rfl
 obtain⟨n,A,fs,tb,x,one,d,rfl,X,I,oS,tS,he,hS,q⟩:=h;have S:Yb 1 _:=g.mono (by omega);have nd:=Qyk.nd;show∃t,Z7 ?mysWay _ t/\_;let w5:Subtype (Z7 ?mysWay ((Qj Qll).drop 4)):=⟨_,Qh (Qv (Qdr rfl rfl B.list rfl B.zip (Qa (pv 5) (Qa (Yu Vw (pv 5) (Yy Qk) Xx) Qe))))⟩
 let w4:Subtype (Z7 ?mysWay ((Qj Qll).drop 3)):=⟨_,Qd (Qt 5 nd (Zo Ul (pv 3) (Qlw rfl rfl B.list rfl B.reversed (Qa (Yu Vw (pv 4) Xx (Yy (Qbc J1 Qk))) Qe)))) w5.2⟩
 let w3:Subtype (Z7 ?mysWay ((Qj Qll).drop 2)):=⟨_,Qd (Vm Gy (PW.pt (Vs (Qr Qc4 (Qp Zc rfl B.len GO (Qa (pv 3) Qe)) Qk (Q3 _)) (Vs (Qr Qc4 (Qp Zc rfl B.len GO (Qa (pv 4) Qe)) Qk (Q3 _))
    (Wr (Qr Wu (Qo Zh (pv 3) (Qbc J1 Qk)) (Qo Zh (pv 4) (Qbc J1 Qk)) (Q3 _))))))
   (Qd (Ze (Qd8 Gu DV DW Qdy (pv 3)))
   (Qh (Ze (Qd8 Gu DV DW Qdy (pv 4)))))) w4.2⟩
 let w2:Subtype (Z7 ?mysWay ((Qj Qll).drop 1)):=⟨_,Qd (Qt 4 nd (Q9 (pv 0) T.cl mU GU S bU .nil Q6 (Qa (pv 2) Qe))) w3.2⟩
 refine⟨_,Qd (Qt 3 nd (Q9 (pv 0) T.cl mU GU S bU .nil Q6 (Qa (pv 1) Qe))) w2.2,?_⟩;obtain⟨l1,h1⟩:=I.fst.chain one oS;obtain⟨l2,h2⟩:=I.fst.chain d tS;have sub1:=I.fst.chS h1 oS;have y:=I.fst.chS h2 tS;have ag:=Xk h1.nodup sub1;have ah:=Xk h2.nodup y;obtain⟨dx,o1⟩:=X.ob;refine⟨_,Xb,n,dx,_,Xb,o1,Qi4 _,_,Xb,n,A,fs,tb,x,one,l1,Xb,X,h1,sub1,by omega,λrc H1 Y c1 e1=>?_⟩;refine⟨_,Xb,n,dx,_,Xb,Y _ _ o1,Qi4 _,_,Xb,n,A,fs,tb,x,d,l2,Xb,X.same Y,h2,y,by omega,λrd H2 g2 d2 e2=>?_⟩;have ae:=Y.trans g2;have af:H rd=Gh:=Y.free d2;have W:rc≠rd:=Qc e1 d2;have er:Zu l1=Zu l2:=(I.root one d l1 l2 oS tS h1 h2).mp he;obtain⟨P0,f1⟩:=h1.last;obtain⟨Q0,f2⟩:=h2.last;dsimp only[Vt];refine⟨λm σ H3=>XE4 λ(Pp Qq Z:List Nat)(mm:Nat)=>PA7 (m=Pp.length) (l1=Pp++mm::Z) (l2=Qq++mm::Z) (σ=[Ga (.ref n),Ga (jv one),Ga (jv d),Ga (.ref rc),Ga (.ref rd),Gh]) (Q4 H H3) (H3 rc=Ga (.lst ((Pp++[mm]).map jv))) (H3 rd=Ga (.lst ((Qq++[mm]).map jv))),
  ⟨_,P0,Q0,[],Zu l1,Xb,f1,by rw[er];exact f2,Xb,ae,by rw[<-f1];exact g2 _ _ e1,by rw[er,<-f2];exact e2⟩,?_⟩
 rintro m σ H3 ⟨Pp,Qq,Z,mm,rfl,k1,k2,rfl,g3,ec,ed⟩;have lc:((Pp++[mm]).map jv).length=Pp.length+1:=by simp
 have ld:((Qq++[mm]).map jv).length=Qq.length+1:=by simp
 have lP:Pp.length+1<=l1.length:=by rw[k1];simp
 have lQ:Qq.length+1<=l2.length:=by rw[k2];simp
 have hone:(Pp++mm::Qq.reverse).head?=Ga one:=by
  obtain⟨r,g⟩:=h1.head;rw[k1]at g;cases Pp with
  |nil=>simp at g⊢;exact g.1
  |cons a Pp=>simp at g⊢;exact g.1
 have hoth:(Pp++mm::Qq.reverse).getLast?=Ga d:=by
  obtain⟨r,g⟩:=h2.head;rw[k2]at g;rw[List.getLast?_append];have:(mm::Qq.reverse).getLast?=Ga d:=by
   cases Qq with
   |nil=>simp at g⊢;exact g.1
   |cons a Qq=>simp at g;rw[List.reverse_cons,<-List.cons_append,List.getLast?_concat,g.1]
  rw[this];rfl
 refine⟨_,Xb,rc,_,Xb,.inl (Zd.of ec),_,_,Xb,Xb,_,Xb,?_⟩;rw[lc];by_cases O:Pp=[]
 ·have hne:Pp=[]\/Qq=[]\/Pp.getLast?≠Qq.getLast?:=.inl O;rw[Gz (by rw[O];decide)];refine Zp (Zp ?_);infer_instance
 rw[GX (by have:0<Pp.length:=List.length_pos_iff.mpr O;omega)];refine Yv ⟨_,Xb,rd,_,Xb,.inl (Zd.of ed),_,_,Xb,Xb,_,Xb,?_⟩;rw[ld];by_cases R:Qq=[]
 ·have hne:Pp=[]\/Qq=[]\/Pp.getLast?≠Qq.getLast?:=.inr (.inl R);rw[Gz (by rw[R];decide)];refine Zp (Zp ?_);infer_instance
 rw[GX (by have:0<Qq.length:=List.length_pos_iff.mpr R;omega)];subst_vars;obtain⟨l,a,eP⟩:∃l a,Pp=l++[a]:=⟨Pp.dropLast,Pp.getLast O,(List.dropLast_concat_getLast O).symm⟩;obtain⟨u,b,eQ⟩:∃u b,Qq=u++[b]:=⟨Qq.dropLast,Qq.getLast R,(List.dropLast_concat_getLast R).symm⟩;and_intros;have ac:H3 rc=Ga (.lst ((l++[a,mm]).map jv)):=by rw[ec,eP];simp
 have ad:H3 rd=Ga (.lst ((u++[b,mm]).map jv)):=by rw[ed,eQ];simp
 refine Yv ⟨_,Xb,⟨_,Xb,rc,_,_,_,Xb,Xb,Zd.of ac,Qzh _ _ _,_,Xb,⟨_,Xb,rd,_,_,_,Xb,Xb,Zd.of ad,Qzh _ _ _,Xb,_,Xb,?_⟩⟩⟩;rw[Qgx];by_cases G:a=b
 ·subst G;subst eP eQ;rw[GX rfl];refine Yv ⟨_,λ_ _ h=>h,?_⟩;have U:((l++[a]++[mm]).map jv)[((l++[a]++[mm]).map jv).length - 1]?=Ga (jv mm):=by simp
  have V:((u++[a]++[mm]).map jv)[((u++[a]++[mm]).map jv).length - 1]?=Ga (jv mm):=by simp
  have aa:((l++[a]++[mm]).map jv).dropLast=(l++[a]).map jv:=by rw[List.map_append (l₂:=[mm])];simp
  have ab:((u++[a]++[mm]).map jv).dropLast=(u++[a]).map jv:=by rw[List.map_append (l₂:=[mm])];simp
  refine⟨_,Xb,.inl ⟨Xb,_,Zd.of ec⟩,rc,_,_,Xb,Xb,ec,U,?_⟩;rw[aa];have J:(zj H3 rc (.lst ((l++[a]).map jv))) rd=Ga (.lst ((u++[a]++[mm]).map jv)):=by rw[Qf (Gp W)];exact ed
  refine⟨_,Xb,.inl ⟨Xb,_,Zd.of J⟩,rd,_,_,Xb,Xb,J,V,?_⟩;rw[ab];refine⟨l.length,by simp,l,u,mm::Z,a,Xb,by rw[k1];simp,by rw[k2];simp,Xb,λc o e=>?_,?_,Qb⟩
  ·rw[Qf (Qc e af),Qf (Qc e c1)];exact g3 c o e
  ·rw[Qf W,Qb]
 ·have hne:Pp=[]\/Qq=[]\/Pp.getLast?≠Qq.getLast?:=.inr (.inr (by rw[eP,eQ,List.getLast?_concat,List.getLast?_concat];intro z;exact G (Tj z)));rw[Gz G];refine Zp ?_;infer_instance
end
end K05
namespace PySem
section
variable{prog:Gg}{w:Gs}{A:TL}{E:Value->Gk->Prop}{s:Gk}{d v:Gc}{es:Array Ep}{ep:Nat}
theorem Qpt{Q:Value->Gk->Prop}(f:s.heap.IsValuesView v d)(j:s.heap.Js d es ep)
  (h:Q (.ref s.heap.objs.size) {s with heap:=s.heap.push {cls:=.type "dict_valueiterator",data:=.fields #[.ref d,.int 0 0,.int es.size 0,.int ep 0]}}):
  wpAny (GY prog w) A (pyIter (.ref v)) Q E s:=by
 obtain⟨ov,e,i,c⟩:=id f;obtain⟨o,g,hc,a⟩:=id j;refine Sy f.typeIs F.slot_dict_values_iter (Tv F.slot_dict_values_iter f.typeIs F.entry_dict_values_iter ?_ (F.args_dict_values_iter_1 _));unfold Builtin.«dict_values.__iter__»;refine Gb (Ge ?_);refine Gb ?_;unfold Builtin.Dict_items.dictOf;refine Gb (TF e c (x:=.ref d) rfl (Ge ?_));refine Gb ?_;unfold Builtin.Dict_items.newIterator;refine Gb (Dz g a ?_);refine Gb (Ek g a ?_);have b:Builtin.Dict_items.ownsTuple "dict_valueiterator"=Gq:=by decide
 simp only[b,TM,Dq];refine Tw (Ge ⟨_,Xb,"dict_valueiterator",_,⟨_,Heap.get?_push_size _ Xb,Xb⟩,F.slot_dict_valueiterator_next.lookup,?_⟩);simpa[rawInt]using h
theorem Qo5{it:Gc}{i:Nat}{e:Ep}{Q:Option Value->Gk->Prop}(a:s.heap.IsValIter it d i es.size ep)(q:s.heap.Js d es ep)(k:es[i]?=Ga e)
  (m:∀h',h'.IsValIter it d (i+1) es.size ep->Heap.SameBut it s.heap h'->Q (Ga e.val) {s with heap:=h'}):
  wpAny (GY prog w) A (pyNext (.ref it)) Q E s:=by
 obtain⟨o,l,hc,hd⟩:=id a;obtain⟨od,g,n,f⟩:=id q;unfold pyNext;refine Gb (EW (TR (name:=Dy "__next__") a.typeIs F.slot_dict_valueiterator_next
  (Tv F.slot_dict_valueiterator_next a.typeIs F.entry_dict_valueiterator_next ?_ (F.args_dict_valueiterator_next_1 _))))
 refine Gb (Ge ?_);refine Gb ?_;refine Gb ?_;first|refine Gb (DL a.typeIs (Ge ?_))|refine Gb (Ea a.typeIs (Ge ?_))
 refine Gb (Sk l hd ?_);have j:Builtin.Dict_items.ownsTuple "dict_valueiterator"=Gq:=by decide
 simp only[j,TM,Dq];show wpAny _ _ (if(Value.ref d==Value.none)=Gf then _ else _) _ _ s;rw[Gi (show¬((Value.ref d==Value.none)=Gf)from Gx)];refine Gb (Ge ?_);refine Gb (Dz g f ?_);rw[Gi (by simp)];refine Gb (Ge ?_);refine Gb (Ek g f ?_);rw[Gi (by simp)];refine Ge ?_;have c:i<es.size:=by
  rcases Tk i es.size with h|h
  ·exact h
  ·rw[Dh h]at k;cases k
 have p:es[i]=e:=by rw[Tg c]at k;exact Tj k
 simp only[show¬((i:Int)<0)from by lia,Dq,Dl,Tg c];refine Gb ?_;first|refine Gb (DL a.typeIs (Ge ?_))|refine Gb (Ea a.typeIs (Ge ?_))
 refine Gb (ES a.typeIs ?_);show wpAny _ _ (setField (.ref it) 1 (rawInt ((i:Int)+1))>>=_) _ _ s;refine Gb (Ev l hd (by simp) ?_);have b:(s.heap.update it (EX (·.setIfInBounds 1 (rawInt ((i:Int)+1))))).IsValIter it d (i+1) es.size ep:=
  ⟨_,Heap.get?_update_self _ l (ER (DU hd _)),(Sz ..).trans hc,by rw[DU hd];simp[rawInt]⟩
 refine Gb (T4 ?_);refine Gb (ES (s:={s with heap:=s.heap.update it (EX (·.setIfInBounds 1 (rawInt ((i:Int)+1))))}) b.typeIs ?_);refine Gb (ES (s:={s with heap:=s.heap.update it (EX (·.setIfInBounds 1 (rawInt ((i:Int)+1))))}) b.typeIs ?_);show wpAny _ _ (pure es[i].val) _ _ _;rw[p];exact Ge (Ge ⟨_,Xb,Ge (m _ b (Heap.SameBut.update ..))⟩)
theorem Quw{it:Gc}{i:Nat}{Q:Option Value->Gk->Prop}(n:A.handled=Gh)(c:s.heap.IsValIter it d i es.size ep)(p:s.heap.Js d es ep)(h:es.size<=i)
  (k:∀h',Heap.ExtBut it s.heap h'->Q Gh {s with heap:=h'}):wpAny (GY prog w) A (pyNext (.ref it)) Q E s:=by
 obtain⟨o,j,hc,hd⟩:=id c;obtain⟨od,f,l,e⟩:=id p;unfold pyNext;refine Gb (EW (TR (name:=Dy "__next__") c.typeIs F.slot_dict_valueiterator_next
  (Tv F.slot_dict_valueiterator_next c.typeIs F.entry_dict_valueiterator_next ?_ (F.args_dict_valueiterator_next_1 _))))
 refine Gb (Ge ?_);refine Gb ?_;refine Gb ?_;first|refine Gb (DL c.typeIs (Ge ?_))|refine Gb (Ea c.typeIs (Ge ?_))
 refine Gb (Sk j hd ?_);have g:Builtin.Dict_items.ownsTuple "dict_valueiterator"=Gq:=by decide
 simp only[g,TM,Dq];show wpAny _ _ (if(Value.ref d==Value.none)=Gf then _ else _) _ _ s;rw[Gi (show¬((Value.ref d==Value.none)=Gf)from Gx)];refine Gb (Ge ?_);refine Gb (Dz f e ?_);rw[Gi (by simp)];refine Gb (Ge ?_);refine Gb (Ek f e ?_);rw[Gi (by simp)];refine Ge ?_;simp only[show¬((i:Int)<0)from by omega,Dq,Dl,Dh h];refine Gb ?_;first|refine Gb (DL c.typeIs (Ge ?_))|refine Gb (Ea c.typeIs (Ge ?_))
 show wpAny _ _ (setField (.ref it) 0 .none>>=_) _ _ s;refine Gb (Ev j hd (by simp) ?_);show wpAny _ _ (newExc (.type "StopIteration") []>>=_) _ _ _;refine Gb ?_;simp only[newExc,newTuple];refine Gb (Tw ?_ (by size_fits));refine Gb (m:=firstArgMember _ _) (Fy (a:=Value.none) (by first|rfl|(simp only[firstArgMember];rfl)) ?_);refine Tw ?_ (by size_fits);simp only[raiseNew];refine Gb (LC ?_);rw[show A.in1.handled=Gh from n];refine Gb (Ge (Fz ?_));refine Gb (Ez (T:="StopIteration") (b:=Gf) ⟨_,Heap.get?_push_size _ Xb,Xb⟩ Ll ?_);exact Ge (k _ (((Heap.SameBut.update ..).extBut.push _).push _))
theorem Walks.Qxq(m:A.handled=Gh)(I d:Gc)(j:d≠I)(es:Array Ep)(ep:Nat):
  Walks prog w A I [I,d] [I] es.size (λi v=>∃e,es[i]?=Ga e/\v=e.val) (λi h=>h.IsValIter I d i es.size ep/\h.Js d es ep) where
 sub:=λb hb=>by simp at hb;simp[hb]
 frame:=λ_ _ _ st k=>⟨st.1.at λo e=>k I (by simp) o e,st.2.at λo e=>k d (by simp) o e⟩
 item:=λi s Q E hi st a=>by have l:es[i]?=Ga es[i]:=Tg hi;refine Qo5 st.1 st.2 l λh' c f=>?_;exact a _ h' s.toks ⟨_,l,Xb⟩ ⟨c,st.2.at λo e=>(f.2 d j).trans e⟩ λb o hb e=>f.extBut b o (λh=>hb (by simp[h])) e
 done:=λs Q E st a=>Quw m st.1 st.2 (Gm _) λh' g=>a h' s.toks λb o hb e=>g b o (λh=>hb (by simp[h])) e
 self:=λ_ _ _ _ st a=>wpAny_pyIter_valiter st.1 a
theorem Quz:FN prog w "dict_values" v d es.size (λi x=>∃e,es[i]?=Ga e/\x=e.val) (λh=>h.IsValuesView v d/\h.Js d es ep) where
 type:=λ_ a=>a.1.typeIs
 there:=λ_ a=>⟨let⟨_,ho,_⟩:=a.1;Heap.lt_size ho,a.2.lt⟩
 keep:=λ_ _ a c=>⟨let⟨o,ho,x⟩:=a.1;⟨o,c v (.inl Xb) o ho,x⟩,a.2.at λo e=>c d (.inr Xb) o e⟩
 notList:=by decide
 notTuple:=by decide
 hint:=λ_ _ _ _ a b=>MV a.1.typeIs b
 iter:=λ_ _ f a=>⟨_,_,(λ_ _ b=>Qpt a.1 a.2 b),Walks.Qxq f _ d (Td a.2.lt) es ep,⟨⟨_,Heap.get?_push_size _ Xb,Xb,Xb⟩,a.2.at λo e=>Heap.get?_push_of_some _ e⟩⟩
end
end PySem
namespace L2
open PySem PySem.Spec PyProof.Rows
variable{P:Gg}{w:Gs}{H:Hp}{X:Cx}{σ:St}{a:Gc}{zw:List (Xv×V)}{tg:T3}
def vvw(v d:Gc):HO:=.ext λh=>h.IsValuesView v d
theorem Q1e{h:Heap}{v d:Gc}(x:h.IsValuesView v d):Z3 P w H h v (vvw v d):=by
 refine⟨x,?_,?_⟩
 ·obtain⟨o,a,_⟩:=x;exact⟨o,a⟩
 ·rintro h1 h2 ⟨o,a,r⟩ k;exact⟨o,k o a,r⟩
section
variable{X:Cx}{o:T3}{to:TE}{name:Ta}{apos cpos:SX}{id:String}{r:V->List V->Hp->VK->Prop}
def Q2m(P:Gg)(w:Gs)(r:V->List V->Hp->VK->Prop)(to:TE):TE:=λσ H Q=>to σ H λx H1=>(∃d zw,x=.ref d/\H1 d=Ga (Ut P w d zw))/\r x [] H1 Q
theorem Qws(slot:Slot "dict" name id)(c:typeOf (.builtin id)=pure (.type "method_descriptor"))(g:MtR X id r)(i:PE X o to)
  (a:attributeBase o name X.env (eval o X.env)=eval o X.env:=by rfl)(b:(apos.endLine==cpos.line)=Gf:=by rfl):PE X (.Call (.Attribute o name apos) [] [] cpos) (Q2m X.prog X.w r to):=by
 intro zq s σ H Q I h;refine SI a b (Yq (i zq s σ H _ I h) λv s1⟨x,H1,e,k,ty,j⟩=>?_);obtain⟨d,zw,rfl,f⟩:=ty;cases(show v=Value.ref d from k);obtain⟨h1,h2⟩:=Qkk e f;exact⟨"dict",id,Ef,slot,c,h1,h2,Ei rfl (Lu (g zq s1 σ H1 (.ref d) [] _ [] Q e rfl .nil j))⟩
inductive Qtg(P:Gg)(w:Gs)(x:V)(vs:List V)(H:Hp)(Q:VK):Prop
 |mk (d:_) (zw:_) (h0:x=.ref d) (h1:vs=[]) (h2:DH P w H d zw) (h3:∀v,H v=Gh->Q (.ref v) (zj H v (vvw v d))):Qtg P w x vs H Q
def Q1s(P:Gg)(w:Gs):V->List V->Hp->VK->Prop:=λx vs H Q=>Qtg P w x vs H Q
theorem Qwr:MtR X "dict.values" (Q1s X.prog X.w):=by intro zq s σ H x vs v us Q I c rv h;obtain⟨d,zw,rfl,rfl,D,q⟩:=h;cases(show v=Value.ref d from c);cases rv;obtain⟨z,hd,ys,rel,o,es,ep,h1,h2,e,f,nodup⟩:=Qad I D.at_;have b:s.TypeIs (.ref d) "dict":=⟨o,h1,h2.1⟩;refine Tv SG b Mj ?_ (FT _);refine Gb ?_;unfold Builtin.Dict.noArgs;refine Gb (EO b ?_);show wpAny _ _ (pure d) _ _ s;refine Ge ?_;show wpAny _ _ (Builtin.Dict.showsAll d>>=_) _ _ s;unfold Builtin.Dict.showsAll;rw[Gi (by rw[hd];exact Gx)];refine Gb (Ge ?_);refine Gb (Tw (Ge ⟨_,Xb,?_⟩));exact⟨.ref s.heap.objs.size,_,I.laid (a:=s.heap.objs.size) (o:=vvw s.heap.objs.size d) (t':=s.toks) (λ_ _ q=>Heap.get?_push_of_some _ q) (Gm _) (Q1e ⟨_,Heap.get?_push_size _ Xb,Xb,Xb⟩),Xb,q _ (I.Zw.fresh (Gm _))⟩
theorem Qen(hc:X.calm=Gf):V9 X (.type "list") (λxs H Q=>∃v d zw,xs=[.ref v]/\H v=Ga (vvw v d)/\DH X.prog X.w H d zw/\∀l,H l=Gh->Q (.ref l) (zj H l (.lst (zw.map λp=>p.2.2)))):=by
 intro zq s σ H xs us Q I r h;obtain⟨v,d,zw,rfl,k,D,q⟩:=h;obtain⟨u,rfl,F⟩:=vals1 r;cases(show u=Value.ref v from F);obtain⟨z,hd,ys,rel,o,es,ep,h1,h2,A,m,nodup⟩:=Qad I D.at_;have n:s.heap.IsValuesView v d:=(I.Zw v _ k).1;have e:es.size=zw.length:=by rw[Gr rel,<-List.length_map (f:=entryOfKey (Vq X.prog X.w)),<-m,TB]
 refine Fv (Quz (es:=es) (ep:=ep)) (I.ok.hd hc) ⟨n,o,h1,h2,A⟩ (by rw[e];exact z) λh' tk a y kp hS b=>?_;have g:(zw.map λp=>p.2.2).length<=Gj:=by rw[List.length_map];exact z
 have k:Zv (zw.map λp=>p.2.2) a.toList:=by
  have j:es.toList.map (·.val)=ys.map λq=>q.2.2:=by rw[m,List.map_map];rfl
  have c:a.toList=es.toList.map (·.val):=by
   refine List.ext_getElem? λi=>?_;by_cases hi:i<a.size
   ·obtain⟨en,B,k⟩:=b.2 i a[i] (Tg hi);rw[T8,Tg hi,List.getElem?_map,T8,B,k];rfl
   ·have hsz:=b.1;rw[List.getElem?_eq_none (by simp;lia),List.getElem?_eq_none (by simp;lia)]
  rw[c,j];clear q z m j c g e b D nodup;induction rel with
  |nil=>exact .nil
  |@cons p q ps G C t E=>rw[List.map_cons,List.map_cons];exact .cons C.2.2 E
 have x:Inv X zq σ (zj H s.heap.objs.size (.lst (zw.map λp=>p.2.2))) {s with heap:=h',toks:=tk}:=
  I.laid (t':=tk) kp (Gm _) (show Z3 X.prog X.w _ h' _ (.lst _)from⟨g,a.toList,y,k,by rw[D2];exact hS⟩)
 exact⟨.ref s.heap.objs.size,_,x,Xb,q _ (I.Zw.fresh (Gm _))⟩
end
def Pln:HO->Prop
 |.dK _=>True
 |.frz _ (.dK _)=>True
 |_=>False
theorem Inv.swap{zq:List (Gc×Eg)}{s:Gk}{u d:HO}(I:Inv X zq σ H s)(e:H a=Ga u)(f:Pln u)(k:Pln d)(hz:∀o v,X.H₀ a≠Ga (.frz o v))(new:Z3 X.prog X.w (zj H a d) s.heap a d):Inv X zq σ (zj H a d) s:=by
 have nn:∀b,H b=Gh->b≠a:=λb hb z=>by rw[z,e]at hb;cases hb
 have tp:∀b xs,H b=Ga (.tup xs)->b≠a:=λb xs hb z=>by rw[z,e]at hb;cases hb;exact f
 have r:∀b y,H b=Ga (.own y)->b≠a:=λb xs hb z=>by rw[z,e]at hb;cases hb;exact f
 have tb:∀b ps,H b=Ga (.tbl ps)->b≠a:=λb xs hb z=>by rw[z,e]at hb;cases hb;exact f
 refine⟨I.ok,I.os,I.bare,⟨I.base.keep,I.base.slot,λb o i n l=>?_,I.base.there,λb xs h=>?_,λb o v h=>?_,λb ps h=>?_⟩,I.loc,I.cell,?_,λx c h=>?_,λp h=>?_,λb o h=>?_,I.len⟩
 ·have:=I.base.free b o i n l;rw[Qf (nn b this)];exact this
 ·have:=I.base.Qm b xs h;rw[Qf (tp b xs this)];exact this
 ·have ne:b≠a:=λz=>hz o v (z▸h);rw[Qf ne];exact I.base.R8 b o v h
 ·obtain⟨m,g⟩:=I.base.Qbt b ps h;exact⟨m,by rw[Qf (tb _ _ g)];exact g⟩
 ·rw[Qf (nn _ I.free)];exact I.free
 ·rw[Qf (nn _ (I.Jn x c h))];exact I.Jn x c h
 ·obtain⟨h1,h2,j⟩:=I.pin p h;exact⟨h1,by rw[Qf (nn _ h2)];exact h2,j⟩
 ·by_cases hb:b=a
  ·subst hb;rw[Qb]at h;cases h;exact new
  ·rw[Qf hb]at h;exact(I.Zw b o h).Qkm (λc v _ q=>q) (λc q=>by rw[Qf (r c b q)];exact q) λc xs q=>by rw[Qf (tp c xs q)];exact q
def fz(o:Eg)(zw:List (Xv×V)):HO:=.frz o (.dK zw)
theorem Qw9{H':Hp}{h:Heap}(x:Z3 P w H h a (.dK zw)):Z3 P w H' h a (.dK zw):=x
def ItF(a:Gc)(o:Eg)(zw:List (Xv×V)):It:=⟨λi H=>i<zw.length/\H a=Ga (fz o zw),λi H x H'=>H'=H/\∃p,zw[i]?=Ga p/\x=kV p.1,λi H=>zw.length<=i/\H a=Ga (fz o zw)⟩
theorem Qz1{k:Xv}{u:Value}(h:Qdc k u=Gf):RelV (kV k) u:=by
 rcases Y0 h with⟨i,t,rfl,rfl⟩|⟨x,t,rfl,rfl⟩
 ·exact⟨t,Xb⟩
 ·exact⟨t,Xb⟩
theorem Qz6{vs:List (Xv×Value)}(r:KV zw vs){i:Nat}{p:Xv×V}(h:zw[i]?=Ga p):∃u,vs[i]?=Ga (p.1,u):=by
 unfold KV at r;induction r generalizing i with
 |nil=>simp at h
 |@cons a b e bs c t d=>
  cases i with
  |zero=>simp at h;subst h;obtain⟨b1,b2⟩:=b;exact⟨b2,by simp[c.1]⟩
  |succ i=>simp only[List.getElem?_cons_succ]at h⊢;exact d h
theorem Qqd{K:Gd}(a it:Gc)(o:Eg)(zw:List (Xv×V))(es:Array Ep)(ep:Nat)(p:o.data=.dict es ep):Qgs P w K tg (ItF a o zw) [it] it (λi h=>h.IsKeyIter it a i zw.length ep) where
 mem:=by simp
 obj:=λi h st b hb=>by
  have e:b=it:=by simpa using hb
  subst e;obtain⟨o,e,c,d⟩:=st;exact⟨o,e,λv z=>by rw[d]at z;cases z⟩
 keep:=λi h h' st k=>st.at λo e=>k it (by simp) o e
 item:=by
  intro X F hw D hc i zq s σ H E I n st G;subst F hw D;obtain⟨hi,J⟩:=G;obtain⟨h1,z,hd,vs,rel,q⟩:=I.Zw a _ J;obtain⟨r,o',t,g,j,f,L⟩:=q.dictAt;rw[h1]at g;cases g;rw[p]at f;cases f;have M:zw[i]?=Ga zw[i]:=List.getElem?_eq_getElem hi;obtain⟨u,Y⟩:=Qz6 rel M;obtain⟨x,y,T,A,B,C⟩:=n it (by simp);have m:s.heap.IsKeyIter it a i vs.length ep:=by rw[<-rel.length];exact st
  refine wpAny_pyNext_dict_item (knd:=Ym X.prog X.w) m ⟨o,es,h1,j,p,L⟩ Y λkey h' U l Z=>?_;have N:Inv X zq σ H {s with heap:=h'}:=I.turned (t':=s.toks) (λb o hb e=>(Z.2 b hb).trans e) x y A B C;rw[<-rel.length]at l;obtain⟨o2,R,O,Q⟩:=id l;exact⟨key,Xb,Qfl (s:={s with heap:=h'}) R O Q (by decide) ⟨kV zw[i].1,H,N,Qz1 U,⟨Xb,_,M,Xb⟩,l,λb hb=>(n b hb).1⟩⟩
 done:=by
  intro X F hw D hc i zq s σ H E I n st G;subst F hw D;obtain⟨hi,J⟩:=G;obtain⟨h1,z,hd,vs,rel,q⟩:=I.Zw a _ J;obtain⟨r,o',t,g,j,f,L⟩:=q.dictAt;rw[h1]at g;cases g;rw[p]at f;cases f;obtain⟨x,y,T,A,B,C⟩:=n it (by simp);have hl:zw.length=vs.length:=rel.length;have m:s.heap.IsKeyIter it a i vs.length ep:=by rw[<-hl];exact st
  exact wpAny_pyNext_dict_end (knd:=Ym X.prog X.w) (I.ok.hd hc) m ⟨o,es,h1,j,p,L⟩ (List.getElem?_eq_none (by lia)) λh' S=>⟨Xb,I.turned (t':=s.toks) (λb o hb e=>S b o hb e) x y A B C⟩
 self:=λ_ _ _ _ _ st h=>Lm st h
inductive Qsd(R:It->Hp->Prop)(x:V)(H1:Hp):Prop
 |mk (a:_) (zw:_) (h0:x=.ref a) (h1:((H1 a=Ga (.dK zw)/\∀o,R (ItF a o zw) (zj H1 a (fz o zw))))):Qsd R x H1
def Q2w(te:TE):TI:=λσ H R=>te σ H λx H1=>Qsd R x H1
inductive Qrw(t:TS)(D:Ends)(σ:St)(H:Hp):Prop
 |mk (a:_) (zw:_) (h0:H a=Ga (.dK zw)) (h1:t {nx:=(λσ' H'=>∃o,H' a=Ga (fz o zw)/\D.nx σ' (zj H' a (.dK zw))),rt:=(λv H'=>∃o,H' a=Ga (fz o zw)/\D.rt v (zj H' a (.dK zw))),bk:=(λσ' H'=>∃o,H' a=Ga (fz o zw)/\D.bk σ' (zj H' a (.dK zw))),ct:=(λσ' H'=>∃o,H' a=Ga (fz o zw)/\D.ct σ' (zj H' a (.dK zw)))} σ H):Qrw t D σ H
def Q3g(t:TS):TS:=λD σ H=>Qrw t D σ H
section
variable{X:Cx}{tg:T3}
theorem Inv.Q21{zq:List (Gc×Eg)}{s:Gk}(I:Inv X zq σ H s)(e:H a=Ga (.dK zw)):∀o v,X.H₀ a≠Ga (.frz o v):=λo v z=>by rw[I.base.R8 a o v z]at e;cases e
theorem Qnd{e:T3}{te:TE}(k:PE X e te):PI X tg e (Q2w te):=by
 intro zq s σ H R I h;refine Yq (k zq s σ H _ I h) λv s1⟨x,H1,d,m,l⟩=>?_;obtain⟨a,zw,e,g,q⟩:=l;subst e;cases m;obtain⟨z,hd,vs,rel,i⟩:=Qot d.Zw g;obtain⟨ep,o,es,j,hc,c,r⟩:=i.dictAt;refine wpAny_pyIter_dict (knd:=Ym X.prog X.w) hd ⟨o,es,j,hc,c,r⟩ ?_;have f:Inv X zq σ (zj H1 a (fz o zw)) s1:=d.swap g trivial trivial (d.Q21 g) ⟨j,z,hd,vs,rel,i⟩;refine⟨s1.heap.objs.size,[s1.heap.objs.size],_,_,_,Xb,f.kept (t':=s1.toks) λb o e=>Heap.get?_push_of_some _ e,Qqd a _ o zw es ep c,?_,λb hb=>?_,q o⟩
 ·rw[rel.length];exact⟨_,Heap.get?_push_size _ Xb,Xb,Xb⟩
 ·have e:b=s1.heap.objs.size:=by simpa using hb
  subst e;exact f.Qii (Gm _) (f.Zw.fresh (Gm _))
theorem Qnt{st:T6}{t:TS}(h:PS X st t):PS X st (Q3g t):=by
 intro zq s σ H D I i;obtain⟨a,zw,e,q⟩:=i;have j:=I.Q21 e;have un:∀{b:St}{H':Hp}{s':Gk}{o:Eg},Inv X zq b H' s'->H' a=Ga (fz o zw)->Inv X zq b (zj H' a (.dK zw)) s':=λc d=>c.swap d trivial trivial j (by obtain⟨_,r⟩:=c.Zw a _ d;exact Qw9 r)
 refine Yq (h zq s σ H _ I q) λf s' r=>?_;cases f with
 |next=>obtain⟨b,H',c,o,d,g⟩:=r;exact⟨b,_,un c d,g⟩
 |cont=>obtain⟨b,H',c,o,d,g⟩:=r;exact⟨b,_,un c d,g⟩
 |brk=>obtain⟨b,H',c,o,d,g⟩:=r;exact⟨b,_,un c d,g⟩
 |ret v=>obtain⟨x,b,H',c,k,o,d,g⟩:=r;exact⟨x,b,_,un c d,k,g⟩
end
theorem Qj0{o:Eg}{g:TG}{tb:TS}{D:Ends}(Pv:Nat->St->Hp->Prop)(j:Pv 0 σ H)(hl:∀i σ H,i<=zw.length->Pv i σ H->H a=Ga (fz o zw))
  (k:∀i p σ H,zw[i]?=Ga p->Pv i σ H->g (kV p.1) σ H λc H2=>tb {D with nx:=Pv (i+1),ct:=Pv (i+1),bk:=D.nx} c H2)(hd:∀σ H,Pv zw.length σ H->D.nx σ H):
  ∃W:Nat->Nat->St->Hp->Prop,(∃m,W 0 m σ H)/\∀i m σ H,W i m σ H->
   ((ItF a o zw).stop i H/\D.nx σ H)\/((ItF a o zw).go i H/\∃N:St->Hp->Prop,(∀b H',N b H'->∃f,f<m/\W (i+1) f b H')/\∀x H',(ItF a o zw).yld i H x H'->g x σ H' λc H2=>tb {D with nx:=N,ct:=N,bk:=D.nx} c H2):=by
 refine⟨λi m σ H=>m=zw.length - i/\i<=zw.length/\Pv i σ H,⟨zw.length,by simp,Gw _,j⟩,?_⟩;rintro i m σ H ⟨rfl,hi,p⟩;have q:=hl i σ H hi p;by_cases d:i<zw.length
 ·refine .inr ⟨⟨d,q⟩,Pv (i+1),λb H' n=>⟨zw.length - (i+1),by omega,Xb,d,n⟩,λx H' y=>?_⟩;obtain⟨e,y,l,h⟩:=y;subst e h;exact k i y σ _ l p
 ·have e:i=zw.length:=by omega
  subst e;exact .inl ⟨⟨Gm _,q⟩,hd σ H p⟩
def Itd(lo:Int)(n:Nat):It:=⟨λi _=>i<n,λi H x H'=>H'=H/\x=.int (lo - i),λi _=>n<=i⟩
theorem Qpa{K:Gd}(it:Gc)(lo:Int)(n:Nat):Qgs P w K tg (Itd lo n) [it] it (λi h=>Lg h it (lo+(i:Nat)*(-1)) ((n:Int) - (i:Nat)) (-1)) where
 mem:=by simp
 obj:=λi h st b hb=>by
  have e:b=it:=by simpa using hb
  subst e;exact⟨_,st,λv z=>by have B:Nu _=RI v:=z;cases B⟩
 keep:=λi h h' st k=>k it (by simp) _ st
 item:=by intro X p hw m hc i zq s σ H E I c st q;subst p hw m;obtain⟨d,f,x,g,j,l⟩:=c it (by simp);have W:=Nv (prog:=X.prog) (w:=X.w) (I.ok.hd hc) it lo (-1) n;refine W.item i s _ _ q st λv h' tk y a A=>?_;obtain⟨t,rfl⟩:=y;have r:Inv X zq σ H {s with heap:=h',toks:=tk}:=I.turned (λb o hb e=>A b o (by simpa using hb) e) d f g j l;refine⟨_,Xb,Qfl (s:={s with heap:=h',toks:=tk}) (n:="range_iterator") a rfl rfl (by decide) ⟨.int (lo - i),H,r,⟨t,?_⟩,⟨Xb,Xb⟩,a,λb hb=>(c b hb).1⟩⟩;congr 1;lia
 done:=by intro X p hw m hc i zq s σ H E I c st q;subst p hw m;obtain⟨d,f,x,g,j,l⟩:=c it (by simp);exact SO (I.ok.hd hc) st (by have:n<=i:=q;lia) λh' u=>⟨Xb,I.turned (t':=s.toks) (λb o hb e=>u b o hb e) d f g j l⟩
 self:=λ_ _ _ _ _ st h=>SQ st h
theorem rangeSize_down(n:Nat):Builtin.Range.rangeSize ((n:Int) - 1) (-1) (-1)=n:=by unfold Builtin.Range.rangeSize;simp only[show¬((-1:Int)>0) by decide,Dq,show -(-1:Int)=1 by decide,M8];split<;>lia
theorem small_down{n:Nat}(h:n<=1000000):Builtin.Range.small ((n:Int) - 1) (-1) (-1)=Gf:=by unfold Builtin.Range.small;rw[rangeSize_down];simp only[Builtin.Range.rangeFitsLong,Tn,Bool.or_eq_true,decide_eq_true_eq,Sh,show¬((-1:Int)>0) by decide,Dq];lia
inductive Qsy(R:It->Hp->Prop)(vs:List V)(H1:Hp):Prop
 |mk (n:Nat) (h0:vs=[.int ((n:Int) - 1),.int (-1),.int (-1)]) (h1:n<=1000000) (h2:R (Itd ((n:Int) - 1) n) H1):Qsy R vs H1
def Q14(ta:TA):TI:=λσ H R=>ta σ H λvs H1=>Qsy R vs H1
theorem Qxj{a b c:T3}{ta:TA}{p pos:SX}(v:Gl X "range")(w:X.mg "range"=Gh)(u:PA X [a,b,c] ta)(y:Te [a,b,c] X.env=[(Gq,eval a X.env),(Gq,eval b X.env),(Gq,eval c X.env)]:=by rfl)(f:Te [b,c] X.env=[(Gq,eval b X.env),(Gq,eval c X.env)]:=by rfl):
  PI X tg (.Call (.Name "range" p) [a,b,c] [] pos) (Q14 ta):=by
 intro zq s σ H R I h;refine Bd (V2 I v w NP (Ds (Yq (u pos zq s σ H _ I h) λus s1⟨vs,H1,k,B,z⟩=>?_) (by rw[y,f]) (by rw[f];rfl)));obtain⟨n,e,x,q⟩:=z;subst e;cases B with
 |cons r g=>
  cases g with
  |cons A g=>
   cases g with
   |cons j g=>
    cases g;obtain⟨t,rfl⟩:=r;obtain⟨t',rfl⟩:=A;obtain⟨d,rfl⟩:=j;refine call_range_3 (by decide) ?_ (.inl (SR (by omega)));refine LH (Nw ..) (small_down x) ?_;have i:Inv X zq σ H1 {s1 with heap:=s1.heap.push {cls:=.type "range",data:=.fields #[.int ((n:Int) - 1) t,.int (-1) t',.int (-1) d]},toks:=s1.toks}:=k.kept λb o e=>Heap.get?_push_of_some _ e;refine⟨(s1.heap.push {cls:=.type "range",data:=.fields #[.int ((n:Int) - 1) t,.int (-1) t',.int (-1) d]}).objs.size,[(s1.heap.push {cls:=.type "range",data:=.fields #[.int ((n:Int) - 1) t,.int (-1) t',.int (-1) d]}).objs.size],_,_,H1,Xb,
     i.kept (t':=s1.toks) λb o e=>Heap.get?_push_of_some _ e,Qpa _ ((n:Int) - 1) n,?_,λb hb=>?_,q⟩
    ·have l:((n:Int) - 1)+((0:Nat):Int)*(-1)=(n:Int) - 1:=by simp
     have m:(n:Int) - ((0:Nat):Int)=Builtin.Range.rangeSize ((n:Int) - 1) (-1) (-1):=by rw[rangeSize_down];simp
     show Lg _ _ (((n:Int) - 1)+((0:Nat):Int)*(-1)) ((n:Int) - ((0:Nat):Int)) (-1);rw[l,m];exact Heap.get?_push_size _ rfl
    ·have e:b=(s1.heap.push {cls:=.type "range",data:=.fields #[.int ((n:Int) - 1) t,.int (-1) t',.int (-1) d]}).objs.size:=by simpa using hb
     subst e;exact i.Qii (Gm _) (i.Zw.fresh (Gm _))
theorem Qrz{lo:Int}{n:Nat}{g:TG}{tb:TS}{D:Ends}(Pv:Nat->St->Hp->Prop)(f:Pv 0 σ H)
  (h:∀i σ H,i<n->Pv i σ H->g (.int (lo - i)) σ H λc H2=>tb {D with nx:=Pv (i+1),ct:=Pv (i+1),bk:=D.nx} c H2)(hd:∀σ H,Pv n σ H->D.nx σ H):
  ∃W:Nat->Nat->St->Hp->Prop,(∃m,W 0 m σ H)/\∀i m σ H,W i m σ H->
   ((Itd lo n).stop i H/\D.nx σ H)\/((Itd lo n).go i H/\∃N:St->Hp->Prop,(∀b H',N b H'->∃d,d<m/\W (i+1) d b H')/\∀x H',(Itd lo n).yld i H x H'->g x σ H' λc H2=>tb {D with nx:=N,ct:=N,bk:=D.nx} c H2):=by
 refine⟨λi m σ H=>m=n - i/\i<=n/\Pv i σ H,⟨n,by simp,Gw _,f⟩,?_⟩;rintro i m σ H ⟨rfl,hi,p⟩;by_cases a:i<n
 ·refine .inr ⟨a,Pv (i+1),λb H' j=>⟨n - (i+1),by omega,Xb,a,j⟩,λx H' y=>?_⟩;obtain⟨e,y⟩:=y;subst e y;exact h i σ _ a p
 ·have e:i=n:=by omega
  subst e;exact .inl ⟨Gm _,hd σ H p⟩
inductive Qjh(vs:List V)(H:Hp)(Q:VK):Prop
 |mk (d:_) (zw:_) (ks:_) (h0:vs=[.ref d]) (h1:H d=Ga (.dK zw)) (h2:zw.map (·.1)=ks.map Sc) (h3:zw.length<64) (h4:∀(r:Gc)(ns:List Int),H r=Gh->ns.Perm ks->ns.Pairwise (·<=·)->Q (.ref r) (zj H r (.lst (ns.map V.int)))):Qjh vs H Q
def Qvx:List V->Hp->VK->Prop:=λvs H Q=>Qjh vs H Q
theorem Qxt{h:Heap}:∀{zw:List (Xv×V)}{vs:List (Xv×Value)}{a:List Int}{acc:List Value},KV zw vs->zw.map (·.1)=a.map Sc->acc.length=vs.length->(∀(i:Nat)(u:Value),acc[i]?=Ga u->∃k x,vs[i]?=Ga (k,x)/\(Ym P w).is k u=Gf)->SW acc a:=by
 intro zw;induction zw with
 |nil=>
  intro vs a acc t e hl _;cases t;cases acc with
  |cons=>cases hl
  |nil=>
   cases a with
   |nil=>exact .nil
   |cons=>cases e
 |cons p zw g=>
  intro vs a acc t e hl b;cases t with
  |cons r t=>
   cases a with
   |nil=>cases e
   |cons k a=>
    cases acc with
    |nil=>cases hl
    |cons u acc=>
     simp only[List.map_cons,List.cons.injEq]at e;obtain⟨j,x,c,d⟩:=b 0 u rfl;simp at c;have:j=Sc k:=by rw[<-e.1,r.1,c]
     subst this;obtain⟨t',rfl⟩:=Value.isInt_shape (k:=k) (v:=u) d;exact .cons _ _ (g t e.2 (by simpa using hl) λi u f=>b (i+1) u f)
theorem Qqe{acc:List Value}{a:List Int}(h:SW acc a):Zv (a.map V.int) acc:=by
 induction h with
 |nil=>exact .nil
 |cons n t r b=>exact .cons ⟨_,Xb⟩ b
theorem Qjs(hc:X.calm=Gf):V9 X (.builtin "sorted") Qvx:=by
 intro zq s σ H xs us Q I r h;obtain⟨d,zw,B,rfl,L,y,hl,q⟩:=h;obtain⟨u,rfl,N⟩:=vals1 r;cases(show u=Value.ref d from N);obtain⟨z,hd,vs,rel,G⟩:=Qot I.Zw L;obtain⟨ep,l⟩:=G.dictAt;have c:zw.length=vs.length:=rel.length;refine So kind_sorted plain_sorted entry_sorted (args_sorted1 _) ?_;unfold Builtin.«sorted»;refine Gb (m:=checkCount "sorted" 1 1 _) (Ge ?_);refine Gb (NJ (A:=X.A.in1) (RX (knd:=Ym X.prog X.w) (kvs:=vs) (ep:=ep) hd) (I.ok.hd hc) l (by rw[<-c];exact z) λh' tk acc p f=>?_);have g:acc.toList.length=vs.length:=by rw[TB];exact f.1
 have J:SW acc.toList B:=Qxt (P:=X.prog) (w:=X.w) (h:=h') rel y g λi u M=>f.2 i u (by rw[<-T8];exact M);have v:Inv X zq σ H {s with heap:=h',toks:=tk}:=I.kept p;refine Gb (wpAny_newList ?_ (by rw[g,<-c];exact z));have n:(h'.push {cls:=.type "list",data:=.seq acc.toList.toArray}).get? h'.objs.size=Ga (seqObj "list" acc.toList.toArray 0):=Heap.get?_push_size _ rfl;refine Gb (T4 ?_);refine Tv Nh ⟨_,n,Xb⟩ MX ?_ (MO _);refine list_sort_tree n J (by rw[g,<-c];exact hl) λout j D x E=>?_;refine⟨_,Xb,?_⟩;refine Ge ⟨_,Xb,?_⟩;obtain⟨e,K⟩:=sortedHeap_at (out:=out) n;have keep:∀b o,h'.get? b=Ga o->(sortedHeap (h'.push {cls:=.type "list",data:=.seq acc.toList.toArray}) h'.objs.size acc.toList out).get? b=Ga o:=λb o k=>by rw[sortedHeap_old (Td (Heap.lt_size k)) (by rw[size_push'];exact Ff (Heap.lt_size k))];exact Heap.get?_push_of_some _ k
 have t:j.length<=Gj:=by
  rw[x.length_eq];have:B.length=zw.length:=by have:=congrArg List.length y;simpa using this.symm
  rw[this];exact z
 have C:=v.laid (a:=h'.objs.size) (o:=.lst (j.map V.int)) (t':=tk) keep (Gm _) ⟨by rw[List.length_map];exact t,out.toList,e,Qqe D,by rw[D2];exact K⟩;exact⟨.ref h'.objs.size,_,C,Xb,q _ _ (v.Zw.fresh (Gm _)) x E⟩
end L2
namespace K05
open PySem L2 Sb Nt
variable{X:Gc->Prop}{H H' H1 H0:Hp}{v:V}{k a b p q tb m j:Nat}{fs:List Fm}{x:Nn}{N:Nat->Nat->Option Nat}{u t:Th}{S ts U:List Th}{f C r n L d D fW fB M fR fL f0 fI fN CP CB fC fA:Gc}{fd fdW fdB fdR fdL fdI fdN fdA:Ts}{A:Na}{lks:List Lk}{xs ys:List V}{P:Gg}{w:Gs}{ens:List En}{tl:Tl}{α:Type}{ds:List TH}{K:Gd}
inductive Qe4(C:Gc)(vs:List V)(H:Hp)(Q:VK):Prop
 |mk (n:Gc) (A:Na) (fs:List Fm) (x:Nn) (p:Nat) (h0:vs=[.ref n,jv p]) (h1:(∃dx,H n=Ga (.ins C dx (Y9 A)))) (h2:(∃ws,H A.f=Ga (.lst ws)/\Paired (Ra H) ws fs)) (h3:Rd H A.l (.dK (dS x.S λp=>jv (x.lead p)))) (h4:p<fs.length) (h5:(∀q∈Zk fs p,q∈x.S)) (h6:(Zk fs p).length<=1000000) (h7:∀(c:Gc)(H':Hp),Q4 H H'->H c=Gh->Ra H' (.ref c) (Zj (Ye fs) (Zk fs) x.lead p)->Q (.ref c) H'):Qe4 C vs H Q
def Qjy(C:Gc):Sp:=λvs H Q _=>Qe4 C vs H Q
abbrev Row:=Ta×List Nat×Nat
inductive Jo(H:Hp)(X:Gc->Prop)(v:V)(r:Row):Prop
 |mk (c:_) (l:_) (h0:v=.ref c) (h1:H c=Ga (.tup [.str r.1,.ref l,jv r.2.2])) (h2:H l=Ga (.lst (r.2.1.map jv))) (h3:¬X l):Jo H X v r
theorem Jo.kp(tp:∀{c:Gc}{ys:List V},H c=Ga (.tup ys)->H' c=Ga (.tup ys))(lp:∀{c:Gc}{ys:List V},H c=Ga (.lst ys)->¬X c->H' c=Ga (.lst ys)){r:Row}(h:Jo H X v r):Jo H' X v r:=by obtain⟨c,l,h1,h2,b,a⟩:=h;exact⟨c,l,h1,tp h2,lp b a,a⟩
theorem Jo.ex{Y:Gc->Prop}(d:∀c ys,H c=Ga (.lst ys)->¬X c->¬Y c){r:Row}(h:Jo H X v r):Jo H Y v r:=by obtain⟨c,l,h1,h2,a,b⟩:=h;exact⟨c,l,h1,h2,a,d _ _ a b⟩
inductive Uk(H:Hp)(X:Gc->Prop)(v:V)(rs:List Row):Prop
 |mk (r:_) (es:_) (h0:v=.ref r) (h1:H r=Ga (.lst es)) (h2:¬X r) (h3:Paired (Jo H X) es rs):Uk H X v rs
theorem Uk.kp{X:Gc->Prop}{H H':Hp}(tp:∀{c:Gc}{ys:List V},H c=Ga (.tup ys)->H' c=Ga (.tup ys))(lp:∀{c:Gc}{ys:List V},H c=Ga (.lst ys)->¬X c->H' c=Ga (.lst ys)){v:V}{b:List Row}(h:Uk H X v b):Uk H' X v b:=by obtain⟨r,es,h1,h2,a,d⟩:=h;exact⟨r,es,h1,lp h2 a,a,L2.Paired.Ya d λ_ _ h=>h.kp tp lp⟩
theorem Uk.ex{X Y:Gc->Prop}{H:Hp}(a:∀c ys,H c=Ga (.lst ys)->¬X c->¬Y c){v:V}{b:List Row}(h:Uk H X v b):Uk H Y v b:=by obtain⟨r,es,h1,h2,d,e⟩:=h;exact⟨r,es,h1,h2,a _ _ h2 d,L2.Paired.Ya e λ_ _ h=>h.ex a⟩
def Vk(fs:List Fm)(x:Nn)(N:Nat->Nat)(p:Nat):Row:=(Ye fs p,(Zk fs p).map (λq=>N (x.lead q)),N (x.lead p))
structure Wok(fs:List Fm)(x:Nn)(rs:List Row):Prop where
 ex:∃N:Nat->Nat,(∀p∈x.S,∀q∈x.S,N (x.lead p)=N (x.lead q)->x.lead p=x.lead q)/\(∀p∈x.S,Vk fs x N p∈rs)/\∀r∈rs,∃p∈x.S,r=Vk fs x N p
 nd:(rs.map λr=>(r.1,r.2.1)).Nodup
inductive Qn2(P:Gg)(w:Gs)(C:Gc)(vs:List V)(H:Hp)(Q:VK):Prop
 |mk (n:Gc) (A:Na) (fs:List Fm) (tb:Nat) (x:Nn) (h0:vs=[.ref n]) (h1:Z6 P w C H n A fs tb x) (h2:Qem fs x.S) (h3:X8 (Ye fs) (Zk fs) x []) (h4:x.S.length<=1000) (h5:∀(v:V)(rs:List Row)(H':Hp),Q4 H H'->Uk H' (λb=>∃o,H b=Ga o) v rs->Wok fs x rs->Q v H'):Qn2 P w C vs H Q
def Qsf(P:Gg)(w:Gs)(C:Gc):Sp:=λvs H Q _=>Qn2 P w C vs H Q
theorem Quj{a:List Nat}{l:Nat}(hl:l∉a)(b:k∈a++[l]):(a++[l]).idxOf k=if k=l then a.length else a.idxOf k:=by
 rw[List.idxOf_append];by_cases h:k=l
 ·subst h;rw[Gi hl,Gn rfl];simp
 ·have:k∈a:=by
   rcases List.mem_append.mp b with z|z
   ·exact z
   ·exact absurd (by simpa using z) h
  rw[Gn this,Gi h]
theorem Qha{c:List Nat}(d:a∈c)(hb:b∈c)(h:c.idxOf a=c.idxOf b):a=b:=by have h1:=List.getElem_idxOf (List.idxOf_lt_length_of_mem d);have h2:=List.getElem_idxOf (List.idxOf_lt_length_of_mem hb);rw[<-h1,<-h2];simp only[h]
def EnR(fs:List Fm)(x:Nn)(N:Nat->Nat)(X:Gc->Prop)(H:Hp)(e:KE)(p:Nat):Prop:=e.1=Y1 (Zj (Ye fs) (Zk fs) x.lead p)/\Jo H X e.2.2 (Vk fs x N p)
theorem Qi8{N:Nat->Nat}{d:List KE}{ps:List Nat}(h:Paired (EnR fs x N X H) d ps)(k:Fm):(Yf d (Y1 k)).isSome=Gf↔∃p∈ps,Zj (Ye fs) (Zk fs) x.lead p=k:=by
 induction h with
 |nil=>simp[Yf]
 |@cons e p d ps f t g=>
  by_cases c:e.1=Y1 k
  ·rw[Yn c];simp only[LM,true_iff];exact⟨p,List.mem_cons_self,U2 (f.1.symm.trans c)⟩
  ·rw[Yk c,g];constructor
   ·rintro⟨q,a,b⟩;exact⟨q,List.mem_cons_of_mem _ a,b⟩
   ·rintro⟨q,a,b⟩;rcases List.mem_cons.mp a with rfl|a
    ·exact absurd (by rw[f.1,b]) c
    ·exact⟨q,a,b⟩
theorem Qxf{N:Nat->Nat}{d:List KE}{ps:List Nat}(g:Jo H X v (Vk fs x N p))(a:∀q∈ps,Zj (Ye fs) (Zk fs) x.lead q=Zj (Ye fs) (Zk fs) x.lead p->Vk fs x N q=Vk fs x N p)(h:Paired (EnR fs x N X H) d ps):
  Paired (EnR fs x N X H) (d.map λe=>if e.1=Y1 (Zj (Ye fs) (Zk fs) x.lead p)then(e.1,e.2.1,v)else e) ps:=by
 induction h with
 |nil=>exact .nil
 |@cons e q d ps c t i=>
  refine .cons ?_ (i λq f=>a q (List.mem_cons_of_mem _ f));dsimp only;by_cases b:e.1=Y1 (Zj (Ye fs) (Zk fs) x.lead p)
  ·rw[Gn b];refine⟨c.1,?_⟩;rw[a q List.mem_cons_self (U2 (c.1.symm.trans b))];exact g
  ·rw[Gi b];exact c
theorem Qv2{a:Gc}{u:HO}(r:Rd H a u)(g:Q4 H H'):Rd H' a u:=by
 rcases r with r|⟨o,r⟩
 ·exact .inl (g _ _ r)
 ·exact .inr ⟨o,g _ _ r⟩
theorem Qhk{a:Gc}{S:List Nat}{f:Nat->V}(h:Rd H a (.dK (dS S f)))(b:p∈S):Wx H a (jv p) (Ga (f p)):=.inl ⟨_,ki p,h,Xb,(Qf5 b).symm⟩
section
variable{P:Gg}{w:Gs}{K:Gd}{mg:Ta->Option Value}{base:Heap}
theorem Qps(F:Wd K "key_of" "Net.key_of" Qa1 f fd)(T:Uc K mg C)(B:Jr mg):Qs P w K mg base Z4 1 f fd ["self","place"] (Qjy C):=by
 refine F.ok Qcb (λvs H Q E h=>?_) (λcdv A outer s H vs Q E Z h=>?_)
 ·obtain⟨n,A,fs,x,p,rfl,_⟩:=h;rfl
 obtain⟨n,A,fs,x,p,rfl,⟨dx,M⟩,⟨O,X,I⟩,le,J,v,hl,g⟩:=h;have hu:=U6 Z;have nd:=Qcb.nd;refine⟨_,Qd (Qt 2 nd (Qo Zh (Qn (pv 0) rfl) (pv 1)))
  (Qh (Qv (Zb (Qa (Qo Q5 (pv 2) Qk) (Qa (Xr Vh rfl B.tuple TX (Qa
   (Vx (te:=Qi6 (Qwa K (V7 1) "leads") (V7 0)) (own:=["part"]) (fv:=[(0,"self")]) rfl (S:=(by eq_refl:Wh (Ql Qa1) _)) (.cons rfl (Di Xb) rfl .nil) (Uo (Qo Q5 (pv 2) Qk))
    (λ_ _ _ _ _=>Xe (i:=0) Q18 rfl (Di Xb) (Es Xb)) (λ_ _ _ _ _=>Ww) (λ_ _ _ _ _=>Zr hu (Qn (pv 1) rfl) (pv 0) (λ_ _=>rfl))) Qe)) Qe))))),?_⟩
 have hw:p<O.length:=by rw[Gr I];exact J
 subst_vars;obtain⟨y,L,c,e,W,h1,h2⟩:=Qy I (List.getElem?_eq_getElem hw);and_intros;rw[Qgj J]at L;cases L;have U:atI [V.str (Ye fs p),V.ref e] (1:Int)=Ga (.ref e):=Qz (j:=1) rfl;refine⟨_,Xb,n,C,dx,_,_,Xb,M,T.cl,T.Qcl,U5 _,_,Xb,A.f,O,_,_,Xb,Xb,Zd.of X,Qz (List.getElem?_eq_getElem hw),?_⟩;rw[W];refine⟨_,Xb,c,_,_,_,Xb,Xb,Z2.of h1,Rk _ _,_,Xb,c,_,_,_,Xb,Xb,Z2.of h1,U,e,Xb,⟨_,Z2.of h2⟩,λr t=>?_⟩;have s3:=Qg t (.lst []);refine Ju (K:=K) (a:=e) (xs:=(Zk fs p).map jv) (small (by rw[List.length_map];omega)) (λi ys σ H2=>(∃R,σ=[R,Ga (.ref n)])/\Q4 H H2/\ys=((Zk fs p).take i).map λq=>jv (x.lead q))
  ⟨⟨_,Xb⟩,s3,by simp⟩ (λi ys σ H2 _ h=>Z2.of (h.2.1 _ _ h2)) ?_ ?_
 ·rintro i y ys σ H2 hi z ⟨⟨R,rfl⟩,d,rfl⟩ u;rw[List.getElem?_map]at hi;cases eq:(Zk fs p)[i]? with
  |none=>rw[eq]at hi;cases hi
  |some q=>
   rw[eq]at hi;cases hi;refine⟨_,Xb,n,C,dx,_,_,Xb,d _ _ M,T.cl,T.Wz,Yo _,_,Xb,A.l,_,Xb,Qhk (Qv2 le d) (v q (List.mem_of_getElem? eq)),u,⟨_,Xb⟩,λb o G=>?_,?_⟩
   ·rw[Qf (Qc G t)];exact d _ _ G
   ·rw[List.take_add_one,eq,List.map_append];rfl
 ·rintro ys σ H2 z ⟨_,d,rfl⟩ u;rw[List.length_map,List.take_length]at u;refine⟨r,_,Xb,.inl ⟨Zd.of u,λm Y=>?_⟩⟩;have s4:=Qg Y (.tup ((Zk fs p).map λq=>jv (x.lead q)));refine⟨by show 2<=Gj;decide,λD k=>?_⟩;have N:=Qg k (.tup [.str (Ye fs p),.ref m]);refine g D _ ((d.trans s4).trans N) (d.free (s4.free k)) ⟨D,m,Xb,Qb,?_⟩;rw[N _ _ Qb];simp only[Zj,List.map_map];rfl
theorem Qzi{S:List Nat}{f:Nat->V}{i:Nat}{a:Xv×V}(h:(dS S f)[i]?=Ga a):∃p,S[i]?=Ga p/\a=(ki p,f p):=by
 unfold dS at h;rw[List.getElem?_map]at h;cases e:S[i]? with
 |none=>rw[e]at h;cases h
 |some p=>rw[e]at h;cases h;exact⟨p,Xb,Xb⟩
theorem Qtc:Qx ["self","numbers","place","found","key"] ["self"] (Ql Qbf):=by eq_refl
theorem Q42:(["lead","numbers"]:List Ta).Nodup:=by decide+kernel
theorem Qwq{fK:Gc}{ax:Ts}(F:Wd K "rows" "Net.rows" Qbf f fd)(T:Uc K mg C)(B:Jr mg)(mK:Z9 K C "key_of" fK)(GK:Qs P w K mg base Z4 1 fK ax ["self","place"] (Qjy C))(bK:Binds K ax ["self","place"] []):
  Qs P w K mg base Z4 2 f fd ["self"] (Qsf P w C):=by
 refine F.ok Qtc (λvs H Q E h=>?_) (λcdv A outer s H vs Q E hr h=>?_)
 ·obtain⟨n,A,fs,tb,x,rfl,_⟩:=h;rfl
 obtain⟨n,A,fs,tb,x,rfl,X,FO,I,hS,q⟩:=h;have hu:=U6 hr;have aC:=hr.units;have aO:Yb 1 _:=hr.mono (by lia);have nd:=Qtc.nd;show∃t,Z7 ?mysRows _ t/\_;let w5:Subtype (Z7 ?mysRows ((Qj Qbf).drop 4)):=⟨_,Qh (Qv (Xr (Qen Xb) rfl B.list TD (Qa (Qws SG MQ Qwr (pv 3)) Qe)))⟩
 let w4:Subtype (Z7 ?mysRows ((Qj Qbf).drop 3)):=⟨_,Qd (Qnt (Yg Gy rfl (Qnd (Qn (pv 0) rfl)) (Yc 2 nd)
   (Qd (Qt 4 nd (Q9 (pv 0) T.cl mK GK aO bK .nil Q6 (Qa (pv 2) Qe)))
   (Qh (Qaw (Zb (Qa (Qo Q5 (pv 4) Qk) (Qa
     (Vx (te:=Qi6 (V7 1) (V7 0)) (own:=["lead"]) (fv:=[(1,"numbers")]) rfl (S:=(by eq_refl:Wh (Ql Qbf) _)) (.cons rfl (Di Xb) rfl .nil) (Uo (Qo Q5 (pv 4) Qk))
      (λ_ _ _ _ _=>Xe (i:=0) Q42 rfl (Di Xb) (Es Xb)) (λ_ _ _ _ _=>Ww) (λ_ _ _ _ _=>Zr hu (pv 1) (pv 0) (λ_ _=>rfl)))
     (Qa (Zr hu (pv 1) (Zr hu (Qn (pv 0) rfl) (pv 2) (λ_ _=>rfl)) (λ_ _=>rfl)) Qe))))
    (Qcd (pv 3) (pv 4) (Qd3 aC))))))) w5.2⟩
 let w3:Subtype (Z7 ?mysRows ((Qj Qbf).drop 2)):=⟨_,Qd (Uq (i:=3) (te:=Qmv P w) nd rfl (Di Xb) Oc) w4.2⟩
 let w2:Subtype (Z7 ?mysRows ((Qj Qbf).drop 1)):=⟨_,Qd (Qnt (Yg Gy rfl (Qnd (Qn (pv 0) rfl)) (Yc 2 nd)
   (Qh (Ze (Xw Ef El Em Ql8 (pv 1) (Qa (Zr hu (Qn (pv 0) rfl) (pv 2) (λ_ _=>rfl)) (Qa (Qp Qpi rfl B.len GO (Qa (pv 1) Qe)) Qe))))))) w3.2⟩
 refine⟨_,Qd (Uq (i:=1) nd rfl (Es Xb) U7) w2.2,?_⟩;obtain⟨dx,o1⟩:=X.ob;intro num ab;have s1:=Qg ab (.dK []);have X1:=X.same s1;have nl:num≠A.l:=Gp (Qc X.le ab);have nn:num≠n:=Gp (Qc o1 ab);have ln:n≠A.l:=Yd o1 X.le nofun;refine⟨A.l,_,X1.le,?_⟩;refine⟨_,Xb,n,C,dx,_,_,Xb,s1 _ _ o1,T.cl,T.Wz,Yo _,A.l,_,Xb,X1.le,λo=>Qj0 (λi σ H2=>XE2 λ(x2:Option V)(N:List Nat)=>PA7 (σ=[Ga (.ref n),Ga (.ref num),x2,Gh,Gh]) (H2 num=Ga (.dK (dS N λk=>jv (N.idxOf k)))) (N.Nodup) (N.length<=i) (∀p∈x.S.take i,x.lead p∈N) (H2 A.l=Ga (fz o (dS x.S λp=>jv (x.lead p)))) (∀b u,H b=Ga u->b≠A.l->H2 b=Ga u))
  ⟨_,[],Xb,Qi Qb nl,List.nodup_nil,Gw _,by simp,Qb,λb u e hb=>Qi (s1 _ _ e) hb⟩ (by rintro i σ H2 _ ⟨_,_,_,_,_,_,_,h,_⟩;exact h) ?_ ?_⟩
 ·rintro i pr σ H2 hi ⟨x2,N,rfl,Z,au,am,J,ag,fr⟩;obtain⟨p,D,rfl⟩:=Qzi hi;have pS:p∈x.S:=List.mem_of_getElem? D;have aM:i<x.S.length:=(List.getElem?_eq_some_iff.mp D).1;refine⟨_,Xb,.inr (.inr (.inl ⟨Xb,.inl ⟨_,Z⟩⟩)),_,Xb,n,C,dx,_,_,Xb,fr _ _ o1 ln,T.cl,T.Wz,Yo _,_,Xb,A.l,_,Xb,Qhk (.inr ⟨o,ag⟩) pS,_,Xb,num,_,Xb,Z,num,ki (x.lead p),_,_,Xb,Xb,Z,by rw[Va,GQ];lia,λv hv=>?_,λhv=>?_⟩
  ·have M:x.lead p∈N:=by refine Ml λz=>?_;rw[Qma z]at hv;cases hv
   refine⟨_,N,Xb,Z,au,by lia,λr hr=>?_,ag,fr⟩;rw[List.take_add_one,D]at hr;rcases List.mem_append.mp hr with h|h
   ·exact J r h
   ·have:r=p:=by simpa using h
    rw[this];exact M
  ·have M:x.lead p∉N:=λz=>by rw[Qf5 z]at hv;cases hv
   have eo:W9 (dS N λk=>jv (N.idxOf k)) (ki (x.lead p)) (.int ((dS N λk=>jv (N.idxOf k)).length:Int))=dS (N++[x.lead p]) λk=>jv ((N++[x.lead p]).idxOf k):=by rw[Qaj M,Va];refine Wt λk hk=>?_;rw[Quj M hk];split<;>rfl
   rw[eo];refine⟨_,N++[x.lead p],Xb,Qb,List.nodup_append.mpr ⟨au,by simp,λa ha b hb=>by simp at hb;subst hb;exactλz=>M (z▸ha)⟩,by rw[List.length_append,List.length_singleton];lia,λr hr=>?_,Qi ag (Gp nl),λb u e hb=>Qi (fr b u e hb) (Qc e ab)⟩;rw[List.take_add_one,D]at hr;rcases List.mem_append.mp hr with h|h
   ·exact List.mem_append_left _ (J r h)
   ·have:r=p:=by simpa using h
    rw[this];simp
 rintro σ H2 ⟨x2,N,rfl,Z,au,am,J,ag,fr⟩;rw[Va,List.take_length]at J;rw[Va]at am;refine⟨o,ag,?_⟩;have t2:∀b u,H b=Ga u->(zj H2 A.l (.dK (dS x.S λp=>jv (x.lead p)))) b=Ga u:=λb u e=>by
  by_cases h:b=A.l
  ·subst h;rw[Qb,<-e];exact X.le.symm
  ·exact Qi (fr b u e h) h
 generalize az:(dS N λk=>jv (N.idxOf k))=zw at Z;have ae:∀p∈x.S,Y2 zw (ki (x.lead p))=Ga (jv (N.idxOf (x.lead p))):=λp D=>by rw[<-az];exact Qf5 (J p D)
 generalize ay:(λk=>N.idxOf k)=G;have ae:∀p∈x.S,Y2 zw (ki (x.lead p))=Ga (jv (G (x.lead p))):=λp D=>by rw[<-ay];exact ae p D
 have ak:∀p∈x.S,∀q∈x.S,G (x.lead p)=G (x.lead q)->x.lead p=x.lead q:=λp D q R e=>by rw[<-ay]at e;exact Qha (J p D) (J q R) e
 have av:(zj H2 A.l (.dK (dS x.S λp=>jv (x.lead p)))) num=Ga (.dK zw):=Qi Z nl;generalize zj H2 A.l (.dK (dS x.S λp=>jv (x.lead p)))=H3 at t2 av;intro fo ah;have s4:=Qg ah (Ut P w fo []);have g4:Q4 H (zj H3 fo (Ut P w fo [])):=λb u e=>s4 _ _ (t2 b u e);have X4:=X.same g4;have nf:num≠fo:=Qc av ah;have fl:A.l≠fo:=Qc (t2 _ _ X.le) ah;refine⟨A.l,_,X4.le,?_⟩;refine⟨_,Xb,n,C,dx,_,_,Xb,g4 _ _ o1,T.cl,T.Wz,Yo _,A.l,_,Xb,X4.le,λo=>Qj0 (λi σ U=>XE3 λ(x2 x4:Option V)(O:List KE)=>PA6 (σ=[Ga (.ref n),Ga (.ref num),x2,Ga (.ref fo),x4]) (DH P w U fo O) (∃ps:List Nat,ps.length<=i/\Paired (EnR fs x G (λb=>∃o,H b=Ga o) U) O ps/\(ps.map λp=>Zj (Ye fs) (Zk fs) x.lead p).Nodup/\(∀p∈ps,p∈x.S)/\∀p∈x.S.take i,∃p'∈ps,Zj (Ye fs) (Zk fs) x.lead p'=Zj (Ye fs) (Zk fs) x.lead p) (U num=Ga (.dK zw)) (U A.l=Ga (fz o (dS x.S λp=>jv (x.lead p)))) (∀b u,H b=Ga u->b≠A.l->U b=Ga u))
  ⟨_,_,[],Xb,⟨Qi Qb (Gp fl),(λp D=>nomatch D)⟩,⟨[],Gw _,.nil,List.nodup_nil,(λp D=>nomatch D),by simp⟩,Qi (Qi av nf) nl,Qb,λb u e hb=>Qi (g4 _ _ e) hb⟩ (by rintro i σ U _ ⟨_,_,_,_,_,_,_,h,_⟩;exact h) ?_ ?_⟩
 ·rintro i pr σ U hi ⟨x2,x4,O,rfl,D5,⟨ps,ap,ac,af,L,W⟩,an,d,Y⟩;subst_vars;obtain⟨p,D,rfl⟩:=Qzi hi;have pS:p∈x.S:=List.mem_of_getElem? D;have aM:i<x.S.length:=(List.getElem?_eq_some_iff.mp D).1;have few:=FO.few p;obtain⟨ws,f1,f2⟩:=X.fo;and_intros;have tu:Qu H U:=λb xs e=>Y b _ e (Yd e X.le nofun);have fA:U A.f=Ga (.lst ws):=Y _ _ f1 (Yd f1 X.le nofun);have o5:=Y _ _ o1 ln;refine⟨_,Xb,n,dx,_,Xb,o5,Qec _,_,Xb,n,A,fs,x,p,Xb,⟨dx,o5⟩,⟨ws,fA,L2.Paired.Ya f2 λ_ _ h=>h.Qm tu⟩,.inr ⟨o,d⟩,FO.lt p pS,FO.pts p pS,by lia,λc H6 g6 aX fm=>?_⟩;subst_vars;obtain⟨c',e,ec,h1,h2⟩:=id fm;and_intros;cases ec;simp only[Zj]at h1 h2;have aw:=g6 _ _ an;have D6:DH P w H6 fo O:=⟨g6 _ _ D5.at_,Zg (Qu.of g6) D5.keys⟩;refine⟨_,Xb,c,_,_,_,Xb,Xb,Z2.of h1,Rk _ _,_,Xb,c,_,_,_,Xb,Xb,Z2.of h1,I0 _ _ _,e,Xb,⟨_,Z2.of h2⟩,λr aq=>?_⟩;have s7:=Qg aq (.lst []);have aY:=Gr ac;refine Ju (K:=K) (a:=e) (xs:=((Zk fs p).map x.lead).map jv) (small (by rw[List.length_map,List.length_map];lia)) (λi ys σ H7=>(∃x0,σ=[x0,Ga (.ref num)])/\Q4 H6 H7/\ys=((Zk fs p).take i).map λq=>jv (G (x.lead q))) ⟨⟨_,Xb⟩,s7,by simp⟩ (λi ys σ H7 _ h=>Z2.of (h.2.1 _ _ h2)) ?_ ?_
  ·rintro j y ys σ H7 hj aR ⟨⟨x0,rfl⟩,g7,rfl⟩ ai;rw[List.getElem?_map,List.getElem?_map]at hj;cases eq:(Zk fs p)[j]? with
   |none=>rw[eq]at hj;cases hj
   |some r'=>rw[eq]at hj;cases hj;have hv:=ae r' (FO.pts p pS r' (List.mem_of_getElem? eq));refine⟨_,Xb,_,Xb,num,_,Xb,(by have:=Wx.k (k:=ki (x.lead r')) (g7 _ _ aw);rw[hv]at this;exact this),ai,⟨_,Xb⟩,λb o eb=>Qi (g7 _ _ eb) (Qc eb aq),?_⟩;rw[List.take_add_one,eq,List.map_append];rfl
  ·rintro ys σ H7 aR ⟨_,g7,rfl⟩ ai;rw[List.length_map,List.length_map,List.take_length]at ai;have hv:=ae p pS;have aV:=g7 _ _ aw;have dg:Wx H7 num (jv (x.lead p)) (Ga (jv (G (x.lead p)))):=by have:=Wx.k (k:=ki (x.lead p)) aV;rw[hv]at this;exact this
   refine⟨_,Xb,_,Xb,n,C,dx,_,_,Xb,g7 _ _ (g6 _ _ o5),T.cl,T.Wz,Yo _,_,Xb,A.l,_,Xb,Qhk (.inr ⟨o,g7 _ _ (g6 _ _ d)⟩) pS,num,_,Xb,dg,by show 3<=Gj;decide,λm hm=>?_⟩;generalize aP:jv (G (x.lead p))=v;have s8:=Qg hm (.tup [.str (Ye fs p),.ref r,v]);have g8:Q4 H6 (zj H7 m (.tup [.str (Ye fs p),.ref r,v])):=g7.trans s8;have D8:DH P w (zj H7 m (.tup [.str (Ye fs p),.ref r,v])) fo O:=⟨g8 _ _ D6.at_,Zg (Qu.of g8) D6.keys⟩;have k8:=(fm.Qm (Qu.of g8)).key (FO.str p);refine⟨_,Xb,_,Xb,fo,c,_,O,Xb,Xb,D8,k8,by rw[GQ];lia,?_⟩;have aW:∀b o,H b=Ga o->∃u,H6 b=Ga u:=λb o eb=>by
    by_cases hb:b=A.l
    ·rw[hb];exact⟨_,g6 _ _ d⟩
    ·exact⟨o,g6 _ _ (Y b o eb hb)⟩
   have aD:Jo (zj H7 m (.tup [.str (Ye fs p),.ref r,v])) (λb=>∃o,H b=Ga o) (.ref m) (Vk fs x G p):=⟨m,r,Xb,by rw[<-aP];exact Qb,by
    show _=Ga (HO.lst (((Zk fs p).map λq=>G (x.lead q)).map jv));rw[List.map_map];exact s8 _ _ ai,λ⟨o,eo⟩=>by
    obtain⟨u,aB⟩:=aW _ _ eo;rw[aq]at aB;cases aB⟩
   generalize al:Wy O (Y1 (Zj (Ye fs) (Zk fs) x.lead p)) c (.ref m)=aj;have aG:∀{b:Gc}{xs:List V},(zj H7 m (.tup [.str (Ye fs p),.ref r,v])) b=Ga (.tup xs)->(zj (zj H7 m (.tup [.str (Ye fs p),.ref r,v])) fo (Ut P w fo aj)) b=Ga (.tup xs):=λe=>Qi e (Yd e D8.at_ nofun);have aU:∀{b:Gc}{xs:List V},(zj H7 m (.tup [.str (Ye fs p),.ref r,v])) b=Ga (.lst xs)->(zj (zj H7 m (.tup [.str (Ye fs p),.ref r,v])) fo (Ut P w fo aj)) b=Ga (.lst xs):=λe=>Qi e (Yd e D8.at_ nofun);have ad:Paired (EnR fs x G (λb=>∃o,H b=Ga o) (zj H7 m (.tup [.str (Ye fs p),.ref r,v]))) O ps:=L2.Paired.Ya ac λ_ _ h=>⟨h.1,h.2.kp (λe=>g8 _ _ (g6 _ _ e)) (λe _=>g8 _ _ (g6 _ _ e))⟩;have ar:∀q∈ps,Zj (Ye fs) (Zk fs) x.lead q=Zj (Ye fs) (Zk fs) x.lead p->Vk fs x G q=Vk fs x G p:=λq R e=>by have hl:=I.cong (L q R) pS e;simp only[Zj,Df]at e;unfold Vk;rw[e.1,hl];congr 2;have:=congrArg (List.map G) e.2;rw[List.map_map,List.map_map]at this;exact this
   have fin:∃aa:List Nat,aa.length<=i+1/\Paired (EnR fs x G (λb=>∃o,H b=Ga o) (zj H7 m (.tup [.str (Ye fs p),.ref r,v]))) aj aa/\(aa.map λp=>Zj (Ye fs) (Zk fs) x.lead p).Nodup/\(∀p∈aa,p∈x.S)/\∀q∈x.S.take (i+1),∃p'∈aa,Zj (Ye fs) (Zk fs) x.lead p'=Zj (Ye fs) (Zk fs) x.lead q:=by
    rw[<-al];unfold Wy;by_cases M:(Yf O (Y1 (Zj (Ye fs) (Zk fs) x.lead p))).isSome=Gf
    ·rw[Gn M];refine⟨ps,by lia,Qxf aD ar ad,af,L,λq R=>?_⟩;rw[List.take_add_one,D]at R;rcases List.mem_append.mp R with h|h
     ·exact W q h
     ·have:q=p:=by simpa using h
      rw[this];exact(Qi8 ad _).mp M
    ·rw[Gi M];have aN:∀q∈ps,Zj (Ye fs) (Zk fs) x.lead q≠Zj (Ye fs) (Zk fs) x.lead p:=λq R e=>M ((Qi8 ad _).mpr ⟨q,R,e⟩);refine⟨ps++[p],by rw[List.length_append,List.length_singleton];lia,DI ad ⟨Xb,aD⟩,?_,λq R=>?_,λq R=>?_⟩
     ·rw[List.map_append];refine List.nodup_append.mpr ⟨af,by simp,λa ha b hb=>?_⟩;obtain⟨q,R,rfl⟩:=List.mem_map.mp ha;have:b=Zj (Ye fs) (Zk fs) x.lead p:=by simpa using hb
      rw[this];exact aN q R
     ·rcases List.mem_append.mp R with h|h
      ·exact L q h
      ·have:q=p:=by simpa using h
       rw[this];exact pS
     ·rw[List.take_add_one,D]at R;rcases List.mem_append.mp R with h|h
      ·obtain⟨p',h1,h2⟩:=W q h;exact⟨p',List.mem_append_left _ h1,h2⟩
      ·have:q=p:=by simpa using h
       rw[this];exact⟨p,by simp,Xb⟩
   subst_vars;obtain⟨aa,aH,aI,aJ,aK,aL⟩:=fin;and_intros;exact⟨_,_,aj,Xb,⟨Qb,Zg (λb xs e=>aG e) (by rw[<-al];exact D8.keys.put k8)⟩,⟨aa,aH,L2.Paired.Ya aI λ_ _ h=>⟨h.1,h.2.kp aG (λe _=>aU e)⟩,aJ,aK,aL⟩,Qi (g8 _ _ aw) nf,Qi (g8 _ _ (g6 _ _ d)) fl,λb u e hb=>Qi (g8 _ _ (g6 _ _ (Y b u e hb))) (Qc (t2 _ _ e) ah)⟩
 ·rintro σ U ⟨x2,x4,O,rfl,D5,⟨ps,ap,ac,af,L,W⟩,an,d,Y⟩;rw[Va,List.take_length]at W;refine⟨o,d,?_⟩;have t6:Q4 H (zj U A.l (.dK (dS x.S λp=>jv (x.lead p)))):=λb u e=>by
   by_cases h:b=A.l
   ·subst h;rw[Qb,<-e];exact X.le.symm
   ·exact Qi (Y b u e h) h
  have aF:∀{b:Gc}{xs:List V},U b=Ga (.tup xs)->(zj U A.l (.dK (dS x.S λp=>jv (x.lead p)))) b=Ga (.tup xs):=λe=>Qi e (Yd e d nofun);have aT:∀{b:Gc}{xs:List V},U b=Ga (.lst xs)->(zj U A.l (.dK (dS x.S λp=>jv (x.lead p)))) b=Ga (.lst xs):=λe=>Qi e (Yd e d nofun);have D6:DH P w (zj U A.l (.dK (dS x.S λp=>jv (x.lead p)))) fo O:=⟨Qi D5.at_ (Gp fl),Zg (λb xs e=>aF e) D5.keys⟩;have ao:Paired (EnR fs x G (λb=>∃o,H b=Ga o) (zj U A.l (.dK (dS x.S λp=>jv (x.lead p))))) O ps:=L2.Paired.Ya ac λ_ _ h=>⟨h.1,h.2.kp aF (λe _=>aT e)⟩;generalize zj U A.l (.dK (dS x.S λp=>jv (x.lead p)))=H6 at t6 D6 ao;refine⟨_,Xb,⟨fo,O,Xb,D6.at_⟩,fo,O,Xb,Xb,D6,λvw aQ=>?_⟩;have s7:=Qg aQ (vvw vw fo);have D7:DH P w (zj H6 vw (vvw vw fo)) fo O:=⟨s7 _ _ D6.at_,Zg (Qu.of s7) D6.keys⟩;refine⟨vw,fo,O,Xb,Qb,D7,λl hl=>?_⟩;have s8:=Qg hl (.lst (O.map λp=>p.2.2));have aE:=s7.trans s8;refine q (.ref l) (ps.map (Vk fs x G)) _ (t6.trans aE) ⟨l,_,Xb,Qb,(by rintro⟨o,eo⟩;rw[s7.free hl|>t6.free]at eo;cases eo),?_⟩ ⟨⟨G,ak,λp D=>?_,λr hr=>?_⟩,?_⟩
  ·have gen:∀{H':Hp},Q4 H6 H'->∀{O:List KE}{ps:List Nat},Paired (EnR fs x G (λb=>∃o,H b=Ga o) H6) O ps->Paired (Jo H' (λb=>∃o,H b=Ga o)) (O.map λp=>p.2.2) (ps.map (Vk fs x G)):=λ{H'}g{O ps}h=>by
    induction h with
    |nil=>exact .nil
    |cons h t ih=>exact .cons (h.2.kp (λe=>g _ _ e) (λe _=>g _ _ e)) ih
   exact gen aE ao
  ·obtain⟨p',h1,h2⟩:=W p D;have hl:=I.cong (L p' h1) D h2;refine List.mem_map.mpr ⟨p',h1,?_⟩;simp only[Zj,Df]at h2;unfold Vk;rw[h2.1,hl];congr 2;have:=congrArg (List.map G) h2.2;rw[List.map_map,List.map_map]at this;exact this
  ·obtain⟨p,D,rfl⟩:=List.mem_map.mp hr;exact⟨p,L p D,Xb⟩
  ·rw[List.map_map];have:∀{ps:List Nat},(∀p∈ps,p∈x.S)->(ps.map λp=>Zj (Ye fs) (Zk fs) x.lead p).Nodup->(ps.map ((λr:Row=>(r.1,r.2.1))∘Vk fs x G)).Nodup:=by
    intro ps aA nd;unfold List.Nodup at nd⊢;rw[List.pairwise_map]at nd⊢;refine List.Pairwise.imp_of_mem (λ{a b}ha hb h z=>h ?_) nd;simp only[Bi,Vk,Df]at z;simp only[Zj,Df];refine⟨z.1,?_⟩;have aS:=aA a ha;have bS:=aA b hb;have inj:∀{l m:List Nat},(∀q∈l,q∈x.S)->(∀q∈m,q∈x.S)->l.map (λq=>G (x.lead q))=m.map (λq=>G (x.lead q))->l.map x.lead=m.map x.lead:=by
     intro l;induction l with
     |nil=>intro m _ _ e;cases m with
      |nil=>rfl
      |cons _ _=>simp at e
     |cons u l ih=>
      intro m hl hm e;cases m with
      |nil=>simp at e
      |cons u' m=>simp only[List.map_cons,List.cons.injEq]at e⊢;exact⟨ak u (hl u List.mem_cons_self) u' (hm u' List.mem_cons_self) e.1,ih (λq R=>hl q (List.mem_cons_of_mem _ R)) (λq R=>hm q (List.mem_cons_of_mem _ R)) e.2⟩
    exact inj (FO.pts a aS) (FO.pts b bS) z.2
   exact this L af
end
def X7(fs:List Fm)(lk:Lk):List (Nat×Nat):=match lk.2.2 with
 |none=>(Zk fs lk.1).zip (Zk fs lk.2.1)
 |some _=>[]
inductive Qiz(P:Gg)(w:Gs)(C:Gc)(vs:List V)(H:Hp)(Q:VK):Prop
 |mk (n:Gc) (A:Na) (fs:List Fm) (tb:Nat) (x:Nn) (v:V) (lk:Lk) (h0:vs=[.ref n,v]) (h1:Z6 P w C H n A fs tb x) (h2:Iz H v lk) (h3:lk.1<fs.length) (h4:lk.2.1<fs.length) (h5:∀(r:Gc)(es:List V)(H':Hp),Q4 H H'->H r=Gh->H' r=Ga (.lst es)->Paired (Qxa H') es (X7 fs lk)->Q (.ref r) H'):Qiz P w C vs H Q
def Qho(P:Gg)(w:Gs)(C:Gc):Sp:=λvs H Q _=>Qiz P w C vs H Q
structure Nd(fs:List Fm)(x:Nn)(one other:Nat)(ns:List Nat):Prop where
 lt:∀k∈ns,k<x.links.length
 top:∀st,O2 x.up one other st->∀p q,(p,q)∈st->∀k,x.Xf p q=Ga k->k∈ns
 low:∀k∈ns,∀lk,x.links[k]?=Ga lk->∀p q,(p,q)∈X7 fs lk->∀st,O2 x.up p q st->∀u v,(u,v)∈st->∀j,x.Xf u v=Ga j->j∈ns/\j<k
 only:∀k∈ns,∃st p q j,O2 x.up one other st/\(p,q)∈st/\x.Xf p q=Ga j/\k<=j
inductive Qf3(P:Gg)(w:Gs)(C:Gc)(vs:List V)(H:Hp)(Q:VK):Prop
 |mk (n:Gc) (A:Na) (fs:List Fm) (tb:Nat) (x:Nn) (one:Nat) (other:Nat) (h0:vs=[.ref n,jv one,jv other]) (h1:Z6 P w C H n A fs tb x) (h2:X8 (Ye fs) (Zk fs) x []) (h3:Qem fs x.S) (h4:one∈x.S) (h5:other∈x.S) (h6:x.lead one=x.lead other) (h7:x.S.length<=1000) (h8:x.links.length<64) (h9:∀(r:Gc)(ns:List Nat)(H':Hp),Q4 H H'->H r=Gh->H' r=Ga (.lst (ns.map jv))->ns.Nodup->ns.Pairwise (·<=·)->Nd fs x one other ns->Q (.ref r) H'):Qf3 P w C vs H Q
def Qil(P:Gg)(w:Gs)(C:Gc):Sp:=λvs H Q _=>Qf3 P w C vs H Q
theorem Qtn{r:Option Jb}(h:Qp8 H v r):decide (v=V.non)= !r.isSome:=by
 cases r with
 |none=>rw[show v=V.non from h];rfl
 |some r=>
  cases r with
  |told n=>obtain⟨c,rfl,_⟩:=h;rfl
  |asked=>obtain⟨c,rfl,_⟩:=h;rfl
theorem Qmw(I:X8 (Ye fs) (Zk fs) x []){lk:Lk}(d:x.links[k]?=Ga lk)(c:(p,q)∈X7 fs lk):p∈x.S/\q∈x.S/\Cn (x.links.take k) p q:=by
 obtain⟨a,b,r⟩:=lk;obtain⟨aS,bS,h⟩:=I.lnk k a b r d;cases r with
 |some r=>simp[X7]at c
 |none=>simp only[X7]at c;obtain⟨_,hl,h⟩:=h rfl;obtain⟨i,hi⟩:=List.mem_iff_getElem?.mp c;rw[List.getElem?_zip_eq_some]at hi;exact⟨I.pt_ a aS p (List.mem_of_getElem? hi.1),I.pt_ b bS q (List.mem_of_getElem? hi.2),h i p q hi.1 hi.2⟩
section
variable{P:Gg}{w:Gs}{K:Gd}{mg:Ta->Option Value}{base:Heap}
theorem Qm2:Qx ["net","link"] ["net","link"] (Ql Qlo):=by eq_refl
theorem Qs6(F:Wd K "pairs_below" "pairs_below" Qlo f fd)(T:Uc K mg C)(B:Jr mg):Qs P w K mg base Z4 1 f fd ["net","link"] (Qho P w C):=by
 refine F.ok Qm2 (λvs H Q E h=>?_) (λcdv A outer s H vs Q E W h=>?_)
 ·obtain⟨n,A,fs,tb,x,v,lk,rfl,_⟩:=h;rfl
 obtain⟨n,A,fs,tb,x,v,lk,rfl,X,⟨c,r,rfl,hc,D⟩,l1,l2,q⟩:=h;have nd:=Qm2.nd;refine⟨_,Qd (Zn (Qr O3 (Qo Q5 (pv 1) Qk) Ur (Q3 _)) (Qh (Qv (Zt Qe))) Q7)
  (Qh (Qv (Qdr rfl rfl B.list rfl B.zip (Qa (Qo Q5 (Qo Zh (Qn (pv 0) rfl) (Qo Q5 (pv 1) Qk)) Qk) (Qa (Qo Q5 (Qo Zh (Qn (pv 0) rfl) (Qo Q5 (pv 1) Qk)) Qk) Qe))))),?_⟩
 refine⟨_,Xb,c,_,_,_,Xb,Xb,Z2.of hc,Qjc _ _ _ _,Xb,_,Xb,?_⟩;rw[Qtn D];obtain⟨a,b,L⟩:=lk;cases L with
 |some L=>refine Yv ⟨Gw _,λp I=>?_⟩;exact q p [] _ (Qg I _) I Qb .nil
 |none=>
  refine Zp ?_;obtain⟨dx,J⟩:=X.ob;obtain⟨k,G,j⟩:=X.fo;have d:a<k.length:=by rw[Gr j];exact l1
  have e:b<k.length:=by rw[Gr j];exact l2
  obtain⟨Y,g,M,O,l,o,u⟩:=Qy j (List.getElem?_eq_getElem d);obtain⟨Z,i,N,R,m,t,y⟩:=Qy j (List.getElem?_eq_getElem e);rw[Qgj l1]at g;rw[Qgj l2]at i;cases g;cases i;refine⟨_,Xb,n,C,dx,_,_,Xb,J,T.cl,T.Qcl,U5 _,_,Xb,c,_,_,_,Xb,Xb,Z2.of hc,Rk _ _,A.f,k,_,_,Xb,Xb,Zd.of G,Qz (List.getElem?_eq_getElem d),M,_,_,_,l,Xb,Z2.of o,I0 _ _ _,?_⟩;refine⟨_,Xb,n,C,dx,_,_,Xb,J,T.cl,T.Qcl,U5 _,_,Xb,c,_,_,_,Xb,Xb,Z2.of hc,I0 _ _ _,A.f,k,_,_,Xb,Xb,Zd.of G,Qz (List.getElem?_eq_getElem e),N,_,_,_,m,Xb,Z2.of t,I0 _ _ _,?_⟩;exact⟨O,R,_,_,Xb,.inr ⟨Z2.of u,Z2.of y⟩,λr es H' V U z S=>q r es H' V U z (Qc8 S)⟩
theorem Qcu(T:Uc K mg C){es:List V}{st:List (Nat×Nat)}{N0:List Nat}{v1 v2 l x5 x6 x7:Option V}{D:Ends}
  (X:Z6 P w C H n A fs tb x)(g1:Q4 H H1)(d0:H d=Gh)(hd:H1 d=Ga (.dK (dS N0 λ_=>V.bl Gf)))(hL:H1 L=Ga (.lst es))(G:Paired (Qxa H1) es st)(hk:∀p q,(p,q)∈st->∃k,x.Xf p q=Ga k/\k<m)(ad:N0.Nodup)(hm:m<=64)(hN:∀k∈N0,k<64)
  (q:∀N l H',N.Nodup->(∀k∈N0,k∈N)->(∀k∈N,k∈N0\/(k<m/\∃p q,(p,q)∈st/\x.Xf p q=Ga k))->(∀p q k,(p,q)∈st->x.Xf p q=Ga k->k∈N)->Ih d H1 H'->H' d=Ga (.dK (dS N λ_=>V.bl Gf))->D.nx [Ga (.ref n),v1,v2,Ga (.ref d),l,x5,x6,x7] H'):
  ∃W:Nat->Nat->St->Hp->Prop,(∃m,W 0 m [Ga (.ref n),v1,v2,Ga (.ref d),l,x5,x6,x7] H1)/\∀i m σ H,W i m σ H->
   ((Itl K L).stop i H/\D.nx σ H)\/((Itl K L).go i H/\∃N:St->Hp->Prop,(∀M H',N M H'->∃m',m'<m/\W (i+1) m' M H')/\∀x H',(Itl K L).yld i H x H'->Vt 4 x σ H' λaf H2=>Qzf (V7 3) (Qi6 (Qwa K (V7 0) "link_at") (V7 4)) (tC (V.bl Gf)) {D with nx:=N,ct:=N,bk:=D.nx} af H2):=by
 obtain⟨dx,o1⟩:=X.ob;obtain⟨zw,Q,ag,Y⟩:=X.at_;have Ld:L≠d:=Yd hL hd nofun;let ae:Nat->St->Hp->Prop:=λi σ H2=>XE2 λ(l:Option V)(N:List Nat)=>PA7 (σ=[Ga (.ref n),v1,v2,Ga (.ref d),l,x5,x6,x7]) (N.Nodup) (∀k∈N0,k∈N) (∀k∈N,k∈N0\/(k<m/\∃p q,(p,q)∈st/\x.Xf p q=Ga k)) (∀p q k,(p,q)∈st.take i->x.Xf p q=Ga k->k∈N) (Ih d H1 H2) (H2 d=Ga (.dK (dS N λ_=>V.bl Gf)))
 refine Xl (K:=K) (a:=L) (xs:=es) ae
  ⟨l,N0,Xb,ad,λ_ h=>h,λ_ h=>.inl h,by simp,Ih.refl,hd⟩ (by rintro i σ H2 _ ⟨_,_,_,_,_,_,_,b,_⟩;exact Zd.of (b _ _ hL Ld)) ?_ ?_
 ·rintro i y σ H2 hi ⟨l,N,rfl,f,s1,s2,R,E,S⟩;obtain⟨⟨p,r⟩,he,c,rfl,hc⟩:=Qy G hi;have s:(p,r)∈st:=List.mem_of_getElem? he;obtain⟨k,u,ab⟩:=hk p r s;have nd1:n≠d:=Qc o1 d0;have ac:A.a≠d:=Qc Q d0;have o2:=E _ _ (g1 _ _ o1) nd1;have U:=E _ _ (g1 _ _ Q) ac;have Z:=E _ _ hc (Yd hc hd nofun);have dg:Wx H2 A.a (.ref c) (Ga (jv k)):=by have:=Wx.t (k:=[ki p,ki r]) U (show H2 c=Ga (.tup ([ki p,ki r].map kV))from Z);rw[Y p r,u]at this;exact this
  have ah:N.length<=64:=by have:N.length<=(List.range 64).length:=Xk f λk hk=>List.mem_range.mpr ((s2 k hk).elim (hN k) (λh=>by have:=h.1;omega));rwa[List.length_range]at this
  have dp:=I8.k (k:=ki k) (v:=V.bl Gf) S (by rw[Va,GQ];omega);refine⟨_,Xb,_,Xb,n,C,dx,_,_,Xb,o2,T.cl,T.Qb8,Qaz _,_,Xb,A.a,_,Xb,dg,d,_,Xb,dp,?_⟩;have F:Ih d H1 (zj H2 d (.dK (W9 (dS N λ_=>V.bl Gf) (ki k) (V.bl Gf)))):=λc o e h=>Qi (E c o e h) h;have tk:∀{O:List Nat},(∀j∈N,j∈O)->k∈O->∀p q k,(p,q)∈st.take (i+1)->x.Xf p q=Ga k->k∈O:=λ{O}hs aa p' q' k' J B=>by
   rw[List.take_add_one,he]at J;rcases List.mem_append.mp J with h|h
   ·exact hs _ (R p' q' k' h B)
   ·have:(p',q')=(p,r):=by simpa using h
    cases this;rw[u]at B;cases B;exact aa
  by_cases g:k∈N
  ·refine⟨_,N,Xb,f,s1,s2,tk (λ_ h=>h) g,F,?_⟩;rw[Qb,Qk9 g];congr 2;exact Wt λp _=>by split<;>rfl
  ·refine⟨_,N++[k],Xb,List.nodup_append.mpr ⟨f,by simp,λa Q b hb=>by simp at hb;subst hb;exactλz=>g (z▸Q)⟩,λj I=>List.mem_append_left _ (s1 j I),λj I=>?_,tk (λj I=>List.mem_append_left _ I) (by simp),F,?_⟩
   ·rcases List.mem_append.mp I with h|h
    ·exact s2 j h
    ·have:j=k:=by simpa using h
     rw[this];exact .inr ⟨ab,p,r,s,u⟩
   ·rw[Qb,Qaj g];congr 2;exact Wt λp _=>by split<;>rfl
 ·rintro σ H2 ⟨l,N,rfl,f,s1,s2,R,E,S⟩;rw[Gr G,List.take_length]at R;exact q N l H2 f s1 s2 R E S
theorem Qif:Qx ["net","one","other","needed","step","number","part","twin"] ["net","one","other"] (Ql Im):=by eq_refl
theorem Qo4(F:Wd K "links_needed" "links_needed" Im f fd)(T:Uc K mg C)(B:Jr mg)(mW:Z9 K C "way" fW)(GW:Qs P w K mg base Z4 2 fW fdW ["self","one","other"] (Qt3 P w C))(bW:Binds K fdW ["self","one","other"] [])
  (GB:Qs P w K mg base Z4 1 fB fdB ["net","link"] (Qho P w C))(kB:KI K fB)(bB:Binds K fdB ["net","link"] [])(mB:MG mg "pairs_below" fB):
  Qs P w K mg base Z4 3 f fd ["net","one","other"] (Qil P w C):=by
 refine F.ok Qif (λvs H Q E h=>?_) (λcdv A outer s H vs Q E hr h=>?_)
 ·obtain⟨n,A,fs,tb,x,one,J,rfl,_⟩:=h;rfl
 obtain⟨n,A,fs,tb,x,one,J,rfl,X,I,FO,oS,tS,he,hS,aL,q⟩:=h;have hu:=U6 hr;have aH:Yb 1 _:=hr.mono (by omega);have nd:=Qif.nd;show∃t,Z7 ?mysNeeded _ t/\_;let w4:Subtype (Z7 ?mysNeeded ((Qj Im).drop 3)):=⟨_,Qh (Qv (Qp (Qjs Xb) rfl B.sorted MR (Qa (pv 3) Qe)))⟩
 let w3:Subtype (Z7 ?mysNeeded ((Qj Im).drop 2)):=⟨_,Qd (Yg Gy rfl (Qxj rfl B.range (Qa (Zo Qc0 (Qp Zc rfl B.len GO (Qa (Qn (pv 0) rfl) Qe)) Qk) (Qa (Qbc J1 Qk) (Qa (Qbc J1 Qk) Qe)))) (Yc 5 nd)
   (Qh (Zn (R0 (Qmm hu (pv 5) (pv 3)))
    (Qh (Yg Gy rfl (Xd (Z1 GB aH rfl mB kB bB .nil Q6 (Qa (pv 0) (Qa (Qo Zh (Qn (pv 0) rfl) (pv 5)) Qe)))) (Vr rfl (Zl (Yc 6 nd) (Zl (Yc 7 nd) Wb)))
     (Qh (Yg Gy rfl (Xd (Q9 (pv 0) T.cl mW GW hr bW .nil Q6 (Qa (pv 6) (Qa (pv 7) Qe)))) (Yc 4 nd)
      (Qh (Wo hu (pv 3) (Zr hu (Qn (pv 0) rfl) (pv 4) (λ_ _=>rfl)) Vi Xb)))))) Q7))) w4.2⟩
 let w2:Subtype (Z7 ?mysNeeded ((Qj Im).drop 1)):=⟨_,Qd (Yg Gy rfl (Xd (Q9 (pv 0) T.cl mW GW hr bW .nil Q6 (Qa (pv 1) (Qa (pv 2) Qe)))) (Yc 4 nd)
   (Qh (Wo hu (pv 3) (Zr hu (Qn (pv 0) rfl) (pv 4) (λ_ _=>rfl)) Vi Xb))) w3.2⟩
 refine⟨_,Qd (Qt 3 nd U7) w2.2,?_⟩;intro d d0;have s1:=Qg d0 (.dK []);obtain⟨dx,o1⟩:=X.ob;obtain⟨ls,ao,aw⟩:=X.li;have au:=Gr aw;have aI:∀p q k,x.Xf p q=Ga k->k<x.links.length:=λp q k h=>by obtain⟨r,h|h⟩:=I.fst.Qg1 p q k h<;>exact(List.getElem?_eq_some_iff.mp h).1
 refine⟨_,Xb,n,dx,_,Xb,s1 _ _ o1,Qli _,_,Xb,_,Xb,n,A,fs,tb,x,one,J,Xb,X.same s1,I,oS,tS,he,hS,λL es st H2 g2 L0 hL aC W=>⟨L,Xb,⟨_,Zd.of hL⟩,?_⟩⟩;refine Qcu T X (s1.trans g2) d0 (N0:=[]) (g2 _ _ Qb) hL aC (m:=x.links.length) (λp q h=>?_) List.nodup_nil (by omega) (λk g=>nomatch g) λN x4 H3 S i1 i2 i3 bt e3=>?_
 ·obtain⟨k,h1,h2⟩:=W.lk p q h;exact⟨k,h1,aI _ _ _ h1⟩
 have g3:Q4 H H3:=λb o e=>bt _ _ (g2 _ _ (s1 _ _ e)) (Qc e d0);refine⟨_,Xb,n,C,dx,_,_,Xb,g3 _ _ o1,T.cl,T.links,Uw _,A.k,_,Xb,.inl (Zd.of (g3 _ _ ao)),_,_,Xb,Xb,_,Xb,_,Xb,x.links.length,by rw[au],by omega,?_⟩;let aJ:Nat->St->Hp->Prop:=λi σ H4=>XE5 λ(x4 x5 x6 x7:Option V)(N:List Nat)=>PA8 (σ=[Ga (.ref n),Ga (jv one),Ga (jv J),Ga (.ref d),x4,x5,x6,x7]) (Q4 H H4) (H4 d=Ga (.dK (dS N λ_=>V.bl Gf))) (N.Nodup) (∀k∈N,k<x.links.length) (∀p q k,(p,q)∈st->x.Xf p q=Ga k->k∈N) (∀k∈N,∃p q j,(p,q)∈st/\x.Xf p q=Ga j/\k<=j) (∀k∈N,x.links.length - i<=k->∀lk,x.links[k]?=Ga lk->∀p q,(p,q)∈X7 fs lk->∀st,O2 x.up p q st->∀u v,(u,v)∈st->∀j,x.Xf u v=Ga j->j∈N/\j<k)
 refine Qrz aJ
  ⟨_,_,_,_,N,Xb,g3,e3,S,λk g=>(i2 k g).elim nofun (·.1),i3,λk g=>(i2 k g).elim nofun (by rintro⟨_,p,q,h1,h2⟩;exact⟨p,q,k,h1,h2,Gm _⟩),λk g h=>?_⟩ ?_ ?_
 ·have:=(i2 k g).elim nofun (·.1);omega
 ·rintro i σ H4 hi ⟨x4,x5,x6,x7,N,rfl,g4,e4,S,aa,Z,l,Y⟩;have aj:((x.links.length:Int) - 1 - (i:Int))=((x.links.length - 1 - i:Nat):Int):=by omega
  rw[aj];generalize aO:x.links.length - 1 - i=M;have kl:M<x.links.length:=by omega
  have dg:Wx H4 d (jv M) (Y2 (dS N λ_=>V.bl Gf) (ki M)):=Wx.k (k:=ki M) e4;refine⟨_,Xb,_,Xb,d,_,Xb,dg,_,Xb,?_⟩;rw[Qod];by_cases ag:M∈N
  ·rw[GX ag];refine Yv ?_;have an:M<ls.length:=by omega
   subst_vars;obtain⟨lk,ad,ar⟩:=Qy aw (List.getElem?_eq_getElem an);have ai:=ar.Qm (Qu.of g4);obtain⟨a,b,rs⟩:=lk;obtain⟨aS,bS,_⟩:=I.lnk M a b rs ad;and_intros;refine⟨_,Xb,_,Xb,n,C,dx,_,_,Xb,g4 _ _ o1,T.cl,T.links,Uw _,_,Xb,A.k,ls,_,_,Xb,Xb,Zd.of (g4 _ _ ao),Qz (List.getElem?_eq_getElem an),n,A,fs,tb,x,_,(a,b,rs),Xb,X.same g4,ai,FO.lt a aS,FO.lt b bS,λL5 aB H5 g5 ax ak ah=>⟨L5,Xb,⟨_,Zd.of ak⟩,?_⟩⟩;have ay:L5≠d:=Gp (Qc e4 ax);have low:∀{R:List Nat}{i':Nat},(∀k∈N,k∈R)->(∀k∈R,k∈N\/k<M)->(∀p q,(p,q)∈X7 fs (a,b,rs)->∀st,O2 x.up p q st->∀u v,(u,v)∈st->∀j,x.Xf u v=Ga j->j∈R/\j<M)->
     ∀k∈R,x.links.length - (i+1)<=k->∀lk,x.links[k]?=Ga lk->∀p q,(p,q)∈X7 fs lk->∀st,O2 x.up p q st->∀u v,(u,v)∈st->∀j,x.Xf u v=Ga j->j∈R/\j<k:=λ{R i'}a1 a2 a3 k g h lk ae p q D U G u v O j hj=>by
    rcases Tk k (x.links.length - i)with h2|h2
    ·have:k=M:=by omega
     subst this;rw[ad]at ae;cases ae;exact a3 p q D U G u v O j hj
    ·have aE:k∈N:=(a2 k g).elim id λz=>by omega
     obtain⟨b1,b2⟩:=Y k aE h2 lk ae p q D U G u v O j hj;exact⟨a1 _ b1,b2⟩
   let aK:Nat->St->Hp->Prop:=λi5 σ H6=>XE4 λ(x4 x6 x7:Option V)(R:List Nat)=>PA7 (σ=[Ga (.ref n),Ga (jv one),Ga (jv J),Ga (.ref d),x4,Ga (jv M),x6,x7]) (Ih d H5 H6) (H6 d=Ga (.dK (dS R λ_=>V.bl Gf))) (R.Nodup) (∀k∈N,k∈R) (∀k∈R,k∈N\/k<M) (∀p q,(p,q)∈(X7 fs (a,b,rs)).take i5->∀st,O2 x.up p q st->∀u v,(u,v)∈st->∀j,x.Xf u v=Ga j->j∈R/\j<M)
   refine Xl (K:=K) (a:=L5) (xs:=aB) aK
    ⟨_,_,_,N,Xb,Ih.refl,g5 _ _ e4,S,λ_ h=>h,λ_ h=>.inl h,by simp⟩ (by rintro i5 σ H6 _ ⟨_,_,_,_,_,bt,_⟩;exact Zd.of (bt _ _ ak ay)) ?_ ?_
   ·rintro i5 y σ H6 aD ⟨x4,x6,x7,R,rfl,ac,e6,af,sub,only,done⟩;subst_vars;obtain⟨⟨p,r⟩,aq,c,rfl,hc⟩:=Qy ah aD;have ap:(p,r)∈X7 fs (a,b,rs):=List.mem_of_getElem? aq;obtain⟨pS,rS,cn⟩:=Qmw I ad ap;and_intros;have g6:Q4 H H6:=λb o e=>ac _ _ (g5 _ _ (g4 _ _ e)) (Qc e d0);have aG:x.lead p=x.lead r:=(I.conn p pS r rS).mpr (cn.mono λz hz=>List.mem_of_mem_take hz);have c6:=ac _ _ hc (Yd hc (g5 _ _ e4) nofun);refine⟨c,_,Xb,Z2.of c6,Xb,_,_,Xb,_,_,Xb,Xb,?_⟩;refine⟨_,Xb,n,dx,_,Xb,g6 _ _ o1,Qli _,_,Xb,_,Xb,n,A,fs,tb,x,p,r,Xb,X.same g6,I,pS,rS,aG,hS,λL7 aN aP H7 g7 aM al am W7=>⟨L7,Xb,⟨_,Zd.of al⟩,?_⟩⟩;refine Qcu T X (g6.trans g7) d0 (N0:=R) (g7 _ _ e6) al am (m:=M) (λp q h=>?_) af (by omega) (λk g=>?_) λN8 x4 H8 av i1 i2 i3 az e8=>?_
    ·obtain⟨k,h1,h2⟩:=W7.lk p q h;exact⟨k,h1,h2 M cn⟩
    ·rcases only k g with h|h
     ·have:=aa k h;omega
     ·omega
    ·refine⟨_,_,_,N8,Xb,λb o e h=>az _ _ (g7 _ _ (ac _ _ e h)) h,e8,av,λk g=>i1 k (sub k g),λk g=>(i2 k g).elim (only k) (λh=>.inr h.1),λp' q' D U G u v O j hj=>?_⟩;rw[List.take_add_one,aq]at D;rcases List.mem_append.mp D with h|h
     ·obtain⟨b1,b2⟩:=done p' q' h U G u v O j hj;exact⟨i1 _ b1,b2⟩
     ·have:(p',q')=(p,r):=by simpa using h
      cases this;have:=G.uniq W7.rel;subst this;obtain⟨k,h1,h2⟩:=W7.lk u v O;rw[hj]at h1;cases h1;exact⟨i3 u v j O hj,h2 M cn⟩
   ·rintro σ H6 ⟨x4,x6,x7,R,rfl,ac,e6,af,sub,only,done⟩;rw[Gr ah,List.take_length]at done;exact⟨_,_,_,_,R,Xb,λb o e=>ac _ _ (g5 _ _ (g4 _ _ e)) (Qc e d0),e6,af,λk g=>(only k g).elim (aa k) (λh=>by omega),λp q k h1 h2=>sub _ (Z p q k h1 h2),λk g=>(only k g).elim (l k) (λh=>by obtain⟨p,q,j,h1,h2,h3⟩:=l M ag;exact⟨p,q,j,h1,h2,by omega⟩),low (i':=0) sub only done⟩
  ·rw[Gz ag];refine Zp ⟨_,_,_,_,N,Xb,g4,e4,S,aa,Z,l,λk g h=>?_⟩;rcases Tk k (x.links.length - i)with h2|h2
   ·have:k=M:=by omega
    exact absurd (this▸g) ag
   ·exact Y k g h2
 ·rintro σ H4 ⟨x4,x5,x6,x7,N,rfl,g4,e4,S,aa,Z,l,Y⟩;have aF:N.length<64:=by have:N.length<=(List.range x.links.length).length:=Xk S λk g=>List.mem_range.mpr (aa k g);rw[List.length_range]at this;omega
  refine⟨_,Xb,d,_,N.map (λk:Nat=>(k:Int)),Xb,e4,?_,by rw[Va];exact aF,λr ns r0 hp hs=>?_⟩
  ·unfold dS;rw[List.map_map,List.map_map];rfl
  have aA:ns=(ns.map DF).map (λk:Nat=>(k:Int)):=by rw[List.map_map];refine(List.map_id ns).symm.trans (List.map_congr_left λz hz=>?_);have:=hp.mem_iff.mp hz;obtain⟨k,_,rfl⟩:=List.mem_map.mp this;rfl
  have ab:(ns.map DF).Perm N:=by
   have:=hp.map DF;rw[List.map_map]at this;have e:(N.map (DF∘λk:Nat=>(k:Int)))=N:=by refine(List.map_congr_left λk _=>?_).trans (List.map_id N);rfl
   rwa[e]at this
  have eo:HO.lst (ns.map V.int)=HO.lst ((ns.map DF).map jv):=by
   congr 1
   conv=>lhs;rw[aA]
   rw[List.map_map];rfl
  have pw:(ns.map DF).Pairwise (·<=·):=by rw[List.pairwise_map];exact hs.imp λh=>by omega
  rw[eo];refine q r (ns.map DF) _ (g4.trans (Qg r0 _)) (g4.free r0) Qb (ab.nodup_iff.mpr S) pw ⟨λk g=>aa k (ab.mem_iff.mp g),λU G p q' D k g=>?_,λk g lk ad p q' D U G u v O j hj=>?_,λk g=>?_⟩
  ·have:=G.uniq W.rel;subst this;exact ab.mem_iff.mpr (Z p q' k D g)
  ·obtain⟨b1,b2⟩:=Y k (ab.mem_iff.mp g) (by omega) lk ad p q' D U G u v O j hj;exact⟨ab.mem_iff.mpr b1,b2⟩
  ·subst_vars;obtain⟨p,q',j,h1,h2,h3⟩:=l k (ab.mem_iff.mp g);and_intros;exact⟨st,p,q',j,W.rel,h1,h2,h3⟩
end
inductive Lr where
 |told (n:Nat)
 |asked
 |turn (k:Nat)
 |chain (ks:List Nat)
 |like (ks:List Nat)
abbrev Ln:=Nat×Nat×Lr
variable{ls:List Ln}
def Chn(pre:List Ln):Nat->List Nat->Nat->Prop
 |p,[],q=>p=q
 |p,k::a,q=>∃m r,pre[k]?=Ga (p,m,r)/\Chn pre m a q
def Okl(fs:List Fm)(lks:List Lk)(pre:List Ln)(a b:Nat):Lr->Prop
 |.told n=>(a,b,Ga (.told n))∈lks
 |.asked=>(a,b,Ga .asked)∈lks
 |.turn k=>∃r,pre[k]?=Ga (b,a,r)
 |.chain c=>Chn pre a c b
 |.like c=>Ye fs a=Ye fs b/\(Zk fs a).length=(Zk fs b).length/\c.length=(Zk fs a).length/\∀j k p q:Nat,c[j]?=Ga k->(Zk fs a)[j]?=Ga p->(Zk fs b)[j]?=Ga q->∃r,pre[k]?=Ga (p,q,r)
def Gdl(fs:List Fm)(lks:List Lk)(ls:List Ln):Prop:=∀(i a b:Nat)r,ls[i]?=Ga (a,b,r)->Okl fs lks (ls.take i) a b r
theorem Gdl.nil:Gdl fs lks []:=λi a b r h=>by simp at h
theorem Gdl.snoc{r:Lr}(g:Gdl fs lks ls)(h:Okl fs lks ls a b r):Gdl fs lks (ls++[(a,b,r)]):=λi c d e hi=>by
 rcases Tk i ls.length with hl|hl
 ·rw[List.getElem?_append_left hl]at hi;rw[List.take_append_of_le_length (by lia)];exact g i c d e hi
 ·rw[List.getElem?_append_right hl]at hi;have:i=ls.length:=by
   rcases Tk (i - ls.length) 1 with h1|h1
   ·lia
   ·rw[List.getElem?_eq_none (by simpa using h1)]at hi;cases hi
  subst this;simp at hi;obtain⟨rfl,rfl,rfl⟩:=hi;rw[List.take_left];exact h
def Qak(H:Hp)(X:Gc->Prop)(v:V):Lr->Prop
 |.told n=>∃c,v=.ref c/\H c=Ga (.tup [.str "told",jv n])
 |.asked=>∃c,v=.ref c/\H c=Ga (.tup [.str "asked"])
 |.turn k=>∃c,v=.ref c/\H c=Ga (.tup [.str "turn",jv k])
 |.chain a=>∃c l,v=.ref c/\H c=Ga (.tup [.str "chain",.ref l])/\H l=Ga (.lst (a.map jv))/\¬X l
 |.like a=>∃c l,v=.ref c/\H c=Ga (.tup [.str "like",.ref l])/\H l=Ga (.lst (a.map jv))/\¬X l
inductive Qep(H:Hp)(X:Gc->Prop)(us:List V)(v:V)(l:Ln):Prop
 |mk (c:_) (v1:_) (v2:_) (rv:_) (h0:v=.ref c) (h1:H c=Ga (.tup [v1,v2,rv])) (h2:us[l.1]?=Ga v1) (h3:us[l.2.1]?=Ga v2) (h4:Qak H X rv l.2.2):Qep H X us v l
structure Jw(L M:Gc)(H H':Hp):Prop where
 keep:∀b o,H b=Ga o->b≠L->b≠M->H' b=Ga o
 there:∀b,H' b=Gh->H b=Gh
theorem Jw.refl:Jw L M H H:=⟨λ_ _ e _ _=>e,λ_ h=>h⟩
theorem Jw.trans{H2:Hp}(a:Jw L M H H1)(b:Jw L M H1 H2):Jw L M H H2:=⟨λc o e h1 h2=>b.keep c o (a.keep c o e h1 h2) h1 h2,λc h=>a.there c (b.there c h)⟩
theorem Jw.of(g:Q4 H H1):Jw L M H H1:=⟨λc o e _ _=>g c o e,λc h=>g.free h⟩
theorem Qak.kp(tp:∀{c:Gc}{ys:List V},H c=Ga (.tup ys)->H' c=Ga (.tup ys))(lp:∀{c:Gc}{ys:List V},H c=Ga (.lst ys)->¬X c->H' c=Ga (.lst ys)):∀{r:Lr},Qak H X v r->Qak H' X v r:=by
 intro r h;cases r with
 |told n=>obtain⟨c,h1,h2⟩:=h;exact⟨c,h1,tp h2⟩
 |asked=>obtain⟨c,h1,h2⟩:=h;exact⟨c,h1,tp h2⟩
 |turn k=>obtain⟨c,h1,h2⟩:=h;exact⟨c,h1,tp h2⟩
 |chain d=>obtain⟨c,l,h1,h2,b,a⟩:=h;exact⟨c,l,h1,tp h2,lp b a,a⟩
 |like d=>obtain⟨c,l,h1,h2,b,a⟩:=h;exact⟨c,l,h1,tp h2,lp b a,a⟩
theorem Qep.kp{X:Gc->Prop}{H H':Hp}(tp:∀{c:Gc}{ys:List V},H c=Ga (.tup ys)->H' c=Ga (.tup ys))(lp:∀{c:Gc}{ys:List V},H c=Ga (.lst ys)->¬X c->H' c=Ga (.lst ys)){us:List V}{v:V}{l:Ln}(h:Qep H X us v l):Qep H' X us v l:=by obtain⟨c,e,f,rv,h1,h2,a,b,d⟩:=h;exact⟨c,e,f,rv,h1,tp h2,a,b,d.kp tp lp⟩
theorem Qak.ex{Y:Gc->Prop}(d:∀c ys,H c=Ga (.lst ys)->¬X c->¬Y c):∀{r:Lr},Qak H X v r->Qak H Y v r:=by
 intro r h;cases r with
 |told n=>exact h
 |asked=>exact h
 |turn k=>exact h
 |chain e=>obtain⟨c,l,h1,h2,a,b⟩:=h;exact⟨c,l,h1,h2,a,d _ _ a b⟩
 |like e=>obtain⟨c,l,h1,h2,a,b⟩:=h;exact⟨c,l,h1,h2,a,d _ _ a b⟩
theorem Qep.ex{X Y:Gc->Prop}{H:Hp}(e:∀c ys,H c=Ga (.lst ys)->¬X c->¬Y c){us:List V}{v:V}{l:Ln}(h:Qep H X us v l):Qep H Y us v l:=by obtain⟨c,f,g,rv,h1,h2,a,b,d⟩:=h;exact⟨c,f,g,rv,h1,h2,a,b,d.ex e⟩
structure Sv where
 sh:Gc
 n:Gc
 t:Gc
 L:Gc
 M:Gc
 A:Na
 fs:List Fm
 tb:Nat
 x:Nn
 us:List V
 H0:Hp
 Ex:Gc->Prop
def Qbs(v:Sv):List (Ta×V):=[("things",.ref v.t),("net",.ref v.n),("lines",.ref v.L),("numbers",.ref v.M)]
structure Ve(P:Gg)(w:Gs)(C D:Gc)(v:Sv)(H:Hp)(ls:List Ln)(N:Nat->Nat->Option Nat):Prop where
 ob:∃dx,H v.sh=Ga (.ins D dx (Qbs v))
 O7:Q4 v.H0 H
 L0:v.H0 v.L=Gh
 M0:v.H0 v.M=Gh
 net:Z6 P w C v.H0 v.n v.A v.fs v.tb v.x
 th:v.H0 v.t=Ga (.lst v.us)
 li:∃vs,H v.L=Ga (.lst vs)/\Paired (Qep H v.Ex v.us) vs ls
 nu:∃zw,H v.M=Ga (.dT zw)/\zw.length<=ls.length/\∀i j:Nat,Y2 zw [ki i,ki j]=(N i j).map jv
 ok:∀i j k,N i j=Ga k->∃r,ls[k]?=Ga (i,j,r)
 good:Gdl v.fs v.x.links ls
 exL:v.Ex v.L
 exA:∀b,v.Ex b->∃o,H b=Ga o
theorem Jw.tp{zw:List (List Xv×V)}(F:Jw L M H H')(b:H M=Ga (.dT zw))(a:H L=Ga (.lst xs)){c:Gc}(e:H c=Ga (.tup ys)):H' c=Ga (.tup ys):=F.keep _ _ e (Yd e a nofun) (Yd e b nofun)
theorem Jw.lp{zw:List (List Xv×V)}(F:Jw L M H H')(b:H M=Ga (.dT zw))(a:X L){c:Gc}(e:H c=Ga (.lst ys))(h:¬X c):H' c=Ga (.lst ys):=F.keep _ _ e (λz=>h (z▸a)) (Yd e b nofun)
theorem Ve.fr{v:Sv}(S:Ve P w C D v H ls N)(g:Q4 H H'):Ve P w C D v H' ls N:=by obtain⟨dx,a⟩:=S.ob;obtain⟨vs,l1,l2⟩:=S.li;obtain⟨zw,n1,n2,n3⟩:=S.nu;exact⟨⟨dx,g _ _ a⟩,S.O7.trans g,S.L0,S.M0,S.net,S.th,⟨vs,g _ _ l1,L2.Paired.Ya l2 λ_ _ h=>h.kp (λe=>g _ _ e) (λe _=>g _ _ e)⟩,⟨zw,g _ _ n1,n2,n3⟩,S.ok,S.good,S.exL,λb hb=>let⟨o,e⟩:=S.exA b hb;⟨o,g _ _ e⟩⟩
theorem Ve.more{v:Sv}(S:Ve P w C D v H ls N)(d:H r=Gh):Ve P w C D {v with Ex:=λb=>v.Ex b\/b=r} (zj H r (.lst [])) ls N:=by
 have S1:=S.fr (Qg d (.lst []));obtain⟨vs,l1,l2⟩:=S.li;obtain⟨f,a,i⟩:=S1.li;have:f=vs:=by rw[Qg d (.lst []) _ _ l1]at a;cases a;rfl
 subst this;refine⟨S1.ob,S1.O7,S1.L0,S1.M0,S1.net,S1.th,⟨f,a,L2.Paired.Ya l2 λ_ _ h=>(h.ex (Y:=λb=>v.Ex b\/b=r) λc ys e g z=>?_).kp (λe=>Qg d _ _ _ e) (λe _=>Qg d _ _ _ e)⟩,S1.nu,S1.ok,S1.good,.inl S1.exL,λb hb=>?_⟩
 ·rcases z with z|z
  ·exact g z
  ·rw[z,d]at e;cases e
 ·rcases hb with hb|hb
  ·exact S1.exA b hb
  ·exact⟨_,by rw[hb];exact Qb⟩
theorem Ve.less{v:Sv}(S:Ve P w C D {v with Ex:=λb=>v.Ex b\/b=r} H ls N)(a:v.Ex v.L):Ve P w C D v H ls N:=by obtain⟨vs,l1,l2⟩:=S.li;exact⟨S.ob,S.O7,S.L0,S.M0,S.net,S.th,⟨vs,l1,L2.Paired.Ya l2 λ_ _ h=>h.ex λc ys e d z=>d (.inl z)⟩,S.nu,S.ok,S.good,a,λb hb=>S.exA b (.inl hb)⟩
theorem Ve.grow{v:Sv}{zs:List V}(S:Ve P w C D v H ls N)(j:v.Ex r)(c:H r=Ga (.lst ys))(g:r≠v.L)(f:v.H0 r=Gh):Ve P w C D v (zj H r (.lst zs)) ls N:=by
 obtain⟨dx,d⟩:=S.ob;obtain⟨vs,l1,l2⟩:=S.li;obtain⟨zw,n1,n2,n3⟩:=S.nu;refine⟨⟨dx,Qi d (Yd d c nofun)⟩,λb o e=>Qi (S.O7 _ _ e) (Qc e f),S.L0,S.M0,S.net,S.th,⟨vs,Qi l1 (Gp g),L2.Paired.Ya l2 λ_ _ h=>h.kp (λe=>Qi e (Yd e c nofun)) (λe i=>Qi e (λz=>i (z▸j)))⟩,⟨zw,Qi n1 (Yd n1 c nofun),n2,n3⟩,S.ok,S.good,S.exL,λb hb=>?_⟩;by_cases a:b=r
 ·exact⟨_,by rw[a];exact Qb⟩
 ·obtain⟨o,e⟩:=S.exA b hb;exact⟨o,Qi e a⟩
theorem Ve.same{v:Sv}(S:Ve P w C D v H ls N)(F:Jw v.L v.M H H'):Q4 v.H0 H':=λb o e=>F.keep b o (S.O7 b o e) (Qc e S.L0) (Qc e S.M0)
def putN(N:Nat->Nat->Option Nat)(a b m:Nat):Nat->Nat->Option Nat:=λi j=>if i=a/\j=b then Ga m else N i j
structure Qpe(K:Gd)(D:Gc):Prop where
 cl:Cls K D
 things:Yp K D "things"
 net:Yp K D "net"
 lines:Yp K D "lines"
 Jc:Yp K D "numbers"
theorem Qe2(v:Sv):(Qbs v).lookup ("things":Ta)=Ga (.ref v.t):=by rfl
theorem Qsh(v:Sv):(Qbs v).lookup ("net":Ta)=Ga (.ref v.n):=by rfl
theorem Qdv(v:Sv):(Qbs v).lookup ("lines":Ta)=Ga (.ref v.L):=by rfl
theorem Vc(v:Sv):(Qbs v).lookup ("numbers":Ta)=Ga (.ref v.M):=by rfl
theorem Qh1(v:Sv):(Qbs v).lookup ("write":Ta)=Gh:=by rfl
theorem Qgk(v:Sv):(Qbs v).lookup ("write_link":Ta)=Gh:=by rfl
theorem Rr(v:Sv):(Qbs v).lookup ("line_for":Ta)=Gh:=by rfl
inductive Qiu(P:Gg)(w:Gs)(C:Gc)(D:Gc)(vs:List V)(H:Hp)(Q:VK):Prop
 |mk (v:Sv) (ls:List Ln) (N:Nat->Nat->Option Nat) (a:Nat) (b:Nat) (rv:V) (r:Lr) (h0:vs=[.ref v.sh,jv a,jv b,rv]) (h1:Ve P w C D v H ls N) (h2:a<v.us.length) (h3:b<v.us.length) (h4:Qak H v.Ex rv r) (h5:Okl v.fs v.x.links ls a b r) (h6:ls.length<=1000000) (h7:∀H',Ve P w C D v H' (ls++[(a,b,r)]) (putN N a b ls.length)->Jw v.L v.M H H'->Q .non H'):Qiu P w C D vs H Q
def Qhj(P:Gg)(w:Gs)(C D:Gc):Sp:=λvs H Q _=>Qiu P w C D vs H Q
section
variable{P:Gg}{w:Gs}{K:Gd}{mg:Ta->Option Value}{base:Heap}
theorem Qwh:Qx ["self","one","other","reason"] ["self","one","other","reason"] (Ql Qmr):=by eq_refl
theorem Qrm(F:Wd K "write" "Showing.write" Qmr f fd)(T:Qpe K D)(B:Jr mg):Qs P w K mg base Z4 1 f fd ["self","one","other","reason"] (Qhj P w C D):=by
 refine F.ok Qwh (λvs H Q E h=>?_) (λcdv A outer s H vs Q E hr h=>?_)
 ·obtain⟨v,ls,N,a,b,rv,r,rfl,_⟩:=h;rfl
 obtain⟨v,ls,N,a,b,rv,r,rfl,S,al,bl,U,Zw,X,q⟩:=h;have hu:=U6 hr;refine⟨_,Qd (Wo hu (Qn (pv 0) rfl) (Zb (Qa (pv 1) (Qa (pv 2) Qe))) (Qp Zc rfl B.len GO (Qa (Qn (pv 0) rfl) Qe)) rfl)
  (Qh (Ze (Xw Gu GF GV Z0 (Qn (pv 0) rfl) (Qa (Zb (Qa (Qo Zh (Qn (pv 0) rfl) (pv 1)) (Qa (Qo Zh (Qn (pv 0) rfl) (pv 2)) (Qa (pv 3) Qe)))) Qe)))),?_⟩
 subst_vars;obtain⟨dx,n⟩:=S.ob;obtain⟨vs,l1,l2⟩:=S.li;obtain⟨zw,n1,n2,n3⟩:=S.nu;and_intros;have R:=Gr l2;refine⟨_,Xb,v.sh,D,dx,_,_,Xb,n,T.cl,T.lines,Qdv _,v.L,vs,Xb,.inl (Zd.of l1),_,Xb,v.sh,D,dx,_,_,Xb,n,T.cl,T.Jc,Vc _,_,Xb,_,Xb,by show 2<=Gj;decide,λc hc=>?_⟩;have s1:=Qg hc (.tup [jv a,jv b]);have dp:=I8.t (k:=[ki a,ki b]) (v:=.int (vs.length:Int)) (s1 _ _ n1) (show(zj H c (.tup [jv a,jv b])) c=Ga (.tup ([ki a,ki b].map kV))from Qb) (by rw[GQ];lia);refine⟨v.M,_,Xb,dp,?_⟩;have W:v.L≠v.M:=Yd l1 n1 nofun;have Y:v.sh≠v.M:=Yd n n1 nofun;have oL:v.sh≠v.L:=Yd n l1 nofun;generalize l:zj (zj H c (.tup [jv a,jv b])) v.M (.dT (W9 zw [ki a,ki b] (.int (vs.length:Int))))=H2;have G:∀{d o},H d=Ga o->d≠v.M->H2 d=Ga o:=λe h=>by rw[<-l];exact Qi (s1 _ _ e) h
 have t2:∀{d},H2 d=Gh->H d=Gh:=λ{d}h=>by rw[<-l]at h;exact s1.free (Zy h)
 have M2:H2 v.M=Ga (.dT (W9 zw [ki a,ki b] (.int (vs.length:Int)))):=by rw[<-l];exact Qb
 have V:=G n Y;have g:=G l1 W;have Z:H v.t=Ga (.lst v.us):=S.O7 _ _ S.th;have y:=G Z (Yd Z n1 nofun);have ua:v.us[a]?=Ga v.us[a]:=List.getElem?_eq_getElem al;have ub:v.us[b]?=Ga v.us[b]:=List.getElem?_eq_getElem bl;refine⟨_,Xb,v.sh,D,dx,_,_,Xb,V,T.cl,T.lines,Qdv _,.inl ⟨Xb,_,Zd.of g⟩,_,Xb,v.sh,D,dx,_,_,Xb,V,T.cl,T.things,Qe2 _,_,Xb,v.t,v.us,_,_,Xb,Xb,Zd.of y,Qz ua,_,Xb,v.sh,D,dx,_,_,Xb,V,T.cl,T.things,Qe2 _,_,Xb,v.t,v.us,_,_,Xb,Xb,Zd.of y,Qz ub,_,Xb,by show 3<=Gj;decide,λp m=>?_⟩;have I:=Qg m (.tup [v.us[a],v.us[b],rv]);have J:p≠v.L:=Gp (Qc g m);have aa:p≠v.M:=Gp (Qc M2 m);refine⟨v.L,vs,_,Xb,Xb,I _ _ g,by rw[GQ];lia,?_⟩;have F:Jw v.L v.M H (zj (zj H2 p (.tup [v.us[a],v.us[b],rv])) v.L (.lst (vs++[.ref p]))):=⟨λd o e h1 h2=>Qi (I _ _ (G e h2)) h1,λd h=>t2 (I.free (Zy h))⟩;refine q _ ⟨⟨dx,F.keep _ _ n oL Y⟩,S.same F,S.L0,S.M0,S.net,S.th,⟨_,Qb,DI (L2.Paired.Ya l2 λ_ _ h=>h.kp (F.tp n1 l1) (F.lp n1 S.exL)) ⟨p,v.us[a],v.us[b],rv,Xb,Qi Qb J,ua,ub,U.kp (F.tp n1 l1) (F.lp n1 S.exL)⟩⟩,⟨_,Qi (I _ _ M2) (Gp W),?_,λi j=>?_⟩,λi j k u=>?_,S.good.snoc Zw,S.exL,λd O=>?_⟩ F
 ·have:=Wm zw [ki a,ki b] (.int (vs.length:Int));rw[List.length_append,List.length_singleton];lia
 ·rw[Qed,n3];unfold putN;by_cases h:i=a/\j=b
  ·obtain⟨rfl,rfl⟩:=h;rw[Gn Xb,Gn ⟨Xb,Xb⟩,R];rfl
  ·rw[Gi h,Gi];intro z;simp only[List.cons.injEq,FP]at z;exact h ⟨Jd z.1,Jd z.2⟩
 ·unfold putN at u;by_cases h:i=a/\j=b
  ·rw[Gn h]at u;cases u;obtain⟨rfl,rfl⟩:=h;exact⟨r,by simp⟩
  ·rw[Gi h]at u;obtain⟨r',x⟩:=S.ok i j k u;exact⟨r',by rw[List.getElem?_append_left (List.getElem?_eq_some_iff.mp x).1];exact x⟩
 ·obtain⟨o,e⟩:=S.exA d O;exact Sm.mp λz=>by rw[F.there d z]at e;cases e
end
def Dr(N:Nat->Nat->Option Nat)(a b:Nat):Prop:=(N a b).isSome=Gf\/(N b a).isSome=Gf
def Qgu(N a:Nat->Nat->Option Nat):Prop:=∀i j,(N i j).isSome=Gf->(a i j).isSome=Gf
def Cov(v:Sv)(N:Nat->Nat->Option Nat)(m:Nat):Prop:=∀i j,(N i j).isSome=Gf->Cn (v.x.links.take m) i j
theorem Dr.sub{c:Nat->Nat->Option Nat}(h:Dr N a b)(s:Qgu N c):Dr c a b:=h.elim (λh=>.inl (s _ _ h)) λh=>.inr (s _ _ h)
theorem Qnc:Qgu N (putN N a b m):=λi j h=>by
 unfold putN;split
 ·rfl
 ·exact h
theorem Qob{v:Sv}(h:Cov v N m)(c:Cn (v.x.links.take m) a b):Cov v (putN N a b k) m:=λi j z=>by
 unfold putN at z;split at z
 ·rename_i e
  rw[e.1,e.2];exact c
 ·exact h i j z
theorem Qk2:putN N a b m a b=Ga m:=Gn ⟨Xb,Xb⟩
structure Go(v:Sv)(N:Nat->Nat->Option Nat)(a b:Nat):Prop where
 inv:X8 (Ye v.fs) (Zk v.fs) v.x []
 aS:a∈v.x.S
 bS:b∈v.x.S
 eq:v.x.lead a=v.x.lead b
 hS:v.x.S.length<=1000
 st:∀st,O2 v.x.up a b st->∀p q,(p,q)∈st->Dr N p q
inductive Qne(P:Gg)(w:Gs)(C:Gc)(D:Gc)(g:Bool)(vs:List V)(H:Hp)(Q:VK):Prop
 |mk (v:Sv) (ls:List Ln) (N:Nat->Nat->Option Nat) (a:Nat) (b:Nat) (h0:vs=[.ref v.sh,jv a,jv b]) (h1:Ve P w C D v H ls N) (h2:a<v.us.length) (h3:b<v.us.length) (h4:(∀p∈v.x.S,p<v.us.length)) (h5:(Dr N a b\/(g=Gf/\Go v N a b))) (h6:ls.length+(if g=Gf then 3000 else 0)<=900000) (h7:∀(k:Nat)(more:List Ln)(N':Nat->Nat->Option Nat)(H':Hp),Ve P w C D v H' (ls++more) N'->Jw v.L v.M H H'->N' a b=Ga k->Qgu N N'->more.length<=2*v.x.S.length+1->(∀m,Cov v N m->Cn (v.x.links.take m) a b->Cov v N' m)->(N a b=Gh->∃r,(ls++more).getLast?=Ga (a,b,r))->(g=Gq->more.length<=1)->(N a b≠Gh->more=[])->Q (jv k) H'):Qne P w C D g vs H Q
def Qdh(P:Gg)(w:Gs)(C D:Gc)(g:Bool):Sp:=λvs H Q _=>Qne P w C D g vs H Q
def Qr2(P:Gg)(w:Gs)(C D:Gc):Bool->Sp
 |true=>Qdh P w C D Gq
 |false=>λ_ _ _ _=>False
theorem Qq1{ls:List Ln}:∀{st:List (Nat×Nat)}{a:List Nat}{p q:Nat},Qaa p st q->a.length=st.length->(∀j k u v:Nat,a[j]?=Ga k->st[j]?=Ga (u,v)->∃r,ls[k]?=Ga (u,v,r))->Chn ls p a q
 |[],[],p,q,h,_,_=>by cases h;rfl
 |[],_::_,_,_,_,h,_=>by simp at h
 |_::_,[],_,_,_,h,_=>by simp at h
 |_::st,k::a,p,q,.cons t,h,f=>by obtain⟨r,b⟩:=f 0 k _ _ rfl rfl;exact⟨_,r,b,Qq1 t (by simpa using h) λj c u v h1 h2=>f (j+1) c u v h1 h2⟩
theorem Qt0{more:List Ln}{l:Ln}(h:ls[k]?=Ga l):(ls++more)[k]?=Ga l:=by rw[List.getElem?_append_left (List.getElem?_eq_some_iff.mp h).1];exact h
section
variable{P:Gg}{w:Gs}{K:Gd}{mg:Ta->Option Value}{base:Heap}
theorem Qfm:Qx ["self","one","other","reason"] ["self","one","other"] (Ql R5):=by eq_refl
theorem Q3o:(["start","end","self"]:List Ta).Nodup:=by decide+kernel
set_option hygiene false
local macro_rules
 |`(tactic|infer_instance)=>`(tactic|(
 obtain⟨dx1,o1'⟩:=S1.ob
 refine⟨_,Xb,v.sh,dx1,_,Xb,o1',Qh1 _,_,Xb,_,Xb,_,Xb,v,ls++more1,N1,a,b,rv,r,Xb,S1,al,bl,hrv,Zw,by rw[List.length_append];omega,λH2 S2 F2=>?_⟩
 obtain⟨dx2,o2⟩:=S2.ob
 obtain⟨kv2,m2,_,vv2⟩:=S2.nu
 refine⟨_,Xb,v.sh,D,dx2,_,_,Xb,o2,T.cl,T.Jc,Vc _,_,Xb,_,Xb,by show 2<=Gj;decide,λc3 hc3=>?_⟩
 have s3:=Qg hc3 (.tup [jv a,jv b])
 have dg3:=Wx.t (k:=[ki a,ki b]) (s3 _ _ m2) (show(zj H2 c3 (.tup [jv a,jv b])) c3=Ga (.tup ([ki a,ki b].map kV))from Qb)
 rw[vv2,Qk2]at dg3
 refine⟨v.M,_,Xb,dg3,?_⟩
 have S3:=S2.fr s3
 rw[List.append_assoc]at S3
 exact q _ (more1++[(a,b,r)]) _ _ S3 ((F1.trans F2).trans (Jw.of s3)) Qk2 (λi j h=>Qnc _ _ (sub1 i j h)) (by rw[List.length_append,List.length_singleton];omega) (λm hc hm=>Qob (cov1 m hc hm) hm) (λ_=>⟨r,by rw[<-List.append_assoc,List.getLast?_concat]⟩) (λhg=>by rw[List.length_append,List.length_singleton];have:=mof hg;omega) (λz=>absurd hN z)))
set_option hygiene true
theorem Qns{g:Bool}(hk:2<=k)(F:Wd K "line_for" "Showing.line_for" R5 f fd)(T:Qpe K D)(TN:Uc K mg C)(mL:Z9 K D "line_for" f)(bL:Binds K fd ["self","one","other"] [])(G:Qs P w K mg base Z4 k f fd ["self","one","other"] (Qr2 P w C D g))
  (mW:Z9 K C "way" fW)(GW:Qs P w K mg base Z4 2 fW fdW ["self","one","other"] (Qt3 P w C))(bW:Binds K fdW ["self","one","other"] [])(mR:Z9 K D "write" fR)(GR:Qs P w K mg base Z4 1 fR fdR ["self","one","other","reason"] (Qhj P w C D))(bR:Binds K fdR ["self","one","other","reason"] []):
  Qs P w K mg base Z4 (k+1) f fd ["self","one","other"] (Qdh P w C D g):=by
 refine F.ok Qfm (λvs H Q E h=>?_) (λcdv A outer s H vs Q E hr h=>?_)
 ·obtain⟨v,ls,N,a,b,rfl,_⟩:=h;rfl
 obtain⟨v,ls,N,a,b,rfl,S,al,bl,Sl,pre,ao,q⟩:=h;have hu:=U6 hr;have aF:Yb 1 _:=hr.mono (by omega);have aG:Yb 2 _:=hr.mono (by omega);have nd:=Qfm.nd;have aD:ls.length<=900000:=by omega
 refine⟨_,Qd (Zn (R0 (Qp2 hu (Zb (Qa (pv 1) (Qa (pv 2) Qe))) (Qn (pv 0) rfl)))
   (Qd (Zn (R0 (Qmm hu (Zb (Qa (pv 2) (Qa (pv 1) Qe))) (Qn (pv 0) rfl)))
    (Qh (Qt 3 nd (Zb (Qa Zf (Qa (Zr hu (Qn (pv 0) rfl) (Zb (Qa (pv 2) (Qa (pv 1) Qe))) (λ_ _=>rfl)) Qe)))))
    (Qh (Qt 3 nd (Zb (Qa Zf (Qa
     (Vx (te:=Qjt D "line_for" (Qr2 P w C D g) [] E0 (V7 2) (Qe7 (V7 0) (Qe7 (V7 1) Qp7))) (g:=Q1h K 2 (Qkg (Vt 0) (Qkg (Vt 1) Q0h))) (own:=["start","end"]) (fv:=[(0,"self")]) rfl (S:=(by eq_refl:Wh (Ql R5) _)) (.cons rfl (Di Xb) rfl .nil)
      (Xd (Q9 (Qn (pv 0) rfl) TN.cl mW GW aG bW .nil Q6 (Qa (pv 1) (Qa (pv 2) Qe))))
      (λ_ _ _ _ _=>Vr rfl (Zl (Xe (i:=0) Q3o rfl (Di Xb) (Es Xb)) (Zl (Xe (i:=1) Q3o rfl (Di Xb) (Es Xb)) Wb))) (λ_ _ _ _ _=>Ww)
      (λ_ _ _ _ _=>Q9 (pv 2) T.cl mL G hr bL .nil Q6 (Qa (pv 0) (Qa (pv 1) Qe)))) Qe))))))
   (Qh (Ze (Q9 (pv 0) T.cl mR GR aF bR .nil Q6 (Qa (pv 1) (Qa (pv 2) (Qa (pv 3) Qe))))))) Q7)
  (Qh (Qv (Zr hu (Qn (pv 0) rfl) (Zb (Qa (pv 1) (Qa (pv 2) Qe))) (λ_ _=>rfl)))),?_⟩
 subst_vars;obtain⟨dx,o1⟩:=S.ob;obtain⟨zw,n1,n2,n3⟩:=S.nu;and_intros;refine⟨_,Xb,_,Xb,by show 2<=Gj;decide,λc hc=>?_⟩;have s1:=Qg hc (.tup [jv a,jv b]);have aj:=Wx.t (k:=[ki a,ki b]) (s1 _ _ n1) (show(zj H c (.tup [jv a,jv b])) c=Ga (.tup ([ki a,ki b].map kV))from Qb);rw[n3]at aj;refine⟨_,Xb,v.sh,D,dx,_,_,Xb,s1 _ _ o1,T.cl,T.Jc,Vc _,v.M,_,Xb,aj,_,Xb,?_⟩;cases hN:N a b with
 |some l=>refine Zp ?_;have S1:=S.fr s1;obtain⟨dx2,o2⟩:=S1.ob;obtain⟨kv2,m2,_,vv2⟩:=S1.nu;refine⟨_,Xb,v.sh,D,dx2,_,_,Xb,o2,T.cl,T.Jc,Vc _,_,Xb,_,Xb,by show 2<=Gj;decide,λc3 hc3=>?_⟩;have s3:=Qg hc3 (.tup [jv a,jv b]);have dg3:=Wx.t (k:=[ki a,ki b]) (s3 _ _ m2) (show(zj (zj H c (.tup [jv a,jv b])) c3 (.tup [jv a,jv b])) c3=Ga (.tup ([ki a,ki b].map kV))from Qb);rw[vv2,hN]at dg3;refine⟨v.M,_,Xb,dg3,?_⟩;have S3:=S1.fr s3;exact q l [] N _ (by rw[List.append_nil];exact S3) (Jw.of (s1.trans s3)) hN (λ_ _ h=>h) (Gw _) (λ_ h _=>h) (λz=>by rw[hN]at z;cases z) (λ_=>Gw _) (λ_=>rfl)
 |none=>
  refine Yv ?_;refine⟨_,Xb,_,Xb,by show 2<=Gj;decide,λc2 ay=>?_⟩;have s2:=s1.trans (Qg ay (.tup [jv b,jv a]));have ak:=Wx.t (k:=[ki b,ki a]) (s2 _ _ n1) (show(zj (zj H c (.tup [jv a,jv b])) c2 (.tup [jv b,jv a])) c2=Ga (.tup ([ki b,ki a].map kV))from Qb);rw[n3]at ak;refine⟨_,Xb,v.sh,D,dx,_,_,Xb,s2 _ _ o1,T.cl,T.Jc,Vc _,v.M,_,Xb,ak,_,Xb,?_⟩;generalize zj (zj H c (.tup [jv a,jv b])) c2 (.tup [jv b,jv a])=Hb at s2;have Sb:=S.fr s2;cases hT:N b a with
  |some l=>
   refine Yv ?_;obtain⟨r0,aE⟩:=S.ok b a l hT;obtain⟨dx2,o2⟩:=Sb.ob;obtain⟨kv2,m2,_,vv2⟩:=Sb.nu;refine⟨_,Xb,v.sh,D,dx2,_,_,Xb,o2,T.cl,T.Jc,Vc _,_,Xb,_,Xb,by show 2<=Gj;decide,λc3 hc3=>?_⟩;have s3:=Qg hc3 (.tup [jv b,jv a]);have dg3:=Wx.t (k:=[ki b,ki a]) (s3 _ _ m2) (show(zj Hb c3 (.tup [jv b,jv a])) c3=Ga (.tup ([ki b,ki a].map kV))from Qb);rw[vv2,hT]at dg3;refine⟨v.M,_,Xb,dg3,by show 2<=Gj;decide,λO ad=>?_⟩;have s4:=Qg ad (.tup [.str "turn",jv l]);have S1:Ve P w C D v (zj (zj Hb c3 (.tup [jv b,jv a])) O (.tup [.str "turn",jv l])) (ls++[]) N:=by rw[List.append_nil];exact(Sb.fr s3).fr s4
   have F1:Jw v.L v.M H (zj (zj Hb c3 (.tup [jv b,jv a])) O (.tup [.str "turn",jv l])):=Jw.of ((s2.trans s3).trans s4);generalize J:V.ref O=rv;have hrv:Qak (zj (zj Hb c3 (.tup [jv b,jv a])) O (.tup [.str "turn",jv l])) v.Ex rv (.turn l):=⟨O,J.symm,Qb⟩;have Zw:Okl v.fs v.x.links (ls++[]) a b (.turn l):=⟨r0,by rw[List.append_nil];exact aE⟩;obtain⟨more1,B⟩:∃m:List Ln,m=[]:=⟨_,Xb⟩;rw[<-B]at S1 Zw;obtain⟨r,hr'⟩:∃r:Lr,r=.turn l:=⟨_,Xb⟩;rw[<-hr']at hrv Zw;obtain⟨N1,ac⟩:∃N1:Nat->Nat->Option Nat,N1=N:=⟨_,Xb⟩;have sub1:Qgu N N1:=by rw[ac];exactλ_ _ h=>h
   have cov1:∀m,Cov v N m->Cn (v.x.links.take m) a b->Cov v N1 m:=by rw[ac];exactλ_ h _=>h
   rw[<-ac]at S1;have ml:more1.length=0:=by rw[B];rfl
   have mof:g=Gq->more1.length=0:=λ_=>ml;infer_instance
  |none=>
   refine Zp ?_;cases g with
   |false=>
    exfalso;rcases pre with(h|h)|⟨h,_⟩
    ·rw[hN]at h;cases h
    ·rw[hT]at h;cases h
    ·cases h
   |true=>
   have go:Go v N a b:=by
    rcases pre with(h|h)|⟨_,h⟩
    ·rw[hN]at h;cases h
    ·rw[hT]at h;cases h
    ·exact h
   have X2:=S.net.same Sb.O7;obtain⟨ax,on⟩:=X2.ob;obtain⟨dx2,o2⟩:=Sb.ob;refine⟨_,Xb,v.sh,D,dx2,_,_,Xb,o2,T.cl,T.net,Qsh _,v.n,ax,_,Xb,on,Qli _,_,Xb,_,Xb,v.n,v.A,v.fs,v.tb,v.x,a,b,Xb,X2,go.inv,go.aS,go.bS,go.eq,go.hS,λL5 es st H5 g5 X am an W=>⟨L5,Xb,⟨_,Zd.of am⟩,λU d=>?_⟩⟩;have aP:=W.len;have aO:=Gr an;have hS:=go.hS;have S5:=Sb.fr g5;have au:L5≠v.L:=λz=>by obtain⟨vs,l1,_⟩:=Sb.li;rw[z,l1]at X;cases X
   have av:L5≠v.M:=λz=>by obtain⟨vs,l1,_⟩:=Sb.nu;rw[z,l1]at X;cases X
   have aq:U≠v.L:=λz=>by obtain⟨vs,l1,_⟩:=S5.li;rw[z,l1]at d;cases d
   have aN:U≠v.M:=λz=>by obtain⟨vs,l1,_⟩:=S5.nu;rw[z,l1]at d;cases d
   have aM:v.H0 U=Gh:=S5.O7.free d;have s5:=Qg d (.lst []);subst_vars;obtain⟨aU,aH,_⟩:=S5.li;obtain⟨aR,aI,_⟩:=S5.nu;and_intros;refine Qau (K:=K) (a:=L5) (xs:=es) (small (by omega)) (λi ys σ H6=>XE5 λ(x0 x1:Option V)(more:List Ln)(N1:Nat->Nat->Option Nat)(R:List Nat)=>PA9 (σ=[x0,x1,Ga (.ref v.sh)]) (ys=R.map jv) (R.length=i) (Ve P w C D {v with Ex:=λb=>v.Ex b\/b=U} H6 (ls++more) N1) (Jw v.L v.M H5 H6) (Qgu N N1) (more.length<=i) (∀m,Cov v N m->Cn (v.x.links.take m) a b->Cov v N1 m) (∀j k u u':Nat,R[j]?=Ga k->st[j]?=Ga (u,u')->∃r,(ls++more)[k]?=Ga (u,u',r)))
    ⟨_,_,[],N,[],Xb,Xb,Xb,by rw[List.append_nil];exact S5.more d,Jw.of s5,λ_ _ h=>h,Gw _,λ_ h _=>h,by simp⟩ (by rintro i ys σ H6 _ ⟨_,_,_,_,_,_,_,_,_,F6,_⟩;exact Zd.of (F6.keep _ _ am au av)) ?_ ?_
   ·rintro i y ys σ H6 hi aJ ⟨x0,x1,more,N1,R,rfl,rfl,ae,S6,F6,aa,aL,ah,ab⟩ af;subst_vars;obtain⟨⟨p,Z⟩,hp,c5,rfl,az⟩:=Qy an hi;have Y:(p,Z)∈st:=List.mem_of_getElem? hp;have c6:=F6.tp aI aH az;have il:i<es.length:=(List.getElem?_eq_some_iff.mp hi).1;obtain⟨kk,aA,aB⟩:=W.lk p Z Y;obtain⟨rr,ap⟩:=go.inv.fst.Qg1 p Z kk aA;and_intros;have pS:p∈v.x.S/\Z∈v.x.S:=by
     rcases ap with h|h
     ·exact⟨(go.inv.lnk _ _ _ _ h).1,(go.inv.lnk _ _ _ _ h).2.1⟩
     ·exact⟨(go.inv.lnk _ _ _ _ h).2.1,(go.inv.lnk _ _ _ _ h).1⟩
    have cn:∀m,Cn (v.x.links.take m) a b->Cn (v.x.links.take m) p Z:=λm hm=>by
     have km:=aB m hm;rcases ap with h|h
     ·exact .link (List.mem_of_getElem? (i:=kk) (by rw[List.getElem?_take_of_lt km];exact h))
     ·exact .symm (.link (List.mem_of_getElem? (i:=kk) (by rw[List.getElem?_take_of_lt km];exact h)))
    obtain⟨aw,o6⟩:=S6.ob;refine⟨c5,_,Xb,Z2.of c6,Xb,_,_,Xb,_,_,Xb,Xb,?_⟩;refine⟨_,Xb,v.sh,aw,_,Xb,o6,Rr v,_,Xb,_,Xb,{v with Ex:=λb=>v.Ex b\/b=U},ls++more,N1,p,Z,Xb,S6,Sl p pS.1,Sl Z pS.2,Sl,.inl ((go.st st W.rel p Z Y).sub aa),by rw[Gi (by decide)];rw[Gn rfl]at ao;rw[List.length_append];omega,λk' ag N2 H7 S7 F7 aC ar aT ai _ aK _=>?_⟩;have r7:=F7.keep _ _ af aq aN;have aQ:=aK rfl;refine⟨r7,_,_,more++ag,N2,R++[k'],Xb,by rw[List.map_append];rfl,by rw[List.length_append,List.length_singleton,ae],by rw[<-List.append_assoc];exact S7.grow (.inr Xb) r7 aq aM,⟨λb' o e h1 h2=>Qi (F7.keep _ _ (F6.keep _ _ e h1 h2) h1 h2) (Qc e d),λb' h=>F6.there _ (F7.there _ (Zy h))⟩,λi j h=>ar _ _ (aa _ _ h),by rw[List.length_append];omega,λm hc hm=>ai m (ah m hc hm) (cn m hm),λj l u u' h1 h2=>?_⟩
    ·rcases Tk j R.length with hj|hj
     ·rw[List.getElem?_append_left hj]at h1;obtain⟨r,hr'⟩:=ab j l u u' h1 h2;rw[<-List.append_assoc];exact⟨r,Qt0 hr'⟩
     ·rw[List.getElem?_append_right hj]at h1;have:j=R.length:=by
       rcases Tk (j - R.length) 1 with h'|h'
       ·omega
       ·rw[List.getElem?_eq_none (by simpa using h')]at h1;cases h1
      subst this;simp at h1;subst h1;rw[ae,hp]at h2;cases h2;rw[<-List.append_assoc];exact S7.ok _ _ _ aC
   ·rintro ys σ H6 aJ ⟨x0,x1,more1,N1,R,rfl,rfl,ae,S6,F6,sub1,aL,cov1,ab⟩ af;refine⟨by show 2<=Gj;decide,λO ad=>?_⟩;have s4:=Qg ad (.tup [.str "chain",.ref U]);have S1:=(S6.less S.exL).fr s4;have F1:Jw v.L v.M H (zj H6 O (.tup [.str "chain",.ref U])):=(Jw.of (s2.trans g5)).trans (F6.trans (Jw.of s4));generalize J:V.ref O=rv;obtain⟨r,hr'⟩:∃r:Lr,r=.chain R:=⟨_,Xb⟩;have hrv:Qak (zj H6 O (.tup [.str "chain",.ref U])) v.Ex rv r:=by rw[hr'];exact⟨O,U,J.symm,Qb,s4 _ _ af,λz=>by obtain⟨o,e⟩:=S5.exA U z;rw[d]at e;cases e⟩
    have Zw:Okl v.fs v.x.links (ls++more1) a b r:=by rw[hr'];exact Qq1 W.path (by omega) ab
    have ml:more1.length<=2*v.x.S.length:=by omega
    have mof:Gf=Gq->more1.length=0:=λz=>by cases z
    infer_instance
theorem Q2d:Qs P w K mg base Z4 2 f fd ["self","one","other"] (Qr2 P w C D Gq):=
 ⟨λvs H Q E h=>False.elim h,λA outer s H args us vs Q E _ _ _ _ h=>False.elim h⟩
end
inductive Qi7(P:Gg)(w:Gs)(C:Gc)(D:Gc)(vs:List V)(H:Hp)(Q:VK):Prop
 |mk (v:Sv) (ls:List Ln) (N:Nat->Nat->Option Nat) (lv:V) (a:Nat) (b:Nat) (rs:Option Jb) (h0:vs=[.ref v.sh,lv]) (h1:Ve P w C D v H ls N) (h2:Iz H lv (a,b,rs)) (h3:(a,b,rs)∈v.x.links) (h4:a<v.fs.length) (h5:b<v.fs.length) (h6:v.fs.length=v.us.length) (h7:(∀p∈v.x.S,p<v.us.length)) (h8:v.x.S.length<=60) (h9:(Zk v.fs a).length<=100) (h10:(rs=Gh->Ye v.fs a=Ye v.fs b/\(Zk v.fs a).length=(Zk v.fs b).length)) (h11:(∀p q,(p,q)∈X7 v.fs (a,b,rs)->Go v N p q)) (h12:ls.length<=880000) (h13:∀(more:List Ln)(N1:Nat->Nat->Option Nat)(r:Lr)(H':Hp),Ve P w C D v H' (ls++more++[(a,b,r)]) (putN N1 a b (ls++more).length)->Jw v.L v.M H H'->Qgu N N1->more.length<=12100->(∀m,Cov v N m->(∀p q,(p,q)∈X7 v.fs (a,b,rs)->Cn (v.x.links.take m) p q)->Cov v N1 m)->Q .non H'):Qi7 P w C D vs H Q
def Qm8(P:Gg)(w:Gs)(C D:Gc):Sp:=λvs H Q _=>Qi7 P w C D vs H Q
theorem Go.sub{v:Sv}{N d:Nat->Nat->Option Nat}{a b:Nat}(g:Go v N a b)(s:Qgu N d):Go v d a b:=⟨g.inv,g.aS,g.bS,g.eq,g.hS,λst c p q h=>(g.st st c p q h).sub s⟩
section
variable{P:Gg}{w:Gs}{K:Gd}{mg:Ta->Option Value}{base:Heap}
theorem Qor:Qx ["self","link","reason"] ["self","link"] (Ql Vd):=by eq_refl
theorem Q3b:(["part","twin","self"]:List Ta).Nodup:=by decide+kernel
set_option hygiene false
local macro_rules
 |`(tactic|infer_instance)=>`(tactic|(
 obtain⟨dx1,o1'⟩:=S1.ob
 refine⟨_,Xb,v.sh,dx1,_,Xb,o1',Qh1 _,_,Xb,c,_,_,_,Xb,Xb,Z2.of hc1,Rk _ _,_,Xb,c,_,_,_,Xb,Xb,Z2.of hc1,I0 _ _ _,_,Xb,v,ls++more1,N1,a,b,rv,r,Xb,S1,al,bl,hrv,Zw,by rw[List.length_append];omega,λH2 S2 F2=>?_⟩
 exact q more1 N1 r H2 S2 (F1.trans F2) sub1 ml cov1))
set_option hygiene true
theorem Qvb(F:Wd K "write_link" "Showing.write_link" Vd f fd)(T:Qpe K D)(mL:Z9 K D "line_for" fL)(bL:Binds K fdL ["self","one","other"] [])(GL:Qs P w K mg base Z4 4 fL fdL ["self","one","other"] (Qdh P w C D Gf))
  (GB:Qs P w K mg base Z4 1 fB fdB ["net","link"] (Qho P w C))(kB:KI K fB)(bB:Binds K fdB ["net","link"] [])(mB:MG mg "pairs_below" fB)(mR:Z9 K D "write" fR)(GR:Qs P w K mg base Z4 1 fR fdR ["self","one","other","reason"] (Qhj P w C D))(bR:Binds K fdR ["self","one","other","reason"] []):
  Qs P w K mg base Z4 5 f fd ["self","link"] (Qm8 P w C D):=by
 refine F.ok Qor (λvs H Q E h=>?_) (λcdv A outer s H vs Q E hr h=>?_)
 ·obtain⟨v,ls,N,lv,a,b,rs,rfl,_⟩:=h;rfl
 obtain⟨v,ls,N,lv,a,b,rs,rfl,S,⟨c,rv,rfl,hc,R⟩,aj,av,aw,aN,Sl,hS,few,ad,aB,aL,q⟩:=h;have al:a<v.us.length:=by omega
 have bl:b<v.us.length:=by omega
 have ak:Yb 1 _:=hr.mono (by omega);have nd:=Qor.nd;show∃t,Z7 ?mysWriteLink _ t/\_;let w3:Subtype (Z7 ?mysWriteLink ((Qj Vd).drop 2)):=⟨_,Qh (Ze (Q9 (pv 0) T.cl mR GR ak bR .nil Q6 (Qa (Qo Q5 (pv 1) Qk) (Qa (Qo Q5 (pv 1) Qk) (Qa (pv 2) Qe)))))⟩
 let w2:Subtype (Z7 ?mysWriteLink ((Qj Vd).drop 1)):=⟨_,Qd (Zn (Qr Q0y (pv 2) Ur (Q3 _))
   (Qh (Qt 2 nd (Zb (Qa Zf (Qa
     (Vx (te:=Qjt D "line_for" (Qdh P w C D Gf) [] E0 (V7 2) (Qe7 (V7 0) (Qe7 (V7 1) Qp7))) (g:=Q1h K 2 (Qkg (Vt 0) (Qkg (Vt 1) Q0h))) (own:=["part","twin"]) (fv:=[(0,"self")]) rfl (S:=(by eq_refl:Wh (Ql Vd) _)) (.cons rfl (Di Xb) rfl .nil)
      (Xd (Z1 GB ak rfl mB kB bB .nil Q6 (Qa (Qn (pv 0) rfl) (Qa (pv 1) Qe))))
      (λ_ _ _ _ _=>Vr rfl (Zl (Xe (i:=0) Q3b rfl (Di Xb) (Es Xb)) (Zl (Xe (i:=1) Q3b rfl (Di Xb) (Es Xb)) Wb))) (λ_ _ _ _ _=>Ww)
      (λ_ _ _ _ _=>Q9 (pv 2) T.cl mL GL hr bL .nil Q6 (Qa (pv 0) (Qa (pv 1) Qe)))) Qe))))) Q7) w3.2⟩
 refine⟨_,Qd (Qt 2 nd (Qo Q5 (pv 1) Qk)) w2.2,?_⟩;refine⟨_,Xb,c,_,_,_,Xb,Xb,Z2.of hc,Qjc _ _ _ _,?_⟩;refine⟨_,Xb,Xb,_,Xb,?_⟩;rw[Qtn R];cases rs with
 |some rs=>
  refine Zp ?_;have S1:Ve P w C D v H (ls++[]) N:=by rw[List.append_nil];exact S
  have F1:Jw v.L v.M H H:=Jw.refl;have hc1:=hc;obtain⟨r,hrv,Zw⟩:∃r:Lr,Qak H v.Ex rv r/\Okl v.fs v.x.links (ls++[]) a b r:=by
   cases rs with
   |told n=>exact⟨.told n,R,aj⟩
   |asked=>exact⟨.asked,R,aj⟩
  obtain⟨more1,l⟩:∃m:List Ln,m=[]:=⟨_,Xb⟩;rw[<-l]at S1 Zw;obtain⟨N1,ab⟩:∃N1:Nat->Nat->Option Nat,N1=N:=⟨_,Xb⟩;have sub1:Qgu N N1:=by rw[ab];exactλ_ _ h=>h
  have cov1:∀m,Cov v N m->(∀p q,(p,q)∈X7 v.fs (a,b,Ga rs)->Cn (v.x.links.take m) p q)->Cov v N1 m:=by rw[ab];exactλ_ h _=>h
  rw[<-ab]at S1;have ml:more1.length<=12100:=by rw[l];exact Gw _
  infer_instance
 |none=>
  refine Yv ?_;have X2:=S.net.same S.O7;obtain⟨dx,o1⟩:=S.ob;refine⟨_,Xb,v.sh,D,dx,_,_,Xb,o1,T.cl,T.net,Qsh _,_,Xb,v.n,v.A,v.fs,v.tb,v.x,.ref c,(a,b,Gh),Xb,X2,⟨c,rv,Xb,hc,R⟩,av,aw,λL5 es H5 g5 O ah ai=>⟨L5,Xb,⟨_,Zd.of ah⟩,λJ d=>?_⟩⟩;obtain⟨aE,aD⟩:=ad rfl;have aK:=Gr ai;have aO:(X7 v.fs (a,b,Gh)).length=(Zk v.fs a).length:=by simp only[X7,List.length_zip];omega
  have Z:=S.fr g5;have ar:L5≠v.L:=λz=>by obtain⟨vs,l1,_⟩:=S.li;rw[z,l1]at O;cases O
  have au:L5≠v.M:=λz=>by obtain⟨vs,l1,_⟩:=S.nu;rw[z,l1]at O;cases O
  have ap:J≠v.L:=λz=>by obtain⟨vs,l1,_⟩:=Z.li;rw[z,l1]at d;cases d
  have aJ:J≠v.M:=λz=>by obtain⟨vs,l1,_⟩:=Z.nu;rw[z,l1]at d;cases d
  have aI:v.H0 J=Gh:=Z.O7.free d;have s5:=Qg d (.lst []);obtain⟨aQ,an,_⟩:=Z.li;obtain⟨aP,ao,_⟩:=Z.nu;refine Qau (K:=K) (a:=L5) (xs:=es) (small (by omega)) (λi ys σ Y=>XE5 λ(x0 x1:Option V)(more:List Ln)(N1:Nat->Nat->Option Nat)(G:List Nat)=>PA9 (σ=[x0,x1,Ga (.ref v.sh)]) (ys=G.map jv) (G.length=i) (Ve P w C D {v with Ex:=λb=>v.Ex b\/b=J} Y (ls++more) N1) (Jw v.L v.M H5 Y) (Qgu N N1) (more.length<=i*121) (∀m,Cov v N m->(∀p q,(p,q)∈X7 v.fs (a,b,Gh)->Cn (v.x.links.take m) p q)->Cov v N1 m) (∀j k u u':Nat,G[j]?=Ga k->(X7 v.fs (a,b,Gh))[j]?=Ga (u,u')->∃r,(ls++more)[k]?=Ga (u,u',r)))
   ⟨_,_,[],N,[],Xb,Xb,Xb,by rw[List.append_nil];exact Z.more d,Jw.of s5,λ_ _ h=>h,Gw _,λ_ h _=>h,by simp⟩ (by rintro i ys σ Y _ ⟨_,_,_,_,_,_,_,_,_,U,_⟩;exact Zd.of (U.keep _ _ ah ar au)) ?_ ?_
  ·rintro i y ys σ Y hi aF ⟨x0,x1,more,N1,G,rfl,rfl,ac,S6,U,X,aG,af,aa⟩ ae;subst_vars;obtain⟨⟨p,p'⟩,hp,c5,rfl,az⟩:=Qy ai hi;have W:(p,p')∈X7 v.fs (a,b,Gh):=List.mem_of_getElem? hp;have c6:=U.tp ao an az;have il:i<es.length:=(List.getElem?_eq_some_iff.mp hi).1;have go:=(aB p p' W).sub X;obtain⟨ax,o6⟩:=S6.ob;and_intros;refine⟨c5,_,Xb,Z2.of c6,Xb,_,_,Xb,_,_,Xb,Xb,?_⟩;refine⟨_,Xb,v.sh,ax,_,Xb,o6,Rr v,_,Xb,_,Xb,{v with Ex:=λb=>v.Ex b\/b=J},ls++more,N1,p,p',Xb,S6,Sl p go.aS,Sl p' go.bS,Sl,.inr ⟨Xb,⟨go.inv,go.aS,go.bS,go.eq,go.hS,go.st⟩⟩,by rw[Gn Xb,List.length_append];omega,λk' B N2 H7 S7 F7 aC aq aH ag _ _ _=>?_⟩;have r7:=F7.keep _ _ ae ap aJ;have aM:B.length<=2*v.x.S.length+1:=aH;refine⟨r7,_,_,more++B,N2,G++[k'],Xb,by rw[List.map_append];rfl,by rw[List.length_append,List.length_singleton,ac],by rw[<-List.append_assoc];exact S7.grow (.inr Xb) r7 ap aI,⟨λb' o e h1 h2=>Qi (F7.keep _ _ (U.keep _ _ e h1 h2) h1 h2) (Qc e d),λb' h=>U.there _ (F7.there _ (Zy h))⟩,λi j h=>aq _ _ (X _ _ h),by rw[List.length_append];omega,λm aA hm=>ag m (af m aA hm) (hm p p' W),λj k0 u u' h1 h2=>?_⟩;rcases Tk j G.length with hj|hj
   ·rw[List.getElem?_append_left hj]at h1;obtain⟨r,hr'⟩:=aa j k0 u u' h1 h2;rw[<-List.append_assoc];exact⟨r,Qt0 hr'⟩
   ·rw[List.getElem?_append_right hj]at h1;have:j=G.length:=by
     rcases Tk (j - G.length) 1 with h'|h'
     ·omega
     ·rw[List.getElem?_eq_none (by simpa using h')]at h1;cases h1
    subst this;simp at h1;subst h1;rw[ac,hp]at h2;cases h2;rw[<-List.append_assoc];exact S7.ok _ _ _ aC
  ·rintro ys σ Y aF ⟨x0,x1,more1,N1,G,rfl,rfl,ac,S6,U,sub1,aG,cov1,aa⟩ ae;refine⟨by show 2<=Gj;decide,λc4 ay=>?_⟩;have s4:=Qg ay (.tup [.str "like",.ref J]);have S1:=(S6.less S.exL).fr s4;have F1:Jw v.L v.M H (zj Y c4 (.tup [.str "like",.ref J])):=(Jw.of g5).trans (U.trans (Jw.of s4));have hc1:=s4 _ _ (U.tp ao an (g5 _ _ hc));generalize am:V.ref c4=rv;obtain⟨r,hr'⟩:∃r:Lr,r=.like G:=⟨_,Xb⟩;have hrv:Qak (zj Y c4 (.tup [.str "like",.ref J])) v.Ex rv r:=by rw[hr'];exact⟨c4,J,am.symm,Qb,s4 _ _ ae,λz=>by obtain⟨o,e⟩:=Z.exA J z;rw[d]at e;cases e⟩
   have Zw:Okl v.fs v.x.links (ls++more1) a b r:=by rw[hr'];refine⟨aE,aD,by omega,λj k p p' h1 h2 h3=>aa j k p p' h1 ?_⟩;simp only[X7];rw[List.getElem?_zip_eq_some];exact⟨h2,h3⟩
   have ml:more1.length<=12100:=by omega
   infer_instance
end
inductive Qfg(P:Gg)(w:Gs)(C:Gc)(D:Gc)(vs:List V)(H:Hp)(Q:VK):Prop
 |mk (sh:Gc) (dx:Gc) (t:Gc) (n:Gc) (A:Na) (fs:List Fm) (tb:Nat) (x:Nn) (us:List V) (H0:Hp) (h0:vs=[.ref sh,.ref t,.ref n]) (h1:H sh=Ga (.ins D dx [])) (h2:H0 sh=Gh) (h3:Q4 H0 H) (h4:Z6 P w C H0 n A fs tb x) (h5:H0 t=Ga (.lst us)) (h6:∀(L M:Gc)(H':Hp),Ve P w C D ⟨sh,n,t,L,M,A,fs,tb,x,us,H0,λb=>b=L\/∃o,H0 b=Ga o⟩ H' [] (λ_ _=>Gh)->Q .non H'):Qfg P w C D vs H Q
def Qip(P:Gg)(w:Gs)(C D:Gc):Sp:=λvs H Q _=>Qfg P w C D vs H Q
inductive Qgw(H:Hp)(X:Gc->Prop)(us:List V)(v:V)(ls:List Ln):Prop
 |mk (L:_) (vs:_) (h0:v=.ref L) (h1:H L=Ga (.lst vs)) (h2:¬X L) (h3:Paired (Qep H X us) vs ls):Qgw H X us v ls
inductive Qfa(P:Gg)(w:Gs)(C:Gc)(vs:List V)(H:Hp)(Q:VK):Prop
 |mk (t:Gc) (n:Gc) (A:Na) (fs:List Fm) (tb:Nat) (x:Nn) (us:List V) (one:Nat) (other:Nat) (h0:vs=[.ref t,.ref n,jv one,jv other]) (h1:Z6 P w C H n A fs tb x) (h2:X8 (Ye fs) (Zk fs) x []) (h3:Qem fs x.S) (h4:one∈x.S) (h5:other∈x.S) (h6:x.lead one=x.lead other) (h7:x.S.length<=60) (h8:x.links.length<64) (h9:(∀p,(Zk fs p).length<=100)) (h10:H t=Ga (.lst us)) (h11:fs.length=us.length) (h12:∀(v:V)(ls:List Ln)(H':Hp),Q4 H H'->Qgw H' (λb=>∃o,H b=Ga o) us v ls->Gdl fs x.links ls->(∃r,ls.getLast?=Ga (one,other,r))->Q v H'):Qfa P w C vs H Q
def Qj2(P:Gg)(w:Gs)(C:Gc):Sp:=λvs H Q _=>Qfa P w C vs H Q
abbrev mkv(sh n t L M:Gc)(A:Na)(fs:List Fm)(tb:Nat)(x:Nn)(us:List V)(H0:Hp):Sv:=⟨sh,n,t,L,M,A,fs,tb,x,us,H0,λb=>b=L\/∃o,H0 b=Ga o⟩
theorem Qg7(I:X8 (Ye fs) (Zk fs) x []){st:List (Nat×Nat)}(h:O2 x.up a b st)(g:(p,q)∈st):∃k,x.Xf p q=Ga k/\∀n,Cn (x.links.take n) a b->k<n:=by obtain⟨l1,l2,P,Q,s,m,c,d,e,f,ne,rfl⟩:=h;exact I.fst.way c d e f ne p q g
section
variable{P:Gg}{w:Gs}{K:Gd}{mg:Ta->Option Value}{base:Heap}
theorem Qrt:Qx ["self","things","net"] ["self","things","net"] (Ql Io):=by eq_refl
theorem Qqb(F:Wd K "__init__" "Showing.__init__" Io f0 fd)(T:Qpe K D):Qs P w K mg base Z4 1 f0 fd ["self","things","net"] (Qip P w C D):=by
 refine F.ok Qrt (λvs H Q E h=>?_) (λcdv A outer s H vs Q E N h=>?_)
 ·obtain⟨sh,dx,t,n,A,fs,tb,x,us,H0,rfl,_⟩:=h;rfl
 obtain⟨sh,dx,t,n,A,fs,tb,x,us,H0,rfl,g,u,d,X,B,q⟩:=h;show∃t,Z7 ?mysShInit _ t/\_;let J:Subtype (Z7 ?mysShInit ((Qj Io).drop 3)):=⟨_,Qh (Yw (pv 0) Of Xb)⟩
 let I:Subtype (Z7 ?mysShInit ((Qj Io).drop 2)):=⟨_,Qd (Yw (pv 0) (Zt Qe) rfl) J.2⟩
 let G:Subtype (Z7 ?mysShInit ((Qj Io).drop 1)):=⟨_,Qd (Yw (pv 0) (pv 2) rfl) I.2⟩
 refine⟨_,Qd (Yw (pv 0) (pv 1) rfl) G.2,?_⟩;refine⟨_,Xb,_,Xb,sh,D,dx,[],Xb,g,T.cl,T.things,by show 0<1000;decide,?_⟩;refine⟨_,Xb,_,Xb,sh,D,dx,_,Xb,Qb,T.cl,T.net,by show 1<1000;decide,Gw _,λL v=>?_⟩;rw[Jf]at v⊢;have a:H L=Gh:=Zy v;have l:L≠sh:=Gp (Qc g a);refine⟨_,Xb,sh,D,dx,_,Xb,Qi Qb (Gp l),T.cl,T.lines,by show 2<1000;decide,λM y=>?_⟩;have f:=Zy y;have m:=Zy f;have c:H M=Gh:=Zy m;have r:M≠sh:=Gp (Qc g c);have p:L≠M:=λz=>by rw[<-z,Qb]at f;cases f
 refine⟨_,Xb,sh,D,dx,_,Xb,Qi Qb (Gp r),T.cl,T.Jc,by show 3<1000;decide,?_⟩;refine q L M _ ⟨⟨dx,Qb⟩,λb o e=>?_,d.free a,d.free c,X,B,⟨[],?_,.nil⟩,⟨[],?_,Gw _,λi j=>rfl⟩,(λi j k h=>nomatch h),Gdl.nil,.inl Xb,λb hb=>?_⟩
 ·have bs:b≠sh:=Qc e u;exact Qi (Qi (Qi (Qi (Qi (d _ _ e) bs) (Qc (d _ _ e) a)) bs) (Qc (d _ _ e) c)) bs
 ·exact Qi (Qi (Qi Qb l) p) l
 ·exact Qi Qb r
 ·have hb:b=L\/∃o,H0 b=Ga o:=hb;rcases hb with hb|⟨o,e⟩
  ·rw[hb];exact⟨_,Qi (Qi (Qi Qb l) p) l⟩
  ·have bs:b≠sh:=Qc e u;exact⟨o,Qi (Qi (Qi (Qi (Qi (d _ _ e) bs) (Qc (d _ _ e) a)) bs) (Qc (d _ _ e) c)) bs⟩
theorem Qjg:Qx ["things","net","one","other","showing","number"] ["things","net","one","other"] (Ql Qap):=by eq_refl
theorem Qpl(F:Wd K "lines_between" "lines_between" Qap f fd)(T:Qpe K D)(TN:Uc K mg C)(mD:MG mg "Showing" D)(aA:Mk K D fI)(GI:Qs P w K mg base Z4 1 fI fdI ["self","things","net"] (Qip P w C D))(bI:Binds K fdI ["self","things","net"] [])
  (GN:Qs P w K mg base Z4 3 fN fdN ["net","one","other"] (Qil P w C))(kN:KI K fN)(bN:Binds K fdN ["net","one","other"] [])(mN:MG mg "links_needed" fN)
  (mL:Z9 K D "line_for" fL)(bL:Binds K fdL ["self","one","other"] [])(GL:Qs P w K mg base Z4 4 fL fdL ["self","one","other"] (Qdh P w C D Gf))(mW:Z9 K D "write_link" fW)(bW:Binds K fdW ["self","link"] [])(GW:Qs P w K mg base Z4 5 fW fdW ["self","link"] (Qm8 P w C D)):
  Qs P w K mg base Z4 6 f fd ["things","net","one","other"] (Qj2 P w C):=by
 refine F.ok Qjg (λvs H Q E h=>?_) (λcdv A outer s H vs Q E hr h=>?_)
 ·obtain⟨t,n,A,fs,tb,x,us,one,d,rfl,_⟩:=h;rfl
 obtain⟨t,n,A,fs,tb,x,us,one,d,rfl,X,I,FO,oS,tS,he,hS,ap,few,ht,ae,q⟩:=h;have aH:Yb 2 _:=hr.mono (by lia);have aI:Yb 3 _:=hr.mono (by lia);have aJ:Yb 4 _:=hr.mono (by lia);have nd:=Qjg.nd;show∃t,Z7 ?mysLines _ t/\_;let w4:Subtype (Z7 ?mysLines ((Qj Qap).drop 3)):=⟨_,Qh (Qv (Qn (pv 4) rfl))⟩
 let w3:Subtype (Z7 ?mysLines ((Qj Qap).drop 2)):=⟨_,Qd (Ze (Q9 (pv 4) T.cl mL GL aJ bL .nil Q6 (Qa (pv 2) (Qa (pv 3) Qe)))) w4.2⟩
 let w2:Subtype (Z7 ?mysLines ((Qj Qap).drop 1)):=⟨_,Qd (Yg Gy rfl (Xd (Z1 GN aI rfl mN kN bN .nil Q6 (Qa (pv 1) (Qa (pv 2) (Qa (pv 3) Qe))))) (Yc 5 nd)
   (Qh (Ze (Q9 (pv 4) T.cl mW GW hr bW .nil Q6 (Qa (Qo Zh (Qn (pv 1) rfl) (pv 5)) Qe))))) w3.2⟩
 refine⟨_,Qd (Qt 4 nd (Qg4 aA GI aH rfl mD bI .nil Q6 (Qa (pv 0) (Qa (pv 1) Qe)))) w2.2,?_⟩;refine⟨_,Xb,_,Xb,λsh dx au aF aW=>?_⟩;have s0:Q4 H (zj (zj H dx (.own sh)) sh (.ins D dx [])):=λc o e=>by rw[Qf (Qc e au),Qf (Qc e aF)];exact e
 refine⟨sh,dx,t,n,A,fs,tb,x,us,H,Xb,Qb,au,s0,X,ht,λL M H1 S1=>⟨Xb,?_⟩⟩;have X1:=X.same S1.O7;obtain⟨aw,ar,ax⟩:=X.li;obtain⟨aD,on⟩:=X.ob;refine⟨_,Xb,_,Xb,_,Xb,n,A,fs,tb,x,one,d,Xb,X1,I,FO,oS,tS,he,by lia,ap,λL2 ns H2 g2 aa an aj aP Dn=>⟨L2,Xb,⟨_,Zd.of an⟩,?_⟩⟩;have S2:=S1.fr g2;have S2:Ve P w C D (mkv sh n t L M A fs tb x us H) H2 [] (λ_ _=>Gh):=S2;have ay:L2≠L:=λz=>by obtain⟨vs,l1,_⟩:=S1.li;rw[z,l1]at aa;cases aa
 have az:L2≠M:=λz=>by obtain⟨vs,l1,_⟩:=S1.nu;rw[z,l1]at aa;cases aa
 have ak:∀{j i k J:Nat},j<i->ns[j]?=Ga k->ns[i]?=Ga J->k<J:=λ{j i k J}ab h1 h2=>by obtain⟨a1,b1⟩:=List.getElem?_eq_some_iff.mp h1;obtain⟨a2,b2⟩:=List.getElem?_eq_some_iff.mp h2;have le:=List.pairwise_iff_getElem.mp aP j i a1 a2 ab;have ne:=List.pairwise_iff_getElem.mp aj j i a1 a2 ab;rw[b1,b2]at le ne;lia
 have am:∀{N:Nat->Nat->Option Nat}{i:Nat},(∀j k a b r,j<i->ns[j]?=Ga k->x.links[k]?=Ga (a,b,r)->(N a b).isSome=Gf)->∀{u u' j k:Nat},j<i->ns[j]?=Ga k->x.Xf u u'=Ga k->Dr N u u':=λ{N i}h{u u' j k}B hk hl=>by
  obtain⟨r,h1|h1⟩:=I.fst.Qg1 u u' k hl
  ·exact .inl (h j k u u' r B hk h1)
  ·exact .inr (h j k u' u r B hk h1)
 have aR:=Gr ax;let aO:Nat->St->Hp->Prop:=λi σ H3=>XE3 λ(x5:Option V)(ls:List Ln)(N:Nat->Nat->Option Nat)=>PA7 (σ=[Ga (.ref t),Ga (.ref n),Ga (jv one),Ga (jv d),Ga (.ref sh),x5]) (Ve P w C D (mkv sh n t L M A fs tb x us H) H3 ls N) (Jw L M H2 H3) (ls.length<=i*12101) (∀j k a b r,j<i->ns[j]?=Ga k->x.links[k]?=Ga (a,b,r)->(N a b).isSome=Gf) (∀m,(∀j k,j<i->ns[j]?=Ga k->k<m)->Cov (mkv sh n t L M A fs tb x us H) N m) ((N one d).isSome=Gf->∃r,ls.getLast?=Ga (one,d,r))
 refine Xl (K:=K) (a:=L2) (xs:=ns.map jv) aO
  ⟨_,[],_,Xb,S2,Jw.refl,Gw _,(λj k a b r h=>by lia),(λm _ i j h=>by cases h),(λh=>by cases h)⟩ (by rintro i σ H3 _ ⟨_,_,_,_,_,F3,_⟩;exact Zd.of (F3.keep _ _ an ay az)) ?_ ?_
 ·rintro i y σ H3 hi ⟨x5,ls,N,rfl,S3,F3,aq,Z,R,U⟩;rw[List.getElem?_map]at hi;cases eq:ns[i]? with
  |none=>rw[eq]at hi;cases hi
  |some k=>
   rw[eq]at hi;cases hi;have ah:k∈ns:=List.mem_of_getElem? eq;have kl:=Dn.lt k ah;have kw:k<aw.length:=by lia
   have aT:i<ns.length:=(List.getElem?_eq_some_iff.mp eq).1;have aG:ns.length<=64:=by have:ns.length<=(List.range x.links.length).length:=Xk aj λk hk=>List.mem_range.mpr (Dn.lt k hk);rw[List.length_range]at this;lia
   obtain⟨⟨a,b,rs⟩,l,av⟩:=Qy ax (List.getElem?_eq_getElem kw);obtain⟨aS,bS,W⟩:=I.lnk k a b rs l;have aN:=S3.O7 _ _ on;have aK:=S3.O7 _ _ ar;obtain⟨ad,o3⟩:=S3.ob;have aQ:Qu H H3:=Qu.of S3.O7;have aE:∀p q,(p,q)∈X7 fs (a,b,rs)->Go (mkv sh n t L M A fs tb x us H) N p q:=λp q v=>by
    obtain⟨pS,qS,cn⟩:=Qmw I l v;refine⟨I,pS,qS,(I.conn p pS q qS).mpr (cn.mono λz hz=>List.mem_of_mem_take hz),by show x.S.length<=1000;lia,λst G u u' Y=>?_⟩;obtain⟨J,g,_⟩:=Qg7 I G Y;obtain⟨d1,d2⟩:=Dn.low k ah _ l p q v st G u u' Y J g;obtain⟨j,B⟩:=List.mem_iff_getElem?.mp d1;have ab:j<i:=by
     rcases Fg j i with h|h|h
     ·exact h
     ·subst h;rw[eq]at B;cases B;lia
     ·have:=ak h eq B;lia
    exact am Z ab B g
   refine⟨_,Xb,sh,ad,_,Xb,o3,Qgk _,_,Xb,n,C,aD,_,_,Xb,aN,TN.cl,TN.links,Uw _,_,Xb,A.k,aw,_,_,Xb,Xb,Zd.of aK,Qz (List.getElem?_eq_getElem kw),mkv sh n t L M A fs tb x us H,ls,N,_,a,b,rs,Xb,S3,av.Qm aQ,List.mem_of_getElem? l,FO.lt a aS,FO.lt b bS,ae,λp hp=>by show p<us.length;rw[<-ae];exact FO.lt p hp,hS,few a,λz=>⟨(W z).1,(W z).2.1⟩,aE,by lia,λmore N1 r H4 S4 F4 ac aL O=>?_⟩;have aB:∀m,k<m->∀p q,(p,q)∈X7 fs (a,b,rs)->Cn (x.links.take m) p q:=λm hm p q v=>by
    obtain⟨pS,qS,cn⟩:=Qmw I l v;refine cn.mono λz hz=>?_;have:x.links.take k=(x.links.take m).take k:=by rw[List.take_take,E4 (by lia)]
    rw[this]at hz;exact List.mem_of_mem_take hz
   have al:Cov (mkv sh n t L M A fs tb x us H) N1 k:=O k (R k λj J B g=>ak B g eq) λp q v=>(Qmw I l v).2.2;refine⟨_,ls++more++[(a,b,r)],_,Xb,S4,F3.trans F4,by rw[List.length_append,List.length_append,List.length_singleton];lia,λj J a' b' r' B af ag=>?_,λm hm=>?_,λh=>?_⟩
   ·rcases Tk j i with h|h
    ·exact Qnc _ _ (ac _ _ (Z j J a' b' r' h af ag))
    ·have:j=i:=by lia
     subst this;rw[eq]at af;cases af;rw[l]at ag;cases ag;rw[Qk2];rfl
   ·have km:=hm i k (by lia) eq;exact Qob (O m (R m λj J B g=>hm j J (by lia) g) (aB m km)) (.link (List.mem_of_getElem? (i:=k) (by rw[List.getElem?_take_of_lt km];exact l)))
   ·by_cases ao:one=a/\d=b
    ·obtain⟨rfl,rfl⟩:=ao;exact⟨r,List.getLast?_concat⟩
    ·unfold putN at h;rw[Gi ao]at h;have cn:=al _ _ h;subst_vars;obtain⟨st,p,q',j,G,v,B,aV⟩:=Dn.only k ah;obtain⟨J,g,hb⟩:=Qg7 I G v;and_intros;rw[B]at g;cases g;have:=hb k cn;lia
 ·rintro σ H3 ⟨x5,ls,N,rfl,S3,F3,aq,Z,R,U⟩;rw[List.length_map]at aq Z;have aG:ns.length<=64:=by have:ns.length<=(List.range x.links.length).length:=Xk aj λk hk=>List.mem_range.mpr (Dn.lt k hk);rw[List.length_range]at this;lia
  obtain⟨ad,o3⟩:=S3.ob;have go:Go (mkv sh n t L M A fs tb x us H) N one d:=by refine⟨I,oS,tS,he,by show x.S.length<=1000;lia,λst G u u' Y=>?_⟩;obtain⟨J,g,_⟩:=Qg7 I G Y;obtain⟨j,B⟩:=List.mem_iff_getElem?.mp (Dn.top st G u u' Y J g);exact am Z (List.getElem?_eq_some_iff.mp B).1 B g
  have Sl:∀p∈x.S,p<us.length:=λp hp=>by rw[<-ae];exact FO.lt p hp
  refine⟨_,Xb,sh,ad,_,Xb,o3,Rr _,_,Xb,_,Xb,mkv sh n t L M A fs tb x us H,ls,N,one,d,Xb,S3,Sl one oS,Sl d tS,Sl,.inr ⟨Xb,go⟩,by rw[Gn rfl];lia,λk more N4 H4 S4 F4 aU ac aL O ai _ aM=>?_⟩;obtain⟨aC,o4⟩:=S4.ob;obtain⟨vs,l1,l2⟩:=S4.li;refine⟨_,Xb,sh,D,aC,_,_,Xb,o4,T.cl,T.lines,Qdv _,q (.ref L) (ls++more) H4 S4.O7 ⟨L,vs,Xb,l1,(by rintro⟨o,e⟩;have:=S4.L0;dsimp only[mkv]at this;rw[this]at e;cases e),_root_.L2.Paired.Ya l2 λ_ _ h=>h.ex λc ys _ hx z=>hx (.inr z)⟩ S4.good ?_⟩;cases hN:N one d with
  |none=>exact ai hN
  |some k0=>rw[aM (by rw[hN];exactλz=>nomatch z),List.append_nil];exact U (by rw[hN];rfl)
end
def tfs(ts:List Th):List Fm:=ts.map (fm ts)
def tg(ts:List Th)(p:Nat):Th:=ts.getD p (.mk Eo [])
theorem Ui(h:ts[p]?=Ga t):tg ts p=t:=by unfold tg;rw[List.getD_eq_getElem?_getD,h];rfl
theorem Ry(h:t∈ts):tg ts (ts.idxOf t)=t:=Ui (Ip h)
theorem Wi(h:p<ts.length):ts[p]?=Ga (tg ts p):=by rw[List.getElem?_eq_getElem h,Ui (List.getElem?_eq_getElem h)]
theorem Wv(h:ts[p]?=Ga t):Ye (tfs ts) p=t.word/\Zk (tfs ts) p=t.parts.map λq=>ts.idxOf q:=by unfold Ye Zk tfs;rw[List.getD_eq_getElem?_getD,List.getElem?_map,h];exact⟨Xb,Xb⟩
theorem Vf(ts:List Th):(tfs ts).length=ts.length:=by simp[tfs]
structure Eqs(fs:List Fm)(x:Nn)(sm:List (Nat×Nat)):Prop where
 ins:∀p q,(p,q)∈sm->p∈x.S/\q∈x.S
 eq:∀p q,(p,q)∈sm->x.lead p=x.lead q
 snd:∀E,Ec (Ye fs) (Zk fs) x.S E->(∀p q,(p,q)∈sm->E p q)->∀p∈x.S,∀q∈x.S,x.lead p=x.lead q->E p q
def Qd0(a:List En):List (Nat×Nat):=a.filterMap λ(e:En)=>if e.1=("same":Ta)then Ga e.2 else Gh
theorem V5:(p,q)∈Qd0 ens↔sme p q∈ens:=by
 unfold Qd0;rw[List.mem_filterMap];constructor
 ·rintro⟨⟨k,a,b⟩,h,e⟩;split at e
  ·rename_i c
   have c:k=("same":Ta):=c;cases e;subst c;exact h
  ·cases e
 ·exactλh=>⟨_,h,Gn Xb⟩
theorem Qnp(U:Tup fs x ens ens.length):Eqs fs x (Qd0 ens):=by refine⟨λp q h=>U.ins _ (V5.mp h),λp q h=>?_,λE X h=>U.snd E X λj p q _ a=>h p q (V5.mpr (List.mem_of_getElem? a))⟩;obtain⟨j,a⟩:=List.mem_iff_getElem?.mp (V5.mp h);exact U.eq j p q (List.getElem?_eq_some_iff.mp a).1 a
theorem Qxy{d:Nn}{c:List (Nat×Nat)}{r:Option Jb}(Q:Eqs fs x c)(M:Mgd fs x d a b r [])(aS:a∈x.S)(bS:b∈x.S):Eqs fs d (c++[(a,b)]):=by
 have e:=M.S;refine⟨λp q h=>?_,λp q h=>?_,λE X h=>?_⟩
 ·rw[e];rcases List.mem_append.mp h with h|h
  ·exact Q.ins p q h
  ·simp at h;rw[h.1,h.2];exact⟨aS,bS⟩
 ·rcases List.mem_append.mp h with h|h
  ·obtain⟨i,j⟩:=Q.ins p q h;exact M.mono p i q j (Q.eq p q h)
  ·simp at h;rw[h.1,h.2];exact M.eq.nil
 ·rw[e]at X;have f:=Q.snd E X λp q g=>h p q (List.mem_append_left _ g);exact(M.snd E X ⟨f,λu v s m=>by simp at m;rw[m.1,m.2.1];exact h a b (by simp)⟩).1
theorem Eqs.cg(nd:ts.Nodup)(cl:Ua ts){y:List (Nat×Nat)}(I:X8 (Ye (tfs ts)) (Zk (tfs ts)) x [])(C:Qem (tfs ts) x.S)(Q:Eqs (tfs ts) x y)
  (h1:∀a b,(Gf,a,b)∈tl->∃p q,(p,q)∈y/\ts[p]?=Ga a/\ts[q]?=Ga b)(h2:∀p q,(p,q)∈y->(Gf,tg ts p,tg ts q)∈tl)(d:p∈x.S)(f:q∈x.S):x.lead p=x.lead q↔Cg tl (tg ts p) (tg ts q):=by
 have lt:∀p∈x.S,p<ts.length:=λp d=>by have:=C.lt p d;rwa[Vf]at this
 have at_:∀p∈x.S,ts[p]?=Ga (tg ts p):=λp d=>Wi (lt p d);have mem:∀p∈x.S,tg ts p∈ts:=λp d=>List.mem_of_getElem? (at_ p d);have m:∀p∈x.S,ts.idxOf (tg ts p)=p:=λp d=>Rq nd (at_ p d);constructor
 ·refineλh=>Q.snd (λp q=>Cg tl (tg ts p) (tg ts q)) ⟨λ_=>.refl _,λ_ _ h=>.symm h,λ_ _ _ h k=>.trans h k,λp d q f hw g=>?_⟩ (λp q h=>.told (h2 p q h)) p d q f h;obtain⟨A,l⟩:=Wv (at_ p d);obtain⟨B,z⟩:=Wv (at_ q f);rw[A,B]at hw;rw[l,z]at g;have J:=mem p d;have K:=mem q f;generalize tg ts p=a at*;generalize tg ts q=b at*;cases a with
  |mk u ps=>
   cases b with
   |mk v N=>simp only[Th.word,Th.parts]at hw g;subst hw;have p1:=Xq cl J;have p2:=Xq cl K;simp only[Th.parts]at p1 p2;obtain⟨hl,g⟩:=g;rw[List.length_map,List.length_map]at hl;refine .cong (CgL.of hl λi s t H j=>?_);have:=g i (ts.idxOf s) (ts.idxOf t) (by rw[List.getElem?_map,H];rfl) (by rw[List.getElem?_map,j];rfl);dsimp only at this;rwa[Ry (p1 s (List.mem_of_getElem? H)),Ry (p2 t (List.mem_of_getElem? j))]at this
 ·intro c;have T:Rc tl (x.S.map (tg ts)) (λt=>((x.lead (ts.idxOf t):Nat):Int)):=by
   refine⟨λw ps h q f=>?_,λa b h=>?_,λw ps N n r e=>?_⟩
   ·obtain⟨p,d,e⟩:=List.mem_map.mp h;have o:=Xq cl (mem p d) q (by rw[e];exact f);obtain⟨_,l⟩:=Wv (at_ p d);have:ts.idxOf q∈Zk (tfs ts) p:=by rw[l,e];exact List.mem_map.mpr ⟨q,f,Xb⟩
    exact List.mem_map.mpr ⟨_,C.pts p d _ this,Ry o⟩
   ·obtain⟨p,q,G,ea,F⟩:=h1 a b h;obtain⟨L,M⟩:=Q.ins p q G;refine⟨List.mem_map.mpr ⟨p,L,Ui ea⟩,List.mem_map.mpr ⟨q,M,Ui F⟩,?_⟩;rw[Rq nd ea,Rq nd F,Q.eq p q G]
   ·obtain⟨p,d,D⟩:=List.mem_map.mp n;obtain⟨q,f,E⟩:=List.mem_map.mp r;obtain⟨A,l⟩:=Wv (at_ p d);obtain⟨B,z⟩:=Wv (at_ q f);have:=I.cong d f (by simp only[Zj,Df];rw[A,B,l,z,D,E];refine⟨Xb,?_⟩;simp only[Th.parts,List.map_map];have:=congrArg (List.map DF) e;simp only[List.map_map]at this;exact this)
    rw[<-D,<-E,m p d,m q f,this]
  have:=T.complete (List.mem_map.mpr ⟨p,d,Xb⟩) (List.mem_map.mpr ⟨q,f,Xb⟩) c;simp only[m p d,m q f]at this;lia
abbrev Lt:=Th×Th×Lr
def Cht(pre:List Lt):Th->List Nat->Th->Prop
 |p,[],q=>p=q
 |p,k::a,q=>∃m r,pre[k]?=Ga (p,m,r)/\Cht pre m a q
def Okt(tl:Tl)(d:Option (Th×Th))(pre:List Lt)(a b:Th):Lr->Prop
 |.told n=>tl[n]?=Ga (Gf,a,b)
 |.asked=>d=Ga (a,b)
 |.turn k=>∃r,pre[k]?=Ga (b,a,r)
 |.chain c=>Cht pre a c b
 |.like c=>a.word=b.word/\a.parts.length=b.parts.length/\c.length=a.parts.length/\∀(j k:Nat)(p q:Th),c[j]?=Ga k->a.parts[j]?=Ga p->b.parts[j]?=Ga q->∃r,pre[k]?=Ga (p,q,r)
def Gdt(tl:Tl)(c:Option (Th×Th))(ls:List Lt):Prop:=∀(i:Nat)a b r,ls[i]?=Ga (a,b,r)->Okt tl c (ls.take i) a b r
def lth(ts:List Th)(l:Ln):Lt:=(tg ts l.1,tg ts l.2.1,l.2.2)
theorem Qg8{pre:List Ln}{r:Lr}(h:pre[k]?=Ga (p,q,r)):(pre.map (lth ts))[k]?=Ga (tg ts p,tg ts q,r):=by rw[List.getElem?_map,h];rfl
theorem Qsi{ts:List Th}{pre:List Ln}:∀{a:List Nat}{p q:Nat},Chn pre p a q->Cht (pre.map (lth ts)) (tg ts p) a (tg ts q)
 |[],p,q,h=>by have:p=q:=h;rw[this];rfl
 |k::a,p,q,⟨m,r,h1,h2⟩=>⟨tg ts m,r,Qg8 h1,Qsi h2⟩
theorem Qml(cl:Ua ts){w:Option (Th×Th)}(g:Gdl (tfs ts) lks ls)(lt:∀l∈ls,l.1<ts.length/\l.2.1<ts.length)
  (B:∀a b n,(a,b,Ga (.told n))∈lks->tl[n]?=Ga (Gf,tg ts a,tg ts b))(z:∀a b,(a,b,Ga .asked)∈lks->w=Ga (tg ts a,tg ts b)):Gdt tl w (ls.map (lth ts)):=by
 intro i a b r hi;rw[List.getElem?_map]at hi;cases e:ls[i]? with
 |none=>rw[e]at hi;cases hi
 |some l=>
  rw[e]at hi;obtain⟨p,q,G⟩:=l;cases hi;dsimp only;generalize G=r at*;have ok:=g i p q r e;obtain⟨lp,t⟩:=lt _ (List.mem_of_getElem? e);rw[<-List.map_take];cases r with
  |told n=>exact B p q n ok
  |asked=>exact z p q ok
  |turn k=>obtain⟨d,h⟩:=ok;exact⟨d,Qg8 h⟩
  |chain D=>exact Qsi ok
  |like D=>obtain⟨h1,h2,m,y⟩:=ok;obtain⟨H,f⟩:=Wv (Wi lp);obtain⟨I,x⟩:=Wv (Wi t);have E:tg ts p∈ts:=List.mem_of_getElem? (Wi lp);have F:tg ts q∈ts:=List.mem_of_getElem? (Wi t);rw[f,x,List.length_map,List.length_map]at h2;rw[f,List.length_map]at m;refine⟨by rw[<-H,<-I];exact h1,h2,m,λj k u v A o s=>?_⟩;have C:=y j k (ts.idxOf u) (ts.idxOf v) A (by rw[f,List.getElem?_map,o];rfl) (by rw[x,List.getElem?_map,s];rfl);obtain⟨d,c⟩:=C;have:=Qg8 (ts:=ts) c;rw[Ry (Xq cl E u (List.mem_of_getElem? o)),Ry (Xq cl F v (List.mem_of_getElem? s))]at this;exact⟨d,this⟩
inductive Q0b(H:Hp)(X:Gc->Prop)(v:V)(l:Lt):Prop
 |mk (c:_) (v1:_) (v2:_) (rv:_) (h0:v=.ref c) (h1:H c=Ga (.tup [v1,v2,rv])) (h2:Yl H v1 l.1) (h3:Yl H v2 l.2.1) (h4:Qak H X rv l.2.2):Q0b H X v l
inductive Wc(H:Hp)(X:Gc->Prop)(v:V)(ls:List Lt):Prop
 |mk (L:_) (vs:_) (h0:v=.ref L) (h1:H L=Ga (.lst vs)) (h2:¬X L) (h3:Paired (Q0b H X) vs ls):Wc H X v ls
theorem Wc.kp{X:Gc->Prop}{H H':Hp}(a:Qu H H')(lp:∀{c:Gc}{ys:List V},H c=Ga (.lst ys)->¬X c->H' c=Ga (.lst ys)){v:V}{ls:List Lt}(h:Wc H X v ls):Wc H' X v ls:=by obtain⟨L,vs,h1,h2,b,d⟩:=h;exact⟨L,vs,h1,lp h2 b,b,L2.Paired.Ya d (by rintro _ _ ⟨c,l,m,rv,f,g,i,j,k⟩;exact⟨c,l,m,rv,f,a _ _ g,i.Qm a,j.Qm a,k.kp (λe=>a _ _ e) lp⟩)⟩
theorem Wc.ex{X Y:Gc->Prop}{H:Hp}(a:∀c ys,H c=Ga (.lst ys)->¬X c->¬Y c){v:V}{ls:List Lt}(h:Wc H X v ls):Wc H Y v ls:=by obtain⟨L,vs,h1,h2,b,d⟩:=h;exact⟨L,vs,h1,h2,a _ _ h2 b,L2.Paired.Ya d (by rintro _ _ ⟨c,k,l,rv,e,f,g,i,j⟩;exact⟨c,k,l,rv,e,f,g,i,j.ex a⟩)⟩
theorem Qrq{us:List V}(d:Zq H us ts)(h:Qgw H X us v ls):Wc H X v (ls.map (lth ts))/\∀l∈ls,l.1<ts.length/\l.2.1<ts.length:=by
 obtain⟨L,vs,h1,h2,n,g⟩:=h;have a:=d.length;have key:∀{vs:List V}{ls:List Ln},Paired (Qep H X us) vs ls->Paired (Q0b H X) vs (ls.map (lth ts))/\∀l∈ls,l.1<ts.length/\l.2.1<ts.length:=by
  intro vs ls h;induction h with
  |nil=>exact⟨.nil,λl hl=>nomatch hl⟩
  |@cons v l vs ls m t i=>
   obtain⟨c,s,u,rv,o,p,j,k,q⟩:=m;have l1:l.1<ts.length:=by rw[<-a];exact(List.getElem?_eq_some_iff.mp j).1
   have l2:l.2.1<ts.length:=by rw[<-a];exact(List.getElem?_eq_some_iff.mp k).1
   obtain⟨w,e,i1⟩:=d.at (Wi l1);obtain⟨x,f,i2⟩:=d.at (Wi l2);rw[j]at e;rw[k]at f;cases e;cases f;refine⟨.cons ⟨c,s,u,rv,o,p,i1,i2,q⟩ i.1,λr b=>?_⟩;rcases List.mem_cons.mp b with rfl|b
   ·exact⟨l1,l2⟩
   ·exact i.2 r b
 exact⟨⟨L,vs,h1,h2,n,(key g).1⟩,(key g).2⟩
structure Wth(tl:Tl)(S:List Th)(rs:List Row):Prop where
 ex:∃L:Th->Nat,(∀s∈S,∀t∈S,L s=L t↔Cg tl s t)/\(∀t∈S,(t.word,t.parts.map L,L t)∈rs)/\∀r∈rs,∃t∈S,r=(t.word,t.parts.map L,L t)
 cl:∀t∈S,∀p∈t.parts,p∈S
 nd:(rs.map λr=>(r.1,r.2.1)).Nodup
theorem Qrb(nd:ts.Nodup)(cl:Ua ts){k:List Row}(j:Qem (tfs ts) x.S)(W:Wok (tfs ts) x k)(h:∀p∈x.S,∀q∈x.S,x.lead p=x.lead q↔Cg tl (tg ts p) (tg ts q)):Wth tl (x.S.map (tg ts)) k:=by
 have lt:∀p∈x.S,p<ts.length:=λp a=>by have:=j.lt p a;rwa[Vf]at this
 have at_:∀p∈x.S,ts[p]?=Ga (tg ts p):=λp a=>Wi (lt p a);have mem:∀p∈x.S,tg ts p∈ts:=λp a=>List.mem_of_getElem? (at_ p a);have g:∀p∈x.S,ts.idxOf (tg ts p)=p:=λp a=>Rq nd (at_ p a);obtain⟨N,n1,n2,n3⟩:=W.ex;have d:∀p∈x.S,Vk (tfs ts) x N p=((tg ts p).word,(tg ts p).parts.map (λt=>N (x.lead (ts.idxOf t))),N (x.lead (ts.idxOf (tg ts p)))):=λp a=>by obtain⟨n,i⟩:=Wv (at_ p a);unfold Vk;rw[n,i,List.map_map,g p a];rfl
 refine⟨⟨λt=>N (x.lead (ts.idxOf t)),λs m t c=>?_,λt c=>?_,λr l=>?_⟩,λt c q b=>?_,W.nd⟩
 ·obtain⟨p,a,rfl⟩:=List.mem_map.mp m;obtain⟨q,b,rfl⟩:=List.mem_map.mp c;dsimp only;rw[g p a,g q b,<-h p a q b];exact⟨n1 p a q b,λe=>by rw[e]⟩
 ·obtain⟨p,a,rfl⟩:=List.mem_map.mp c;rw[<-d p a];exact n2 p a
 ·obtain⟨p,a,rfl⟩:=n3 r l;exact⟨_,List.mem_map.mpr ⟨p,a,Xb⟩,d p a⟩
 ·obtain⟨p,a,rfl⟩:=List.mem_map.mp c;have f:=Xq cl (mem p a) q b;obtain⟨_,i⟩:=Wv (at_ p a);have:ts.idxOf q∈Zk (tfs ts) p:=by rw[i];exact List.mem_map.mpr ⟨q,b,Xb⟩
  exact List.mem_map.mpr ⟨_,j.pts p a _ this,Ry f⟩
def Wp(p t e:Gc):List (Ta×V):=[("places",.ref p),("told",.ref t),("entries",.ref e)]
theorem Uu(p t e:Gc):(Wp p t e).lookup ("places":Ta)=Ga (.ref p):=by rfl
theorem Qb9(p t e:Gc):(Wp p t e).lookup ("told":Ta)=Ga (.ref t):=by rfl
theorem V6(p t e:Gc):(Wp p t e).lookup ("entries":Ta)=Ga (.ref e):=by rfl
theorem Qe1(p t e:Gc):(Wp p t e).lookup ("answer":Ta)=Gh:=by rfl
theorem Qpv(p t e:Gc):(Wp p t e).lookup ("go_back":Ta)=Gh:=by rfl
theorem Qwt(p t e:Gc):(Wp p t e).lookup ("tell":Ta)=Gh:=by rfl
theorem Qzs(p t e:Gc):(Wp p t e).lookup ("ask":Ta)=Gh:=by rfl
theorem Il(p t e:Gc):(Wp p t e).lookup ("lines_for":Ta)=Gh:=by rfl
theorem Qp4(a f d:Gc):(Ib a f d).lookup ("things":Ta)=Ga (.ref a):=by rfl
theorem Qi5(a f d:Gc):(Ib a f d).lookup ("forms":Ta)=Ga (.ref f):=by rfl
theorem Qc1(a f d:Gc):(Ib a f d).lookup ("place_of":Ta)=Gh:=by rfl
theorem Qox(p t e t':Gc):Yi "told" (.ref t') (Wp p t e)=Wp p t' e:=by rfl
theorem Oo(p t e a:Gc):Yi "entries" (.ref a) (Wp p t e)=Wp p t a:=by rfl
def Qer(ts:List Th):List En->Tl->Prop:=Paired λ(e:En)(p:Bool×Th×Th)=>e.1=tw p.1/\ts[e.2.1]?=Ga p.2.1/\ts[e.2.2]?=Ga p.2.2
structure Vp(P:Gg)(w:Gs)(CP CB:Gc)(H:Hp)(bk p a f d t e:Gc)(ts:List Th)(tl:Tl):Prop where
 ob:∃dx,H bk=Ga (.ins CB dx (Wp p t e))
 pl:Pl P w CP H p a f d ts
 to:∃vs,H t=Ga (.lst vs)/\Uv H vs tl
 en:∃es ens,H e=Ga (.lst es)/\Paired (Qb1 H) es ens/\Qer ts ens tl
 ta:t≠a
 tf:t≠f
 te:t≠e
 ea:e≠a
 ef:e≠f
structure Few(U ts:List Th)(tl:Tl):Prop where
 sub:∀t∈ts,t∈U
 cl:Ua U
 good:∀t∈U,t.good
 len:U.length<=60
 tl:tl.length<=900
theorem Qq7{l:List Th}(nd:l.Nodup)(h:∀p∈l,p∈S):l.length<=S.length:=by
 induction l generalizing S with
 |nil=>simp
 |cons a r c=>rw[List.nodup_cons]at nd;have:=c (S:=S.erase a) nd.2 λp b=>(List.mem_erase_of_ne (show p≠a fromλz=>nd.1 (by rw[<-z];exact b))).mpr (h p (List.mem_cons_of_mem _ b));have e:=List.length_erase_of_mem (h a List.mem_cons_self);have pos:0<S.length:=List.length_pos_of_mem (h a List.mem_cons_self);simp only[List.length_cons];omega
theorem Few.le(h:Few U ts tl)(nd:ts.Nodup):ts.length<=60:=Tt (Qq7 nd h.sub) h.len
def Lst(tl b:Tl)(n:Nat)(a c:Th):Prop:=tl[n]?=Ga (Gq,a,c)/\Cg b a c/\∀(j:Nat)d e,j<n->tl[j]?=Ga (Gq,d,e)->¬Cg b d e
def Jq(H:Hp)(X:Gc->Prop)(tl:Tl):Dd->V->Prop
 |.back i,v=>v=(Vo tl (.back i)).2
 |.tell b s t,v=>(¬Ik (tl++[(b,s,t)])/\v=.int ((tl.length:Int)+1))\/
   ∃d n a c lv ls,v=.ref d/\H d=Ga (.tup [.str "clash",jv n,lv])/\Lst (tl++[(b,s,t)]) (tl++[(b,s,t)]) n a c/\Wc H X lv ls/\Gdt (tl++[(b,s,t)]) Gh ls/\∃r,ls.getLast?=Ga (a,c,r)
 |.ask s t,v=>(Cg tl s t/\∃d lv ls,v=.ref d/\H d=Ga (.tup [.str "equal",lv])/\Wc H X lv ls/\Gdt tl Gh ls/\∃r,ls.getLast?=Ga (s,t,r))\/
   (¬Cg tl s t/\∃d n a c lv ls,v=.ref d/\H d=Ga (.tup [.str "unlike",jv n,lv])/\Lst tl (tl++[(Gf,s,t)]) n a c/\Wc H X lv ls/\Gdt tl (Ga (s,t)) ls/\∃r,ls.getLast?=Ga (a,c,r))\/
   (¬Cg tl s t/\(∀a c,(Gq,a,c)∈tl->¬Cg (tl++[(Gf,s,t)]) a c)/\∃d g h e f S,v=.ref d/\H d=Ga (.tup [.str "open",g,h])/\Uk H X g e/\Uk H X h f/\Wth tl S e/\Wth (tl++[(Gf,s,t)]) S f/\s∈S/\t∈S/\∀b a c,(b,a,c)∈tl->a∈S/\c∈S)
theorem Jq.kp{X:Gc->Prop}{H H':Hp}(f:Qu H H')(lp:∀{c:Gc}{ys:List V},H c=Ga (.lst ys)->¬X c->H' c=Ga (.lst ys)){tl:Tl}:∀{d:Dd}{v:V},Jq H X tl d v->Jq H' X tl d v
 |.back i,v,h=>h
 |.tell b s t,v,h=>by
  rcases h with h|⟨g,n,a,c,lv,ls,h1,h2,j,k,m⟩
  ·exact .inl h
  ·exact .inr ⟨g,n,a,c,lv,ls,h1,f _ _ h2,j,k.kp f lp,m⟩
 |.ask s t,v,h=>by
  rcases h with⟨l,g,lv,ls,h1,h2,j,k⟩|⟨l,g,n,a,c,lv,ls,h1,h2,j,k,m⟩|⟨l,o,g,r,u,p,q,S,h1,h2,j,k,m⟩
  ·exact .inl ⟨l,g,lv,ls,h1,f _ _ h2,j.kp f lp,k⟩
  ·exact .inr (.inl ⟨l,g,n,a,c,lv,ls,h1,f _ _ h2,j,k.kp f lp,m⟩)
  ·exact .inr (.inr ⟨l,o,g,r,u,p,q,S,h1,f _ _ h2,j.kp (λe=>f _ _ e) lp,k.kp (λe=>f _ _ e) lp,m⟩)
theorem Jq.ex{X Y:Gc->Prop}{H:Hp}(l:∀c ys,H c=Ga (.lst ys)->¬X c->¬Y c){tl:Tl}:∀{d:Dd}{v:V},Jq H X tl d v->Jq H Y tl d v
 |.back i,v,h=>h
 |.tell b s t,v,h=>by
  rcases h with h|⟨e,n,a,c,lv,ls,h1,h2,f,g,k⟩
  ·exact .inl h
  ·exact .inr ⟨e,n,a,c,lv,ls,h1,h2,f,g.ex l,k⟩
 |.ask s t,v,h=>by
  rcases h with⟨j,e,lv,ls,h1,h2,f,g⟩|⟨j,e,n,a,c,lv,ls,h1,h2,f,g,k⟩|⟨j,m,e,q,r,o,p,S,h1,h2,f,g,k⟩
  ·exact .inl ⟨j,e,lv,ls,h1,h2,f.ex l,g⟩
  ·exact .inr (.inl ⟨j,e,n,a,c,lv,ls,h1,h2,f,g.ex l,k⟩)
  ·exact .inr (.inr ⟨j,m,e,q,r,o,p,S,h1,h2,f.ex l,g.ex l,k⟩)
theorem Jq.head{X:Gc->Prop}{H:Hp}{tl:Tl}:∀{d:Dd}{v:V},Jq H X tl d v->Qeb H v (Vo tl d).2
 |.back i,v,h=>.inl h
 |.tell b s t,v,h=>by
  rcases h with⟨h1,h2⟩|⟨e,n,a,c,lv,ls,h1,h2,g,_⟩
  ·left;simp only[Vo];rw[Gi h1,h2]
  ·right;have hb:Ik (tl++[(b,s,t)]):=⟨a,c,List.mem_of_getElem? g.1,g.2.1⟩;simp only[Vo];rw[Gn hb];exact⟨e,_,h1,h2⟩
 |.ask s t,v,h=>by
  right;rcases h with⟨f,e,lv,ls,h1,h2,_⟩|⟨f,e,n,a,c,lv,ls,h1,h2,g,_⟩|⟨f,j,e,m,o,p,q,S,h1,h2,_⟩
  ·refine⟨e,[lv],h1,?_⟩;simp only[Vo,kindOf];rw[Gn f];exact h2
  ·refine⟨e,[jv n,lv],h1,?_⟩;simp only[Vo,kindOf];rw[Gi f,Gn ⟨a,c,List.mem_of_getElem? g.1,g.2.1⟩];exact h2
  ·refine⟨e,[m,o],h1,?_⟩;simp only[Vo,kindOf];rw[Gi f,Gi (by rintro⟨a,c,k,l⟩;exact j a c k l)];exact h2
theorem Qpu(h:t.good):t.parts.length<=100:=by
 cases t with
 |mk u ps=>have:=Zz ps;have:=h.2.2;simp only[Th.size]at this;simp only[Th.parts];lia
theorem Qkx{p:Th}(h:p∈t.parts):p.depth<t.depth:=by
 cases t with
 |mk u ps=>simp only[Th.parts]at h;have:=We h;simp only[Th.depth];omega
theorem Qx2(h:t.ok=Gf):TU t.word=Gf:=by
 cases t with
 |mk u ps=>simp only[Th.ok,Tn]at h;exact h.1
theorem Qnx(h:¬p<ts.length):Ye (tfs ts) p=Eo/\Zk (tfs ts) p=[]:=by unfold Ye Zk tfs;rw[List.getD_eq_getElem?_getD,List.getElem?_eq_none (by rw[List.length_map];omega)];exact⟨Xb,Xb⟩
theorem Qyb(nd:ts.Nodup)(cl:Ua ts)(c:∀t∈ts,t.good)(hl:ts.length<=60):Q1d (tfs ts) (λp=>(tg ts p).depth)/\∀p,(tg ts p).depth<59:=by
 have mem:∀{p:Nat},p<ts.length->tg ts p∈ts:=λh=>List.mem_of_getElem? (Wi h);refine⟨⟨λp=>?_,λp=>?_,λp a q b=>?_,λp q a b d e=>?_,by rw[Vf];omega⟩,λp=>?_⟩
 ·by_cases h:p<ts.length
  ·rw[(Wv (Wi h)).1];exact Qx2 (c _ (mem h)).1
  ·rw[(Qnx h).1];decide+kernel
 ·by_cases h:p<ts.length
  ·rw[(Wv (Wi h)).2,List.length_map];exact Qpu (c _ (mem h))
  ·rw[(Qnx h).2];exact Gw _
 ·rw[Vf]at a⊢;rw[(Wv (Wi a)).2]at b;obtain⟨s,f,rfl⟩:=List.mem_map.mp b;have:=Xq cl (mem a) s f;refine⟨List.idxOf_lt_length_of_mem this,?_⟩;rw[Ry this];exact Qkx f
 ·rw[Vf]at a b;obtain⟨j,g⟩:=Wv (Wi a);obtain⟨k,i⟩:=Wv (Wi b);rw[j,k]at d;rw[g,i]at e;have:=Ql4 (ts:=ts) (Xq cl (mem a)) (Xq cl (mem b)) (L4 d e);rw[<-Rq nd (Wi a),<-Rq nd (Wi b),this]
 ·by_cases h:p<ts.length
  ·have:=(c _ (mem h)).2.1;omega
  ·have:tg ts p=.mk Eo []:=by unfold tg;rw[List.getD_eq_getElem?_getD,List.getElem?_eq_none (by omega)];rfl
   rw[this];simp[Th.depth,Wf]
theorem Qcf{b:Bool}(h:("same":Ta)=tw b):b=Gf:=by
 cases b with
 |true=>rfl
 |false=>exact absurd h (by decide+kernel)
theorem Qmu{b:Bool}(h:("unlike":Ta)=tw b):b=Gq:=by
 cases b with
 |true=>exact absurd h (by decide+kernel)
 |false=>rfl
theorem Qca(R:Qer ts ens tl){k:Ta}(h:ens[j]?=Ga (k,p,q)):∃b,k=tw b/\tl[j]?=Ga (b,tg ts p,tg ts q):=by obtain⟨⟨b,s,t⟩,h1,h2,a,c⟩:=Qy R h;exact⟨b,h2,by rw[h1,Ui a,Ui c]⟩
theorem Og(R:Qer ts ens tl){b:Bool}{s:Th}(h:tl[j]?=Ga (b,s,t)):∃p q,ens[j]?=Ga (tw b,p,q)/\ts[p]?=Ga s/\ts[q]?=Ga t:=by
 have hl:=Gr R;have a:j<ens.length:=by rw[hl];exact(List.getElem?_eq_some_iff.mp h).1
 obtain⟨⟨e,s',t'⟩,h1,h2,c,d⟩:=Qy R (List.getElem?_eq_getElem a);rw[h]at h1;cases h1;refine⟨ens[j].2.1,ens[j].2.2,?_,c,d⟩;rw[List.getElem?_eq_getElem a,<-h2]
theorem Qjx{c:List En}(R:Qer ts ens tl)(e:∀p q,sme p q∈c↔sme p q∈ens):
  (∀a b,(Gf,a,b)∈tl->∃p q,(p,q)∈Qd0 c/\ts[p]?=Ga a/\ts[q]?=Ga b)/\∀p q,(p,q)∈Qd0 c->(Gf,tg ts p,tg ts q)∈tl:=by
 constructor
 ·intro a b h;obtain⟨j,d⟩:=List.mem_iff_getElem?.mp h;obtain⟨p,q,h1,h2,f⟩:=Og R d;exact⟨p,q,V5.mpr ((e p q).mpr (List.mem_of_getElem? h1)),h2,f⟩
 ·intro p q h;obtain⟨j,d⟩:=List.mem_iff_getElem?.mp ((e p q).mp (V5.mp h));obtain⟨b,h1,h2⟩:=Qca R d;rw[Qcf h1]at h2;exact List.mem_of_getElem? h2
theorem Qn8{b:Tl}(R:Qer ts ens tl)(hS:∀e∈ens,e.2.1∈x.S/\e.2.2∈x.S)(cg:∀p∈x.S,∀q∈x.S,x.lead p=x.lead q↔Cg b (tg ts p) (tg ts q))(h:Q0j x ens Gh):∀a c,(Gq,a,c)∈tl->¬Cg b a c:=λa c g hc=>by obtain⟨j,f⟩:=List.mem_iff_getElem?.mp g;obtain⟨p,q,h1,h2,d⟩:=Og R f;obtain⟨i,k⟩:=hS _ (List.mem_of_getElem? h1);refine h j p q h1 ((cg p i q k).mpr ?_);rw[Ui h2,Ui d];exact hc
theorem Qos{a:Tl}{n:Nat}(R:Qer ts ens tl)(hS:∀e∈ens,e.2.1∈x.S/\e.2.2∈x.S)(cg:∀p∈x.S,∀q∈x.S,x.lead p=x.lead q↔Cg a (tg ts p) (tg ts q))(h:Q0j x ens (Ga n)):
  ∃p q,ens[n]?=Ga (unl p q)/\x.lead p=x.lead q/\p∈x.S/\q∈x.S/\Lst tl a n (tg ts p) (tg ts q):=by
 obtain⟨⟨p,q,h1,h2⟩,r⟩:=h;obtain⟨l,o⟩:=hS _ (List.mem_of_getElem? h1);obtain⟨b,hb,g⟩:=Qca R h1;rw[Qmu hb]at g;refine⟨p,q,h1,h2,l,o,g,(cg p l q o).mp h2,λj v w s c hc=>?_⟩;obtain⟨k,m,i,t,u⟩:=Og R c;obtain⟨d,f⟩:=hS _ (List.mem_of_getElem? i);refine r j k m s i ((cg k d m f).mpr ?_);rw[Ui t,Ui u];exact hc
structure Qew(K:Gd)(mg:Ta->Option Value)(C:Gc):Prop where
 cl:Cls K C
 places:Yp K C "places"
 told:Yp K C "told"
 entries:Yp K C "entries"
 mgC:mg "Book"=Ga (.ref C)
 no:∃u,mg "NO_MOMENT"=Ga u/\RelV (.str "no moment") u
structure Lng(fs:List Fm)(x:Nn):Prop where
 inv:X8 (Ye fs) (Zk fs) x []
 fok:Qem fs x.S
 len:x.S.length<=60
 lk:x.links.length<64
 few:∀p,(Zk fs p).length<=100
inductive Qbb(P:Gg)(w:Gs)(C:Gc)(CP:Gc)(CB:Gc)(vs:List V)(H:Hp)(Q:VK):Prop
 |mk (bk:Gc) (p:Gc) (a:Gc) (f:Gc) (d:Gc) (t:Gc) (e:Gc) (ts:List Th) (tl:Tl) (n:Gc) (A:Na) (tb:Nat) (x:Nn) (ev:V) (k:Ta) (p1:Nat) (p2:Nat) (h0:vs=[.ref bk,.ref n,ev]) (h1:Vp P w CP CB H bk p a f d t e ts tl) (h2:Qb1 H ev (k,p1,p2)) (h3:Z6 P w C H n A (tfs ts) tb x) (h4:Lng (tfs ts) x) (h5:p1∈x.S) (h6:p2∈x.S) (h7:x.lead p1=x.lead p2) (h8:∀(v:V)(ls:List Ln)(H':Hp),Q4 H H'->Wc H' (λb=>∃o,H b=Ga o) v (ls.map (lth ts))->(∀l∈ls,l.1<ts.length/\l.2.1<ts.length)->Gdl (tfs ts) x.links ls->(∃r,ls.getLast?=Ga (p1,p2,r))->Q v H'):Qbb P w C CP CB vs H Q
def Ro(P:Gg)(w:Gs)(C CP a:Gc):Sp:=λvs H Q _=>Qbb P w C CP a vs H Q
section
variable{P:Gg}{w:Gs}{K:Gd}{mg:Ta->Option Value}{base:Heap}
theorem Vp.same{CP c:Gc}{H H':Hp}{bk p a f d t e:Gc}{ts:List Th}{tl:Tl}(B:Vp P w CP c H bk p a f d t e ts tl)(g:Q4 H H'):Vp P w CP c H' bk p a f d t e ts tl:=by obtain⟨dx,l⟩:=B.ob;obtain⟨vs,m,n⟩:=B.to;obtain⟨es,b,i,j,k⟩:=B.en;exact⟨⟨dx,g _ _ l⟩,B.pl.same g,⟨vs,g _ _ m,n.Qm (Qu.of g)⟩,⟨es,b,g _ _ i,L2.Paired.Ya j λ_ _ h=>h.Qm (Qu.of g),k⟩,B.ta,B.tf,B.te,B.ea,B.ef⟩
theorem Qly:Qx ["self","net","entry"] ["self","net","entry"] (Ql Qav):=by eq_refl
theorem Qis(F:Wd K "lines_for" "Book.lines_for" Qav f0 fd)(T:Qew K mg CB)(TP:Qev K mg CP)(G:Qs P w K mg base Z4 6 fB fdB ["things","net","one","other"] (Qj2 P w C))(u:KI K fB)(l:Binds K fdB ["things","net","one","other"] [])(y:MG mg "lines_between" fB):
  Qs P w K mg base Z4 7 f0 fd ["self","net","entry"] (Ro P w C CP CB):=by
 refine F.ok Qly (λvs H Q E h=>?_) (λcdv A outer s H vs Q E r h=>?_)
 ·obtain⟨bk,p,a,f,d,t,e,ts,tl,n,A,tb,x,ev,k,p1,p2,rfl,_⟩:=h;rfl
 obtain⟨bk,p,a,f,d,t,e,ts,tl,n,A,tb,x,ev,k,p1,p2,rfl,B,⟨c,rfl,hc⟩,X,i,I,J,m,q⟩:=h;refine⟨_,Qh (Qv (Z1 G r rfl y u l .nil Q6 (Qa (Qn (Qn (pv 0) rfl) rfl) (Qa (pv 1) (Qa (Qo Q5 (pv 2) Qk) (Qa (Qo Q5 (pv 2) Qk) Qe)))))),?_⟩;subst_vars;obtain⟨dx,z⟩:=B.ob;obtain⟨dp,D⟩:=B.pl.ob;obtain⟨us,L,j⟩:=B.pl.th;and_intros;refine⟨_,Xb,bk,CB,dx,_,_,Xb,z,T.cl,T.places,Uu _ _ _,p,CP,dp,_,_,Xb,D,TP.cl,TP.nT,Qp4 _ _ _,_,Xb,_,Xb,c,_,_,_,Xb,Xb,Z2.of hc,I0 _ _ _,_,Xb,c,_,_,_,Xb,Xb,Z2.of hc,Qjc _ _ _ _,a,n,A,tfs ts,tb,x,us,p1,p2,Xb,X,i.inv,i.fok,I,J,m,i.len,i.lk,i.few,L,by rw[Vf,j.length],λv ls H' g hl o b=>?_⟩;obtain⟨l1,l2⟩:=Qrq (j.same g) hl;exact q v ls H' g l1 l2 o b
end
theorem Nok.same{P:Gg}{w:Gs}{C:Gc}{H0 H H':Hp}{n:Gc}{A:Na}{fs:List Fm}{tb:Nat}{x:Nn}(N:Nok P w C H0 H n A fs tb x)(g:Q4 H H'):Nok P w C H0 H' n A fs tb x:=⟨N.at_.same g,N.inv,N.fok,N.new,N.nn,N.O7.trans g,N.len,N.tt,N.cl,N.tbb⟩
theorem Nok.lng(N:Nok P w C H0 H n A fs tb x)(few:∀p,(Zk fs p).length<=100):Lng fs x:=⟨N.inv,N.fok,N.len,by have:=N.cl;have:=N.len;lia,few⟩
theorem Nok.room(N:Nok P w C H0 H n A fs tb x):x.S.length<=10000/\V3 x<=10000/\cls x+x.links.length<=10000/\tb+cls x*V3 x<=900000:=by
 have b:=N.len;have a:=N.tt;have c:=N.cl;have d:=N.tbb;have e:x.links.length*V3 x+cls x*V3 x<=60*6000:=by rw[<-Eh];exact FQ (by lia) a
 exact⟨by lia,by lia,by lia,by lia⟩
inductive Quh(P:Gg)(w:Gs)(CP:Gc)(CB:Gc)(vs:List V)(H:Hp)(Q:VK):Prop
 |mk (bk:Gc) (p:Gc) (a:Gc) (f:Gc) (d:Gc) (t:Gc) (e:Gc) (ts:List Th) (tl:Tl) (U:List Th) (ev:V) (p1:Nat) (p2:Nat) (h0:vs=[.ref bk,ev]) (h1:Vp P w CP CB H bk p a f d t e ts tl) (h2:Few U ts tl) (h3:Qb1 H ev (("ask":Ta),p1,p2)) (h4:p1<ts.length) (h5:p2<ts.length) (h6:∀(v:V)(H':Hp),Q4 H H'->Jq H' (λb=>∃o,H b=Ga o) tl (.ask (tg ts p1) (tg ts p2)) v->Q v H'):Quh P w CP CB vs H Q
variable{w:Ta}
def Qye(P:Gg)(w:Gs)(CP a:Gc):Sp:=λvs H Q _=>Quh P w CP a vs H Q
theorem Qry(R:Qer ts ens tl):∀e∈ens,e.2.1<ts.length/\e.2.2<ts.length:=λe c=>by obtain⟨j,d⟩:=List.mem_iff_getElem?.mp c;obtain⟨y,_,_,a,b⟩:=Qy R d;exact⟨(List.getElem?_eq_some_iff.mp a).1,(List.getElem?_eq_some_iff.mp b).1⟩
theorem Qd6(h:∃r,ls.getLast?=Ga (p,q,r)):∃r,(ls.map (lth ts)).getLast?=Ga (tg ts p,tg ts q,r):=by obtain⟨r,h⟩:=h;exact⟨r,by rw[List.getLast?_map,h];rfl⟩
section
variable{P:Gg}{w:Gs}{K:Gd}{mg:Ta->Option Value}{base:Heap}
theorem Qyn:Qx ["self","entry","net","apart","number"] ["self","entry"] (Ql Qhl):=by eq_refl
theorem Q0r{fE fM:Gc}{an ao am:Ts}(F:Wd K "ask" "Book.ask" Qhl f0 fd)(T:Qew K mg CB)(TP:Qev K mg CP)(TN:Uc K mg C)
  (GN:Qs P w K mg base Z4 61 fN fdN ["forms","told"] (Qgl P w C))(kN:KI K fN)(bN:Binds K fdN ["forms","told"] [])(mN:MG mg "net_of" fN)
  (mE:Z9 K C "equal" fE)(GE:Qs P w K mg base Z4 1 fE an ["self","one","other"] (Qcc P w C))(bE:Binds K an ["self","one","other"] [])(mR:Z9 K C "rows" fR)(GR:Qs P w K mg base Z4 2 fR fdR ["self"] (Qsf P w C))(bR:Binds K fdR ["self"] [])
  (mM:Z9 K C "merge" fM)(GM:Qs P w K mg base Z4 4 fM ao ["self","one","other","reason"] (Qhh P w C))(bM:Binds K ao ["self","one","other","reason"] [])
  (GC:Qs P w K mg base Z4 2 fC am ["net","entries"] (Qhf P w C))(kC:KI K fC)(bC:Binds K am ["net","entries"] [])(mC:MG mg "least_clash" fC)
  (mL:Z9 K CB "lines_for" fL)(GL:Qs P w K mg base Z4 7 fL fdL ["self","net","entry"] (Ro P w C CP CB))(bL:Binds K fdL ["self","net","entry"] []):
  Qs P w K mg base Z4 62 f0 fd ["self","entry"] (Qye P w CP CB):=by
 refine F.ok Qyn (λvs H Q E h=>?_) (λcdv A outer s H vs Q E hr h=>?_)
 ·obtain⟨bk,p,a,f,d,t,e,ts,tl,U,ev,p1,p2,rfl,_⟩:=h;rfl
 obtain⟨bk,p,a,f,d,t,e,ts,tl,U,ev,p1,p2,rfl,B,FW,⟨i,rfl,D⟩,aq,ar,q⟩:=h;have aQ:Yb 1 _:=hr.mono (by lia);have ah:Yb 2 _:=hr.mono (by lia);have aR:Yb 4 _:=hr.mono (by lia);have av:Yb 7 _:=hr.mono (by lia);have nd:=Qyn.nd;show∃t,Z7 ?mysAsk _ t/\_;let w7:Subtype (Z7 ?mysAsk ((Qj Qhl).drop 6)):=⟨_,Qh (Qv (Zb (Qa Zf (Qa (pv 3) (Qa (Qjp (pv 2) TN.cl mR GR ah bR .nil Q6) Qe)))))⟩
 let w6:Subtype (Z7 ?mysAsk ((Qj Qhl).drop 5)):=⟨_,Qd (Zn (Qr O3 (pv 4) Ur (Q3 _))
   (Qh (Qv (Zb (Qa Zf (Qa (pv 4) (Qa (Q9 (pv 0) T.cl mL GL av bL .nil Q6 (Qa (pv 2) (Qa (Qo Zh (Qn (pv 0) rfl) (pv 4)) Qe))) Qe)))))) Q7) w7.2⟩
 let w5:Subtype (Z7 ?mysAsk ((Qj Qhl).drop 4)):=⟨_,Qd (Qt 4 nd (Z1 GC ah rfl mC kC bC .nil Q6 (Qa (pv 2) (Qa (Qn (pv 0) rfl) Qe)))) w6.2⟩
 let w4:Subtype (Z7 ?mysAsk ((Qj Qhl).drop 3)):=⟨_,Qd (Ze (Q9 (pv 2) TN.cl mM GM aR bM .nil Q6 (Qa (Qo Q5 (pv 1) Qk) (Qa (Qo Q5 (pv 1) Qk) (Qa (Zb (Qa Zf Qe)) Qe))))) w5.2⟩
 let w3:Subtype (Z7 ?mysAsk ((Qj Qhl).drop 2)):=⟨_,Qd (Qt 3 nd (Qjp (pv 2) TN.cl mR GR ah bR .nil Q6)) w4.2⟩
 let w2:Subtype (Z7 ?mysAsk ((Qj Qhl).drop 1)):=⟨_,Qd (Zn (Xy (Q9 (pv 2) TN.cl mE GE aQ bE .nil Q6 (Qa (Qo Q5 (pv 1) Qk) (Qa (Qo Q5 (pv 1) Qk) Qe))))
   (Qh (Qv (Zb (Qa Zf (Qa (Q9 (pv 0) T.cl mL GL av bL .nil Q6 (Qa (pv 2) (Qa (pv 1) Qe))) Qe))))) Q7) w3.2⟩
 refine⟨_,Qd (Qt 2 nd (Z1 GN hr rfl mN kN bN .nil Q6 (Qa (Qn (Qn (pv 0) rfl) rfl) (Qa (Zo Ul (Qn (pv 0) rfl) (Zt (Qa (pv 1) Qe))) Qe)))) w2.2,?_⟩;subst_vars;obtain⟨dx,o1⟩:=B.ob;obtain⟨dp,o2⟩:=B.pl.ob;obtain⟨ws,f1,f2⟩:=B.pl.fo;obtain⟨es,g,e1,e2,R⟩:=B.en;have G:=B.pl.nd;have k:=B.pl.cl;have ab:=FW.le G;obtain⟨TK,aB⟩:=Qyb G k (λt ht=>FW.good t (FW.sub t ht)) ab;and_intros;have aT:es.length=tl.length:=(Gr e2).trans (Gr R);have aU:=FW.tl;refine⟨_,Xb,bk,CB,dx,_,_,Xb,o1,T.cl,T.places,Uu _ _ _,p,CP,dp,_,_,Xb,o2,TP.cl,TP.nF,Qi5 _ _ _,_,Xb,bk,CB,dx,_,_,Xb,o1,T.cl,T.entries,V6 _ _ _,_,Xb,by show 1<=Gj;decide,λr0 aP=>?_⟩;have s0:=Qg aP (.lst [.ref i]);refine⟨e,r0,es,[.ref i],Xb,Xb,s0 _ _ e1,Qb,by rw[GQ];simp only[List.length_singleton];lia,λr1 au=>?_⟩;have s1:=s0.trans (Qg au (.lst (es++[.ref i])));have g1:(zj (zj H r0 (.lst [.ref i])) r1 (.lst (es++[.ref i]))) r1=Ga (.lst (es++[.ref i])):=Qb;generalize zj (zj H r0 (.lst [.ref i])) r1 (.lst (es++[.ref i]))=H1 at s1 g1;have al:=Qu.of s1;have aA:Paired (Qb1 H1) (es++[.ref i]) (g++[(("ask":Ta),p1,p2)]):=DI (L2.Paired.Ya e2 λ_ _ h=>h.Qm al) ⟨i,Xb,al _ _ D⟩;refine⟨f,r1,ws,_,tfs ts,_,_,Xb,s1 _ _ f1,L2.Paired.Ya f2 λ_ _ h=>h.Qm al,g1,aA,TK,by rw[Vf];exact ab,aB,λen ag=>?_,by rw[<-Gr aA,List.length_append,List.length_singleton];lia,λn A tb x H2 N _ U=>?_⟩
 ·rw[Vf];rcases List.mem_append.mp ag with h|h
  ·exact Qry R en h
  ·have:en=(("ask":Ta),p1,p2):=by simpa using h
   rw[this];exact⟨aq,ar⟩
 have S2:Q4 H H2:=s1.trans N.O7;have J:∀p q,sme p q∈g++[(("ask":Ta),p1,p2)]↔sme p q∈g:=λp q=>by
  rw[List.mem_append];constructor
  ·rintro(h|h)
   ·exact h
   ·rw[List.mem_singleton]at h;exact absurd (show("same":Ta)="ask"from congrArg (·.1) h) (by decide+kernel)
  ·exact .inl
 obtain⟨aC,aD⟩:=Qjx R J;have EQ:=Qnp U;have ac:∀p∈x.S,∀q∈x.S,x.lead p=x.lead q↔Cg tl (tg ts p) (tg ts q):=λp hp q hq=>EQ.cg G k N.inv N.fok aC aD hp hq;have M:∀a b n,(a,b,Ga (.told n))∈x.links->tl[n]?=Ga (Gf,tg ts a,tg ts b):=λa b n h=>by
  rcases U.rsn _ h with z|⟨j,p',q',h1,h2⟩
  ·cases z
  ·cases h1;have hj:n<g.length:=by
    rcases Tk n g.length with h|h
    ·exact h
    ·rw[List.getElem?_append_right h]at h2;have:n - g.length=0:=by
      rcases Tk (n - g.length) 1 with h'|h'
      ·lia
      ·rw[List.getElem?_eq_none (by simpa using h')]at h2;cases h2
     rw[this]at h2;have h2:((("ask":Ta),p1,p2):En)=sme a b:=by simpa using h2
     exact absurd (show("ask":Ta)="same"from congrArg (·.1) h2) (by decide+kernel)
   rw[List.getElem?_append_left hj]at h2;obtain⟨b',h3,h4⟩:=Qca R h2;rw[Qcf h3]at h4;exact h4
 have L:∀a b,¬(a,b,Ga Jb.asked)∈x.links:=λa b h=>by
  rcases U.rsn _ h with z|⟨j,p',q',h1,h2⟩
  ·cases z
  ·cases h1
 obtain⟨W,X⟩:=U.ins (("ask":Ta),p1,p2) (by simp);have W:p1∈x.S:=W;have X:p2∈x.S:=X;have aa:∀en∈g,en.2.1∈x.S/\en.2.2∈x.S:=λen ag=>U.ins en (List.mem_append_left _ ag);obtain⟨dn,on⟩:=N.at_.ob;refine⟨_,Xb,n,dn,_,Xb,on,Qcq _,_,Xb,i,_,_,_,Xb,Xb,Z2.of (S2 _ _ D),I0 _ _ _,_,Xb,i,_,_,_,Xb,Xb,Z2.of (S2 _ _ D),Qjc _ _ _ _,n,A,_,tb,x,p1,p2,Xb,N.at_,W,X,_,Xb,?_⟩;by_cases I:x.lead p1=x.lead p2
 ·rw[GX I];refine Yv ?_;have hC:=(ac p1 W p2 X).mp I;refine⟨_,Xb,bk,dx,_,Xb,S2 _ _ o1,Il _ _ _,_,Xb,_,Xb,bk,p,a,f,d,t,e,ts,tl,n,A,tb,x,.ref i,_,p1,p2,Xb,B.same S2,⟨i,Xb,S2 _ _ D⟩,N.at_,N.lng TK.few,W,X,I,λlv ls H3 g3 hl hb hg l=>?_⟩;refine⟨by show 2<=Gj;decide,λc5 aL=>?_⟩;have s5:=Qg aL (.tup [.str "equal",lv]);refine q _ _ ((S2.trans g3).trans s5) (.inl ⟨hC,c5,lv,ls.map (lth ts),Xb,Qb,(hl.ex (by rintro c ys _ J ⟨o,ho⟩;exact J ⟨o,S2 _ _ ho⟩)).kp (Qu.of s5) (λe _=>s5 _ _ e),Qml k hg hb M (λa b h=>absurd h (L a b)),Qd6 l⟩)
 ·rw[Gz I];refine Zp ?_;have hC:¬Cg tl (tg ts p1) (tg ts p2):=λz=>I ((ac p1 W p2 X).mpr z);refine⟨_,Xb,n,dn,_,Xb,on,Qm0 _,n,A,_,tb,x,Xb,N.at_,N.fok,N.inv,by have:=N.len;lia,λv1 aE H3 g3 aw W1=>?_⟩;have S3:=S2.trans g3;have N3:=N.same g3;refine⟨_,Xb,n,dn,_,Xb,g3 _ _ on,Qj7 _,_,Xb,i,_,_,_,Xb,Xb,Z2.of (S3 _ _ D),I0 _ _ _,_,Xb,i,_,_,_,Xb,Xb,Z2.of (S3 _ _ D),Qjc _ _ _ _,by show 1<=Gj;decide,λc4 aK=>?_⟩;have s4:=Qg aK (.tup [.str "asked"]);have N4:=N3.same s4;obtain⟨z1,z2,z3,z4⟩:=N.room;refine⟨n,A,_,tb,x,p1,p2,.ref c4,Ga .asked,Xb,N4.at_,N.fok,⟨c4,Xb,Qb⟩,by simp,W,X,N.inv,z1,z2,z3,z4,λZ H5 Y5 M5 F5=>?_⟩;have N5:=N4.merged Y5 M5 F5;have S5:Q4 H H5:=s1.trans N5.O7;have aH:=Qxy EQ M5 W X;have eS:=M5.S;have ad:∀p∈Z.S,∀q∈Z.S,Z.lead p=Z.lead q↔Cg (tl++[(Gf,tg ts p1,tg ts p2)]) (tg ts p) (tg ts q):=λp hp q hq=>aH.cg G k N5.inv N5.fok (λa b h=>by
   rcases List.mem_append.mp h with h|h
   ·obtain⟨u,v,h1,h2⟩:=aC a b h;exact⟨u,v,List.mem_append_left _ h1,h2⟩
   ·have:(Gf,a,b)=(Gf,tg ts p1,tg ts p2):=by simpa using h
    cases this;exact⟨p1,p2,by simp,Wi aq,Wi ar⟩) (λu v h=>by
   rcases List.mem_append.mp h with h|h
   ·exact List.mem_append_left _ (aD u v h)
   ·have:(u,v)=(p1,p2):=by simpa using h
    cases this;simp) hp hq
  have r:∀en∈g,en.2.1∈Z.S/\en.2.2∈Z.S:=by rw[eS];exact aa
  refine⟨_,Xb,_,Xb,bk,CB,dx,_,_,Xb,S5 _ _ o1,T.cl,T.entries,V6 _ _ _,n,e,A,_,_,Z,es,g,Xb,N5.at_,S5 _ _ e1,L2.Paired.Ya e2 λ_ _ h=>h.Qm (Qu.of S5),r,λo H6 g6 ap=>?_⟩;have O:=S5.trans g6;have N6:=N5.same g6;have aG:∀{c:Gc}{ys:List V},H3 c=Ga (.tup ys)->H6 c=Ga (.tup ys):=λ{c ys}ec=>g6 _ _ (F5.keep _ _ (s4 _ _ ec) (N4.at_.Ql5 (s4 _ _ ec)));have az:∀{c:Gc}{ys:List V},H3 c=Ga (.lst ys)->¬(∃o,H2 c=Ga o)->H6 c=Ga (.lst ys):=λ{c ys}ec J=>g6 _ _ (F5.keep _ _ (s4 _ _ ec) (λz=>J (by have:=N.at_.own z;rcases this with⟨_,h⟩|⟨_,h⟩|⟨_,h⟩|⟨_,h⟩<;>exact⟨_,h⟩)))
  have ai:=(aw.kp aG az).ex (Y:=λb=>∃o,H b=Ga o) (by rintro c ys _ J ⟨o,ho⟩;exact J ⟨o,S2 _ _ ho⟩);refine⟨_,Xb,Xb,_,Xb,?_⟩;rw[Qg5];cases o with
  |some m=>
   refine Yv ?_;obtain⟨p',q',h1,h2,aj,ak,aN⟩:=Qos R r ad ap;have hm:m<es.length:=by rw[Gr e2];exact(List.getElem?_eq_some_iff.mp h1).1
   obtain⟨y,hy,ay⟩:=Qy e2 (List.getElem?_eq_getElem hm);rw[h1]at hy;cases hy;obtain⟨cm,aJ,aM⟩:=ay;refine⟨_,Xb,_,Xb,bk,dx,_,Xb,O _ _ o1,Il _ _ _,_,Xb,_,Xb,bk,CB,dx,_,_,Xb,O _ _ o1,T.cl,T.entries,V6 _ _ _,_,Xb,e,es,_,_,Xb,Xb,Zd.of (O _ _ e1),Qz (List.getElem?_eq_getElem hm),bk,p,a,f,d,t,e,ts,tl,n,A,_,Z,_,_,p',q',Xb,B.same O,⟨cm,aJ,O _ _ aM⟩,N6.at_,N6.lng TK.few,aj,ak,h2,λlv ls H7 g7 hl hb hg l=>?_⟩;refine⟨by show 3<=Gj;decide,λc8 af=>?_⟩;have s8:=Qg af (.tup [.str "unlike",jv m,lv]);refine q _ _ ((O.trans g7).trans s8) (.inr (.inl ⟨hC,c8,m,_,_,lv,ls.map (lth ts),Xb,Qb,aN,(hl.ex (by rintro c ys _ J ⟨o,ho⟩;exact J ⟨o,O _ _ ho⟩)).kp (Qu.of s8) (λe _=>s8 _ _ e),Qml k hg hb (λa b n h=>?_) (λa b h=>?_),Qd6 l⟩))
   ·rcases M5.rsn _ h with z|z|z
    ·exact M a b n z
    ·cases z
    ·cases z
   ·rcases M5.rsn _ h with z|z|z
    ·exact absurd z (L a b)
    ·cases z;rfl
    ·cases z
  |none=>refine Zp ?_;have aO:=Qn8 R r ad ap;obtain⟨aI,aS⟩:=N6.at_.ob;refine⟨_,Xb,_,Xb,n,aI,_,Xb,aS,Qm0 _,n,A,_,_,Z,Xb,N6.at_,N6.fok,N6.inv,by have:=N6.len;lia,λv2 aF H7 g7 ax W2=>?_⟩;refine⟨by show 3<=Gj;decide,λc8 af=>?_⟩;have s8:=Qg af (.tup [.str "open",v1,v2]);have ae:=g7.trans s8;refine q _ _ (O.trans ae) (.inr (.inr ⟨hC,aO,c8,v1,v2,aE,aF,x.S.map (tg ts),Xb,Qb,ai.kp (λe=>ae _ _ e) (λe _=>ae _ _ e),(ax.ex (by rintro c ys _ J ⟨o,ho⟩;exact J ⟨o,O _ _ ho⟩)).kp (λe=>s8 _ _ e) (λe _=>s8 _ _ e),Qrb G k N.fok W1 ac,by rw[<-eS];exact Qrb G k N5.fok W2 ad,List.mem_map.mpr ⟨p1,W,Xb⟩,List.mem_map.mpr ⟨p2,X,Xb⟩,λb a c hm=>?_⟩));obtain⟨j,hj⟩:=List.mem_iff_getElem?.mp hm;obtain⟨p',q',h1,h2,h3⟩:=Og R hj;obtain⟨aj,ak⟩:=aa _ (List.mem_of_getElem? h1);exact⟨List.mem_map.mpr ⟨p',aj,Ui h2⟩,List.mem_map.mpr ⟨q',ak,Ui h3⟩⟩
end
theorem Qr3(xs:List V){i:Int}(a:0<=i)(h1:i<=(xs.length:Int)):U9 xs Gh (Ga i)=xs.take i.toNat:=by
 unfold U9;rw[HT.Oi];have:HT.Wn xs.length xs.length (Ga i)=i.toNat:=by show(if i<0 then(i+(xs.length:Int)).toNat else min i.toNat xs.length)=_;rw[Gi (by lia)];lia
 rw[this];simp
theorem Qy6(a f d p t e:Gc){c dx b:Gc}:HO.ins C dx (Ib a f d)=HO.ins c b (Wp p t e)->False:=λz=>by injection z with _ _ z;unfold Ib Wp at z;injection z with z _;injection z with z _;exact absurd z (by decide+kernel)
theorem Qs1(R:Qer ts ens tl)(k:Nat):Qer ts (ens.take k) (tl.take k):=by
 induction R generalizing k with
 |nil=>simp;exact .nil
 |cons h t a=>
  cases k with
  |zero=>exact .nil
  |succ k=>exact .cons h (a k)
theorem Qbg{β:Type}{F:α->β->Prop}{xs:List α}{ys:List β}(R:Paired F xs ys)(k:Nat):Paired F (xs.take k) (ys.take k):=by
 induction R generalizing k with
 |nil=>simp;exact .nil
 |cons h t a=>
  cases k with
  |zero=>exact .nil
  |succ k=>exact .cons h (a k)
structure FrK(bk t:Gc)(H H':Hp):Prop where
 keep:∀b o,H b=Ga o->b≠bk->b≠t->H' b=Ga o
 there:∀b,H' b=Gh->H b=Gh
variable{p:Gc}
inductive Qnq(P:Gg)(w:Gs)(CP:Gc)(CB:Gc)(vs:List V)(H:Hp)(Q:VK):Prop
 |mk (bk:Gc) (p:Gc) (a:Gc) (f:Gc) (d:Gc) (t:Gc) (e:Gc) (ts:List Th) (tl:Tl) (U:List Th) (dv:V) (ev:V) (b:Bool) (p1:Nat) (p2:Nat) (h0:vs=[.ref bk,dv,ev]) (h1:Vp P w CP CB H bk p a f d t e ts tl) (h2:Few U ts tl) (h3:Qb0 H dv (.tell b (tg ts p1) (tg ts p2))) (h4:Qb1 H ev (tw b,p1,p2)) (h5:p1<ts.length) (h6:p2<ts.length) (h7:∀(v:V)(e':Gc)(H':Hp),Vp P w CP CB H' bk p a f d t e' ts (Vo tl (.tell b (tg ts p1) (tg ts p2))).1->Jq H' (λb=>∃o,H b=Ga o) tl (.tell b (tg ts p1) (tg ts p2)) v->FrK bk t H H'->(e'=e\/H e'=Gh)->Q v H'):Qnq P w CP CB vs H Q
def Qt9(P:Gg)(w:Gs)(CP a:Gc):Sp:=λvs H Q _=>Qnq P w CP a vs H Q
inductive Qgi(P:Gg)(w:Gs)(CP:Gc)(CB:Gc)(vs:List V)(H:Hp)(Q:VK):Prop
 |mk (bk:Gc) (p:Gc) (a:Gc) (f:Gc) (d:Gc) (t:Gc) (e:Gc) (ts:List Th) (tl:Tl) (i:Int) (h0:vs=[.ref bk,.int i]) (h1:Vp P w CP CB H bk p a f d t e ts tl) (h2:∀(v:V)(t' e':Gc)(H':Hp),Vp P w CP CB H' bk p a f d t' e' ts (Vo tl (.back i)).1->v=(Vo tl (.back i)).2->FrK bk bk H H'->(t'=t\/H t'=Gh)->(e'=e\/H e'=Gh)->Q v H'):Qgi P w CP CB vs H Q
def Qjl(P:Gg)(w:Gs)(CP a:Gc):Sp:=λvs H Q _=>Qgi P w CP a vs H Q
section
variable{P:Gg}{w:Gs}{K:Gd}{mg:Ta->Option Value}{base:Heap}
theorem Qkj:Qx ["self","moment","forgotten"] ["self","moment"] (Ql Jl):=by eq_refl
theorem Qo7(F:Wd K "go_back" "Book.go_back" Jl f0 fd)(T:Qew K mg CB)(X:Jr mg):Qs P w K mg base Z4 1 f0 fd ["self","moment"] (Qjl P w CP CB):=by
 refine F.ok Qkj (λvs H Q E h=>?_) (λcdv A outer s H vs Q E hr h=>?_)
 ·obtain⟨bk,p,a,f,d,t,e,ts,tl,i,rfl,_⟩:=h;rfl
 obtain⟨bk,p,a,f,d,t,e,ts,tl,i,rfl,B,q⟩:=h;obtain⟨nu,n1,n2⟩:=T.no;have nd:=Qkj.nd;show∃t,Z7 ?mysGoBack _ t/\_;let w5:Subtype (Z7 ?mysGoBack ((Qj Jl).drop 4)):=⟨_,Qh (Qv (pv 2))⟩
 let w4:Subtype (Z7 ?mysGoBack ((Qj Jl).drop 3)):=⟨_,Qd (Yw (pv 0) (Yu Vw (Qn (pv 0) rfl) Xx (Yy (pv 1))) rfl) w5.2⟩
 let w3:Subtype (Z7 ?mysGoBack ((Qj Jl).drop 2)):=⟨_,Qd (Yw (pv 0) (Yu Vw (Qn (pv 0) rfl) Xx (Yy (pv 1))) rfl) w4.2⟩
 let w2:Subtype (Z7 ?mysGoBack ((Qj Jl).drop 1)):=⟨_,Qd (Zn (PW.pt (Ov (Qr R9 (pv 1) Qk (Q3 _)) (R1 (Qr R9 (pv 2) Qk (Q3 _))))) (Qh (Qv (Oq rfl n1 n2))) Q7) w3.2⟩
 refine⟨_,Qd (Qt 2 nd (Zo Qc0 (Qp Zc rfl X.len GO (Qa (Qn (pv 0) rfl) Qe)) (pv 1))) w2.2,?_⟩;subst_vars;obtain⟨dx,g⟩:=B.ob;obtain⟨dp,op⟩:=B.pl.ob;obtain⟨vs,V,W⟩:=B.to;obtain⟨es,aa,O,S,R⟩:=B.en;and_intros;have lv:=Gr W;have le:=(Gr S).trans (Gr R);refine⟨_,Xb,bk,CB,dx,_,_,Xb,g,T.cl,T.told,Qb9 _ _ _,t,vs,Xb,.inl (Zd.of V),_,Xb,_,_,Xb,Xb,?_⟩;refine⟨_,Xb,_,_,Xb,Xb,_,Xb,?_⟩;have no:¬(0<=i/\i<=(tl.length:Int))->Q (.str "no moment") H:=λh=>q _ t e H (by simp only[Vo];rw[Gi h];exact B) (by simp only[Vo];rw[Gi h]) ⟨λ_ _ e _ _=>e,λ_ h=>h⟩ (.inl Xb) (.inl Xb);by_cases hi:i<0
 ·rw[GX hi];refine Yv (Yv ?_);exact no (λz=>by omega)
 rw[Gz hi];refine Zp ⟨_,Xb,_,_,Xb,Xb,_,Xb,?_⟩;by_cases U:(vs.length:Int) - i<0
 ·rw[GX U];refine Yv ?_;exact no (λz=>by omega)
 rw[Gz U];refine Zp ?_;have C:0<=i:=by omega
 have h1:i<=(tl.length:Int):=by omega
 refine⟨_,Xb,bk,CB,dx,_,_,Xb,g,T.cl,T.told,Qb9 _ _ _,_,Xb,_,Xb,t,vs,Xb,Zd.of V,λt' k=>?_⟩;rw[Qr3 vs C (by omega)];have s1:=Qg k (.lst (vs.take i.toNat));refine⟨_,Xb,bk,CB,dx,_,Xb,s1 _ _ g,T.cl,T.told,by show 3<1000;decide,?_⟩;rw[Qox];have u:bk≠t':=Qc g k;have Z:e≠bk:=Yd O g nofun;generalize l:zj (zj H t' (.lst (vs.take i.toNat))) bk (.ins CB dx (Wp p t' e))=H2;have D:∀{b o},H b=Ga o->b≠bk->H2 b=Ga o:=λe h=>by rw[<-l];exact Qi (s1 _ _ e) h
 have M:H2 bk=Ga (.ins CB dx (Wp p t' e)):=by rw[<-l];exact Qb
 have x:H2 t'=Ga (.lst (vs.take i.toNat)):=by rw[<-l];exact Qi Qb (Gp u)
 have v:∀{b},H2 b=Gh->H b=Gh:=λ{b}h=>by rw[<-l]at h;exact s1.free (Zy h)
 refine⟨_,Xb,bk,CB,dx,_,_,Xb,M,T.cl,T.entries,V6 _ _ _,_,Xb,_,Xb,e,es,Xb,Zd.of (D O Z),λn c=>?_⟩;rw[Qr3 es C (by omega)];have G:=Qg c (.lst (es.take i.toNat));refine⟨_,Xb,bk,CB,dx,_,Xb,G _ _ M,T.cl,T.entries,by show 3<1000;decide,?_⟩;rw[Oo];have L:bk≠n:=Qc M c;have N:t'≠n:=Qc x c;generalize j:zj (zj H2 n (.lst (es.take i.toNat))) bk (.ins CB dx (Wp p t' n))=y;have r:∀{b o},H b=Ga o->b≠bk->y b=Ga o:=λe h=>by rw[<-j];exact Qi (G _ _ (D e h)) h
 have m:Qu H y:=λb xs e=>r e (Yd e g nofun);subst_vars;obtain⟨us,I,_⟩:=B.pl.th;obtain⟨ws,J,_⟩:=B.pl.fo;obtain⟨zw,d1,_⟩:=B.pl.kn;and_intros;have Y:Vp P w CP CB y bk p a f d t' n ts (tl.take i.toNat):=by
  refine⟨⟨dx,by rw[<-j];exact Qb⟩,B.pl.keep (λo e=>r e (Yd op g (Qy6 _ _ _ _ _ _))) (λo e=>r e (Yd I g nofun)) (λo e=>r e (Yd J g nofun)) (λo e=>r e (Yd d1.at_ g nofun)) m,⟨_,by rw[<-j];exact Qi (G _ _ x) (Gp u),Uv.Qm m (Qbg W _)⟩,⟨_,_,by rw[<-j];exact Qi Qb (Gp L),L2.Paired.Ya (Qbg S _) λ_ _ h=>h.Qm m,Qs1 R _⟩,Gp (Qc I k),Gp (Qc J k),N,?_,?_⟩
  ·exact Gp (Qc (D I (Yd I g nofun)) c)
  ·exact Gp (Qc (D J (Yd J g nofun)) c)
 refine⟨_,Xb,q _ t' n y (by simp only[Vo];rw[Gn ⟨C,h1⟩];exact Y) (by simp only[Vo];rw[Gn ⟨C,h1⟩,lv]) ⟨λb o e h _=>r e h,λb h=>v (by rw[<-j]at h;exact G.free (Zy h))⟩ (.inr k) (.inr (v c))⟩
theorem Qtk:Qx ["self","deed","entry","entries","net","number"] ["self","deed","entry"] (Ql Oj):=by eq_refl
theorem Qw6{ac:Ts}(F:Wd K "tell" "Book.tell" Oj f0 fd)(T:Qew K mg CB)(TP:Qev K mg CP)(B0:Jr mg)
  (GN:Qs P w K mg base Z4 61 fN fdN ["forms","told"] (Qgl P w C))(kN:KI K fN)(bN:Binds K fdN ["forms","told"] [])(mN:MG mg "net_of" fN)
  (GC:Qs P w K mg base Z4 2 fC ac ["net","entries"] (Qhf P w C))(kC:KI K fC)(bC:Binds K ac ["net","entries"] [])(mC:MG mg "least_clash" fC)
  (mL:Z9 K CB "lines_for" fL)(GL:Qs P w K mg base Z4 7 fL fdL ["self","net","entry"] (Ro P w C CP CB))(bL:Binds K fdL ["self","net","entry"] []):
  Qs P w K mg base Z4 62 f0 fd ["self","deed","entry"] (Qt9 P w CP CB):=by
 refine F.ok Qtk (λvs H Q E h=>?_) (λcdv A outer s H vs Q E hr h=>?_)
 ·obtain⟨bk,p,a,f,d,t,e,ts,tl,U,dv,ev,b,p1,p2,rfl,_⟩:=h;rfl
 obtain⟨bk,p,a,f,d,t,e,ts,tl,U,dv,ev,b,p1,p2,rfl,B,FW,av,⟨k,rfl,au⟩,az,aA,q⟩:=h;have aC:Yb 2 _:=hr.mono (by lia);have aD:Yb 7 _:=hr.mono (by lia);have nd:=Qtk.nd;show∃t,Z7 ?mysTell _ t/\_;let w7:Subtype (Z7 ?mysTell ((Qj Oj).drop 6)):=⟨_,Qh (Qv (Qp Zc rfl B0.len GO (Qa (pv 3) Qe)))⟩
 let w6:Subtype (Z7 ?mysTell ((Qj Oj).drop 5)):=⟨_,Qd (Yw (pv 0) (pv 3) rfl) w7.2⟩
 let w5:Subtype (Z7 ?mysTell ((Qj Oj).drop 4)):=⟨_,Qd (Ze (Xw Gu GF GV Z0 (Qn (pv 0) rfl) (Qa (pv 1) Qe))) w6.2⟩
 let w4:Subtype (Z7 ?mysTell ((Qj Oj).drop 3)):=⟨_,Qd (Zn (Qr O3 (pv 5) Ur (Q3 _))
   (Qh (Qv (Zb (Qa Zf (Qa (pv 5) (Qa (Q9 (pv 0) T.cl mL GL aD bL .nil Q6 (Qa (pv 4) (Qa (Qo Zh (pv 3) (pv 5)) Qe))) Qe)))))) Q7) w5.2⟩
 let w3:Subtype (Z7 ?mysTell ((Qj Oj).drop 2)):=⟨_,Qd (Qt 5 nd (Z1 GC aC rfl mC kC bC .nil Q6 (Qa (pv 4) (Qa (pv 3) Qe)))) w4.2⟩
 let w2:Subtype (Z7 ?mysTell ((Qj Oj).drop 1)):=⟨_,Qd (Qt 4 nd (Z1 GN hr rfl mN kN bN .nil Q6 (Qa (Qn (Qn (pv 0) rfl) rfl) (Qa (pv 3) Qe)))) w3.2⟩
 refine⟨_,Qd (Qt 3 nd (Zo Ul (Qn (pv 0) rfl) (Zt (Qa (pv 2) Qe)))) w2.2,?_⟩;subst_vars;obtain⟨dx,r⟩:=B.ob;obtain⟨dp,o2⟩:=B.pl.ob;obtain⟨ws,f1,f2⟩:=B.pl.fo;obtain⟨us,u1,_⟩:=B.pl.th;obtain⟨zw,d1,_⟩:=B.pl.kn;obtain⟨vs,t1,t2⟩:=B.to;obtain⟨es,ab,e1,e2,R⟩:=B.en;have W:=B.pl.nd;have L:=B.pl.cl;have J:=FW.le W;obtain⟨TK,aj⟩:=Qyb W L (λt ht=>FW.good t (FW.sub t ht)) J;and_intros;have aw:es.length=tl.length:=(Gr e2).trans (Gr R);have aL:vs.length=tl.length:=Gr t2;have aK:=FW.tl;refine⟨_,Xb,bk,CB,dx,_,_,Xb,r,T.cl,T.entries,V6 _ _ _,_,Xb,by show 1<=Gj;decide,λr0 aB=>?_⟩;have s0:=Qg aB (.lst [.ref k]);refine⟨e,r0,es,[.ref k],Xb,Xb,s0 _ _ e1,Qb,by rw[GQ];simp only[List.length_singleton];lia,λi I=>?_⟩;have v:H i=Gh:=s0.free I;have s1:=s0.trans (Qg I (.lst (es++[.ref k])));have g1:(zj (zj H r0 (.lst [.ref k])) i (.lst (es++[.ref k]))) i=Ga (.lst (es++[.ref k])):=Qb;generalize zj (zj H r0 (.lst [.ref k])) i (.lst (es++[.ref k]))=H1 at s1 g1;have Z:=Qu.of s1;have u:Paired (Qb1 H1) (es++[.ref k]) (ab++[(tw b,p1,p2)]):=DI (L2.Paired.Ya e2 λ_ _ h=>h.Qm Z) ⟨k,Xb,Z _ _ au⟩;have R':Qer ts (ab++[(tw b,p1,p2)]) (tl++[(b,tg ts p1,tg ts p2)]):=DI R ⟨Xb,Wi az,Wi aA⟩;refine⟨_,Xb,bk,CB,dx,_,_,Xb,s1 _ _ r,T.cl,T.places,Uu _ _ _,p,CP,dp,_,_,Xb,s1 _ _ o2,TP.cl,TP.nF,Qi5 _ _ _,_,Xb,f,i,ws,_,tfs ts,_,_,Xb,s1 _ _ f1,L2.Paired.Ya f2 λ_ _ h=>h.Qm Z,g1,u,TK,by rw[Vf];exact J,aj,λen ax=>by rw[Vf];exact Qry R' en ax,by rw[<-Gr u,List.length_append,List.length_singleton];lia,λn A tb x H2 N _ U=>?_⟩;have S2:Q4 H H2:=s1.trans N.O7;obtain⟨aH,aI⟩:=Qjx R' (λp q=>Iff.rfl);have EQ:=Qnp U;have aa:∀p∈x.S,∀q∈x.S,x.lead p=x.lead q↔Cg (tl++[(b,tg ts p1,tg ts p2)]) (tg ts p) (tg ts q):=λp hp q hq=>EQ.cg W L N.inv N.fok aH aI hp hq;have Y:∀a b' n,(a,b',Ga (.told n))∈x.links->(tl++[(b,tg ts p1,tg ts p2)])[n]?=Ga (Gf,tg ts a,tg ts b'):=λa b' n h=>by
  rcases U.rsn _ h with z|⟨j,p',q',h1,h2⟩
  ·cases z
  ·cases h1;obtain⟨aJ,h3,h4⟩:=Qca R' h2;rw[Qcf h3]at h4;exact h4
 have X:∀a b,¬(a,b,Ga Jb.asked)∈x.links:=λa b h=>by
  rcases U.rsn _ h with z|⟨j,p',q',h1,h2⟩
  ·cases z
  ·cases h1
 refine⟨_,Xb,_,Xb,n,i,A,_,tb,x,_,_,Xb,N.at_,N.O7 _ _ g1,L2.Paired.Ya u λ_ _ h=>h.Qm (Qu.of N.O7),U.ins,λo H3 g3 ad=>?_⟩;have G:=S2.trans g3;have N3:=N.same g3;have ag:=N3.O7 _ _ g1;refine⟨_,Xb,Xb,_,Xb,?_⟩;rw[Qg5];cases o with
 |some m=>
  refine Yv ?_;obtain⟨p',q',h1,h2,aE,aF,O⟩:=Qos R' U.ins aa ad;have hm:m<(es++[V.ref k]).length:=by rw[Gr u];exact(List.getElem?_eq_some_iff.mp h1).1
  obtain⟨y,hy,af⟩:=Qy u (List.getElem?_eq_getElem hm);rw[h1]at hy;cases hy;obtain⟨cm,ap,ar⟩:=af;refine⟨_,Xb,_,Xb,bk,dx,_,Xb,G _ _ r,Il _ _ _,_,Xb,_,Xb,_,Xb,i,_,_,_,Xb,Xb,Zd.of ag,Qz (List.getElem?_eq_getElem hm),bk,p,a,f,d,t,e,ts,tl,n,A,_,x,_,_,p',q',Xb,B.same G,⟨cm,ap,N3.O7 _ _ ar⟩,N3.at_,N3.lng TK.few,aE,aF,h2,λlv ls H7 g7 hl hb hg M=>?_⟩;refine⟨by show 3<=Gj;decide,λc8 aq=>?_⟩;have s8:=Qg aq (.tup [.str "clash",jv m,lv]);have S8:=(G.trans g7).trans s8;have g:Ik (tl++[(b,tg ts p1,tg ts p2)]):=⟨_,_,List.mem_of_getElem? O.1,O.2.1⟩;refine q _ e _ (by simp only[Vo];rw[Gn g];exact B.same S8) (.inr ⟨c8,m,_,_,lv,ls.map (lth ts),Xb,Qb,O,(hl.ex (by rintro c ys _ hx ⟨o,ho⟩;exact hx ⟨o,G _ _ ho⟩)).kp (Qu.of s8) (λe _=>s8 _ _ e),Qml L hg hb Y (λa b h=>absurd h (X a b)),Qd6 M⟩) ⟨λb o e _ _=>S8 _ _ e,λb h=>S8.free h⟩ (.inl Xb)
 |none=>
  refine Zp ?_;have ay:=Qn8 R' U.ins aa ad;have g:¬Ik (tl++[(b,tg ts p1,tg ts p2)]):=(by rintro⟨a,c,h1,h2⟩;exact ay a c h1 h2);have t3:=G _ _ t1;refine⟨_,Xb,bk,CB,dx,_,_,Xb,G _ _ r,T.cl,T.told,Qb9 _ _ _,.inl ⟨Xb,_,Zd.of t3⟩,_,Xb,t,vs,_,Xb,Xb,t3,by rw[GQ];lia,?_⟩;have tb:t≠bk:=Yd t1 r nofun;refine⟨_,Xb,_,Xb,bk,CB,dx,_,Xb,Qi (G _ _ r) (Gp tb),T.cl,T.entries,by show 3<1000;decide,?_⟩;rw[Oo];have ai:t≠i:=Qc t1 v;have aG:bk≠i:=Qc r v;generalize l:zj (zj H3 t (.lst (vs++[dv]))) bk (.ins CB dx (Wp p t i))=H4;have k4:∀{b o},H b=Ga o->b≠bk->b≠t->H4 b=Ga o:=λe h1 h2=>by rw[<-l];exact Qi (Qi (G _ _ e) h2) h1
  have D:Qu H H4:=λb xs e=>k4 e (Yd e r nofun) (Yd e t1 nofun);have ah:H4 i=Ga (.lst (es++[.ref k])):=by rw[<-l];exact Qi (Qi ag (Gp ai)) (Gp aG)
  have ak:Qu H1 H4:=λc xs ec=>by have:H3 c=Ga (.tup xs):=N3.O7 _ _ ec;rw[<-l];exact Qi (Qi this (Yd this t3 nofun)) (Yd this (G _ _ r) nofun)
  obtain⟨ca,v1,v2,al,am,an,ao⟩:=av;have BK:Vp P w CP CB H4 bk p a f d t i ts (tl++[(b,tg ts p1,tg ts p2)]):=by refine⟨⟨dx,by rw[<-l];exact Qb⟩,B.pl.keep (λo e=>k4 e (Yd o2 r (Qy6 _ _ _ _ _ _)) (Yd o2 t1 nofun)) (λo e=>k4 e (Yd u1 r nofun) (Gp B.ta)) (λo e=>k4 e (Yd f1 r nofun) (Gp B.tf)) (λo e=>k4 e (Yd d1.at_ r nofun) (Yd d1.at_ t1 nofun)) D,⟨_,by rw[<-l];exact Qi Qb tb,DI (t2.Qm D) ⟨ca,v1,v2,al,D _ _ am,an.Qm D,ao.Qm D⟩⟩,⟨_,_,ah,L2.Paired.Ya u λ_ _ h=>h.Qm ak,R'⟩,B.ta,B.tf,ai,Gp (Qc u1 v),Gp (Qc f1 v)⟩
  refine⟨_,Xb,i,_,Xb,.inl (Zd.of ah),?_⟩;have ae:((es++[V.ref k]).length:Int)=(tl.length:Int)+1:=by rw[List.length_append,List.length_singleton,aw];lia
  rw[ae];exact q _ i H4 (by simp only[Vo];rw[Gi g];exact BK) (.inl ⟨g,Xb⟩) ⟨λb o e h1 h2=>k4 e h1 h2,λb h=>G.free (by rw[<-l]at h;exact Zy (Zy h))⟩ (.inr v)
end
structure FrA(bk a f d t:Gc)(H H':Hp):Prop where
 keep:∀b o,H b=Ga o->b≠bk->b≠a->b≠f->b≠d->b≠t->H' b=Ga o
 there:∀b,H' b=Gh->H b=Gh
inductive Qfh(P:Gg)(w:Gs)(CP:Gc)(CB:Gc)(vs:List V)(H:Hp)(Q:VK):Prop
 |mk (bk:Gc) (p:Gc) (a:Gc) (f:Gc) (d:Gc) (t:Gc) (e:Gc) (ts:List Th) (tl:Tl) (U:List Th) (dv:V) (dd:Dd) (h0:vs=[.ref bk,dv]) (h1:Vp P w CP CB H bk p a f d t e ts tl) (h2:Few U ts tl) (h3:Qb0 H dv dd) (h4:dd.fits U) (h5:∀(v:V)(t' e':Gc)(ts':List Th)(H':Hp),Vp P w CP CB H' bk p a f d t' e' ts' (Vo tl dd).1->Jq H' (λb=>(∃o,H b=Ga o)\/b=t') tl dd v->(∀x∈ts',x∈U)->FrA bk a f d t H H'->(t'=t\/H t'=Gh)->(e'=e\/H e'=Gh)->Q v H'):Qfh P w CP CB vs H Q
def R7(P:Gg)(w:Gs)(CP a:Gc):Sp:=λvs H Q _=>Qfh P w CP a vs H Q
inductive Qe0(P:Gg)(w:Gs)(CP:Gc)(CB:Gc)(vs:List V)(H:Hp)(Q:VK):Prop
 |mk (bk:Gc) (dx:Gc) (h0:vs=[.ref bk]) (h1:H bk=Ga (.ins CB dx [])) (h2:∀(p a f d t e:Gc)(H':Hp),Vp P w CP CB H' bk p a f d t e [] []->(∀b o,H b=Ga o->b≠bk->H' b=Ga o)->H a=Gh->H f=Gh->H d=Gh->H t=Gh->H e=Gh->Q .non H'):Qe0 P w CP CB vs H Q
def Qdw(P:Gg)(w:Gs)(CP a:Gc):Sp:=λvs H Q _=>Qe0 P w CP a vs H Q
theorem Qg6{m:List Th}(h:ts[j]?=Ga t):(ts++m)[j]?=Ga t:=by rw[List.getElem?_append_left (List.getElem?_eq_some_iff.mp h).1];exact h
section
variable{P:Gg}{w:Gs}{K:Gd}{mg:Ta->Option Value}{base:Heap}
theorem Vp.place{bk a t e:Gc}{m:List Th}(B:Vp P w CP CB H bk p a f d t e ts tl)(x:Pl P w CP H' p a f d (ts++m))(F:Fr3 a f d H H'):Vp P w CP CB H' bk p a f d t e (ts++m) tl:=by obtain⟨dx,b⟩:=B.ob;obtain⟨us,o,_⟩:=B.pl.th;obtain⟨r,q,_⟩:=B.pl.fo;obtain⟨zw,c,_⟩:=B.pl.kn;obtain⟨vs,j,n⟩:=B.to;obtain⟨es,g,i,l,R⟩:=B.en;have k:=F.Qm B.pl;refine⟨⟨dx,F.keep _ _ b (Yd b o nofun) (Yd b q nofun) (Yd b c.at_ nofun)⟩,x,⟨vs,F.keep _ _ j B.ta B.tf (Yd j c.at_ nofun),n.Qm k⟩,⟨es,g,F.keep _ _ i B.ea B.ef (Yd i c.at_ nofun),L2.Paired.Ya l λ_ _ h=>h.Qm k,L2.Paired.Ya R λ_ _ h=>⟨h.1,Qg6 h.2.1,Qg6 h.2.2⟩⟩,B.ta,B.tf,B.te,B.ea,B.ef⟩
theorem Few.grow(F:Few U ts tl)(b:t∈U):Few U (Yr ts t.inside) tl:=⟨λs a=>by
 rw[Qc6]at a;rcases a with h|h
 ·exact F.sub s h
 ·exact F.cl t b s h,F.cl,F.good,F.len,F.tl⟩
theorem Quc:Qx ["self"] ["self"] (Ql Oz):=by eq_refl
theorem Qqo(F:Wd K "__init__" "Book.__init__" Oz f0 fd)(T:Qew K mg CB)(TP:Qev K mg CP)(u:Mk K CP fI)(I:Qs P w K mg base Z4 1 fI fdI ["self"] (Qjw P w CP))(J:Binds K fdI ["self"] []):Qs P w K mg base Z4 3 f0 fd ["self"] (Qdw P w CP CB):=by
 refine F.ok Quc (λvs H Q E h=>?_) (λcdv A outer s H vs Q E S h=>?_)
 ·obtain⟨bk,dx,rfl,_⟩:=h;rfl
 obtain⟨bk,dx,rfl,l,q⟩:=h;show∃t,Z7 ?mysBkInit _ t/\_;let Z:Subtype (Z7 ?mysBkInit ((Qj Oz).drop 2)):=⟨_,Qh (Yw (pv 0) (Zt Qe) rfl)⟩
 let Y:Subtype (Z7 ?mysBkInit ((Qj Oz).drop 1)):=⟨_,Qd (Yw (pv 0) (Zt Qe) rfl) Z.2⟩
 refine⟨_,Qd (Yw (pv 0) (Qc9 u I S rfl TP.mgC J .nil Q6) rfl) Y.2,?_⟩;intro p dp x v R;have r:Q4 H (zj (zj H dp (.own p)) p (.ins CP dp [])):=λc o e=>Qi (Qi e (Qc e v)) (Qc e x);refine⟨p,dp,Xb,Qb,λa f d H1 n V N O hd=>⟨Xb,?_⟩⟩;have m:Q4 H H1:=λb o e=>V b o (r _ _ e) (Qc e x);have X:p≠bk:=Gp (Qc l x);subst_vars;obtain⟨M,W⟩:=n.ob;obtain⟨us,y,_⟩:=n.th;obtain⟨ws,B,_⟩:=n.fo;obtain⟨zw,L,_⟩:=n.kn;and_intros;refine⟨_,Xb,bk,CB,dx,[],Xb,m _ _ l,T.cl,T.places,by show 0<1000;decide,Gw _,λt U=>?_⟩;have b1:=m _ _ l;have j:=Zy U;have tb:t≠bk:=Gp (Qc b1 j);refine⟨_,Xb,bk,CB,dx,_,Xb,Qi Qb (Gp tb),T.cl,T.told,by show 1<1000;decide,Gw _,λe G=>?_⟩;have i:=Zy (Zy (Zy G));have C:e≠bk:=Gp (Qc b1 i);have D:t≠e:=λz=>by have:=Zy G;rw[<-z,Qb]at this;cases this
 refine⟨_,Xb,bk,CB,dx,_,Xb,Qi Qb (Gp C),T.cl,T.entries,by show 2<1000;decide,?_⟩;have kp:∀{b o},H1 b=Ga o->b≠bk->(zj (zj (zj (zj (zj H1 bk (.ins CB dx (Yi "places" (.ref p) []))) t (.lst [])) bk (.ins CB dx (Yi "told" (.ref t) (Yi "places" (.ref p) [])))) e (.lst [])) bk (.ins CB dx (Yi "entries" (.ref e) (Yi "told" (.ref t) (Yi "places" (.ref p) []))))) b=Ga o:=λk hb=>Qi (Qi (Qi (Qi (Qi k hb) (Qc k j)) hb) (Qc k i)) hb;refine q p a f d t e _ ⟨⟨dx,Qb⟩,n.keep (λo g=>kp g X) (λo g=>kp g (Yd y b1 nofun)) (λo g=>kp g (Yd B b1 nofun)) (λo g=>kp g (Yd L.at_ b1 nofun)) (λb xs g=>kp g (Yd g b1 nofun)),⟨[],Qi (Qi (Qi Qb tb) D) tb,.nil⟩,⟨[],[],Qi Qb C,.nil,.nil⟩,Gp (Qc y j),Gp (Qc B j),D,Gp (Qc y i),Gp (Qc B i)⟩ (λb o g hb=>kp (m _ _ g) hb) (r.free N) (r.free O) (r.free hd) (m.free j) (m.free i)
theorem Qjm:Qx ["self","deed","entry"] ["self","deed"] (Ql Iy):=by eq_refl
theorem Qx5{d:V}{a:Dd}(h:Qb0 H d a):∃c k xs,d=.ref c/\H c=Ga (.tup (.str k::xs))/\(k="back"↔∃i,a=.back i)/\(k="ask"↔∃s t,a=.ask s t):=by
 cases a with
 |tell b s t=>
  obtain⟨c,e,f,h1,h2,_⟩:=h;refine⟨c,_,_,h1,h2,⟨λz=>?_,λ⟨i,z⟩=>by cases z⟩,⟨λz=>?_,λ⟨i,j,z⟩=>by cases z⟩⟩
  ·cases b<;>exact absurd z (by decide+kernel)
  ·cases b<;>exact absurd z (by decide+kernel)
 |ask s t=>obtain⟨c,e,f,h1,h2,_⟩:=h;exact⟨c,_,_,h1,h2,⟨λz=>absurd z (by decide+kernel),λ⟨i,z⟩=>by cases z⟩,⟨λz=>⟨s,t,rfl⟩,λ_=>rfl⟩⟩
 |back i=>obtain⟨c,h1,h2⟩:=h;exact⟨c,_,_,h1,h2,⟨λz=>⟨i,Xb⟩,λ_=>rfl⟩,⟨λz=>absurd z (by decide+kernel),λ⟨i,j,z⟩=>by cases z⟩⟩
theorem Qqq{fG fP fT:Gc}{ab ac ad:Ts}(F:Wd K "answer" "Book.answer" Iy f0 fd)(T:Qew K mg CB)(TP:Qev K mg CP)
  (mG:Z9 K CB "go_back" fG)(GG:Qs P w K mg base Z4 1 fG ab ["self","moment"] (Qjl P w CP CB))(bG:Binds K ab ["self","moment"] [])(mP:Z9 K CP "place_of" fP)(GP:Qs P w K mg base Z4 52 fP ac ["self","thing"] (Qf4 P w CP))(bP:Binds K ac ["self","thing"] [])
  (mA:Z9 K CB "ask" fA)(GA:Qs P w K mg base Z4 62 fA fdA ["self","entry"] (Qye P w CP CB))(bA:Binds K fdA ["self","entry"] [])(mT:Z9 K CB "tell" fT)(GT:Qs P w K mg base Z4 62 fT ad ["self","deed","entry"] (Qt9 P w CP CB))(bT:Binds K ad ["self","deed","entry"] []):
  Qs P w K mg base Z4 63 f0 fd ["self","deed"] (R7 P w CP CB):=by
 refine F.ok Qjm (λvs H Q E h=>?_) (λcdv A outer s H vs Q E hr h=>?_)
 ·obtain⟨bk,p,a,f,d,t,e,ts,tl,U,dv,dd,rfl,_⟩:=h;rfl
 obtain⟨bk,p,a,f,d,t,e,ts,tl,U,dv,dd,rfl,B,Y,x,g,q⟩:=h;have ap:Yb 1 _:=hr.mono (by lia);have D:Yb 52 _:=hr.mono (by lia);have nd:=Qjm.nd;show∃t,Z7 ?mysAnswer _ t/\_;let w4:Subtype (Z7 ?mysAnswer ((Qj Iy).drop 3)):=⟨_,Qh (Qv (Q9 (pv 0) T.cl mT GT hr bT .nil Q6 (Qa (pv 1) (Qa (pv 2) Qe))))⟩
 let w3:Subtype (Z7 ?mysAnswer ((Qj Iy).drop 2)):=⟨_,Qd (Zn (Qr Wu (Qo Q5 (pv 1) Qk) Zf (Q3 _)) (Qh (Qv (Q9 (pv 0) T.cl mA GA hr bA .nil Q6 (Qa (pv 2) Qe)))) Q7) w4.2⟩
 let w2:Subtype (Z7 ?mysAnswer ((Qj Iy).drop 1)):=⟨_,Qd (Qt 2 nd (Zb (Qa (Qo Q5 (pv 1) Qk) (Qa (Q9 (Qn (pv 0) rfl) TP.cl mP GP D bP .nil Q6 (Qa (Qo Q5 (pv 1) Qk) Qe)) (Qa (Q9 (Qn (pv 0) rfl) TP.cl mP GP D bP .nil Q6 (Qa (Qo Q5 (pv 1) Qk) Qe)) Qe))))) w3.2⟩
 refine⟨_,Qd (Zn (Qr Wu (Qo Q5 (pv 1) Qk) Zf (Q3 _)) (Qh (Qv (Q9 (pv 0) T.cl mG GG ap bG .nil Q6 (Qa (Qo Q5 (pv 1) Qk) Qe)))) Q7) w2.2,?_⟩;subst_vars;obtain⟨dx,o1⟩:=B.ob;obtain⟨c,k,xs,rfl,hc,kb,ka⟩:=Qx5 x;and_intros;refine⟨_,Xb,c,_,_,_,Xb,Xb,Z2.of hc,Rk _ _,Xb,_,Xb,?_⟩;rw[Yh];subst_vars;obtain⟨us,u1,_⟩:=B.pl.th;obtain⟨ws,w1,_⟩:=B.pl.fo;obtain⟨zw,d1,_⟩:=B.pl.kn;obtain⟨aC,t1,_⟩:=B.to;and_intros;by_cases hb:k="back"
 ·subst hb;rw[Ey];refine Yv ?_;obtain⟨i,rfl⟩:=kb.mp rfl;obtain⟨c',h1,h2⟩:=x;cases h1;refine⟨_,Xb,bk,dx,_,Xb,o1,Qpv _ _ _,_,Xb,c,_,_,_,Xb,Xb,Z2.of h2,I0 _ _ _,bk,p,a,f,d,t,e,ts,tl,i,Xb,B,λv t' e' H' B' R F' aq am=>?_⟩;exact q v t' e' ts H' B' R Y.sub ⟨λb o m h1 _ _ _ _=>F'.keep b o m h1 h1,F'.there⟩ aq am
 have au:(k==("back":Ta))=Gq:=by simpa using hb
 rw[au];refine Zp ?_;subst_vars;obtain⟨s,j,n,r,ar,i1,i2,hs,ht,al⟩:∃s j n r,xs=[n,r]/\Yl H n s/\Yl H r j/\s∈U/\j∈U/\((k="ask"/\dd=.ask s j)\/(k≠"ask"/\∃b,k=tw b/\dd=.tell b s j)):=by
  cases dd with
  |tell b s j=>obtain⟨c',n,r,h1,h2,N,O⟩:=x;cases h1;rw[hc]at h2;cases h2;exact⟨s,j,n,r,Xb,N,O,g.1,g.2,.inr ⟨(λz=>by obtain⟨_,_,z⟩:=ka.mp z;cases z),b,rfl,rfl⟩⟩
  |ask s j=>obtain⟨c',n,r,h1,h2,N,O⟩:=x;cases h1;rw[hc]at h2;cases h2;exact⟨s,j,n,r,Xb,N,O,g.1,g.2,.inl ⟨Xb,Xb⟩⟩
  |back i=>exact absurd (kb.mpr ⟨i,Xb⟩) hb
 and_intros;subst ar;obtain⟨dp,op⟩:=B.pl.ob;have gs:=Y.good s hs;have gt:=Y.good j ht;have ay:=Y.le B.pl.nd;refine⟨_,Xb,c,_,_,_,Xb,Xb,Z2.of hc,Rk _ _,_,Xb,bk,CB,dx,_,_,Xb,o1,T.cl,T.places,Uu _ _ _,p,dp,_,Xb,op,Qc1 _ _ _,_,Xb,c,_,_,_,Xb,Xb,Z2.of hc,I0 _ _ _,p,n,s,a,f,d,ts,Xb,B.pl,i1,gs.1,by have:=gs.2.1;lia,by have:=gs.2.2;lia,λG H1 x1 ao F1=>?_⟩;obtain⟨m1,aa⟩:=Vj s.inside ts;have ag:=x1;rw[aa]at ag;have I:=B.place ag F1;rw[<-aa]at I;have FW1:=Y.grow hs;have az:=FW1.le I.pl.nd;have V:=F1.Qm B.pl;obtain⟨aj,av⟩:=I.ob;obtain⟨ai,aw⟩:=I.pl.ob;refine⟨_,Xb,bk,CB,aj,_,_,Xb,av,T.cl,T.places,Uu _ _ _,p,ai,_,Xb,aw,Qc1 _ _ _,_,Xb,c,_,_,_,Xb,Xb,Z2.of (V _ _ hc),Qjc _ _ _ _,p,r,j,a,f,d,_,Xb,I.pl,i2.Qm V,gt.1,by have:=gt.2.1;lia,by have:=gt.2.2;lia,λS H2 x2 ae F2=>?_⟩;obtain⟨m2,M⟩:=Vj j.inside (Yr ts s.inside);have ah:=x2;rw[M]at ah;have B2:=I.place ah F2;rw[<-M]at B2;have FW2:=FW1.grow ht;have W:Qu H H2:=λb xs m=>(F2.Qm I.pl) _ _ (V _ _ m);have C:(Yr (Yr ts s.inside) j.inside)[G]?=Ga s:=by rw[M];exact Qg6 ao
 refine⟨by show 3<=Gj;decide,λL ak=>?_⟩;have s3:=Qg ak (.tup [.str k,jv G,jv S]);have J:=B2.same s3;generalize ax:Yr (Yr ts s.inside) j.inside=l at*;have e1:=Ui C;have e2:=Ui ae;have l1:G<l.length:=(List.getElem?_eq_some_iff.mp C).1;have l2:S<l.length:=(List.getElem?_eq_some_iff.mp ae).1;have X:Fr3 a f d H (zj H2 L (.tup [.str k,jv G,jv S])):=(F1.trans F2).trans (Fr3.of s3);subst_vars;obtain⟨Z,o3⟩:=J.ob;obtain⟨aA,u3,_⟩:=J.pl.th;obtain⟨aD,w3,_⟩:=J.pl.fo;obtain⟨aB,t3,_⟩:=J.to;and_intros;have y:(zj H2 L (.tup [.str k,jv G,jv S])) c=Ga (.tup (.str k::[n,r])):=s3 _ _ (W _ _ hc);have back:∀b o,H b=Ga o->∃u,(zj H2 L (.tup [.str k,jv G,jv S])) b=Ga u:=λb o m=>Sm.mp λz=>by rw[X.there b z]at m;cases m
 refine⟨_,Xb,c,_,_,_,Xb,Xb,Z2.of y,Rk _ _,Xb,_,Xb,?_⟩;rw[Yh];rcases al with⟨rfl,rfl⟩|⟨hk,b,rfl,rfl⟩
 ·rw[Ey];refine Yv ?_;refine⟨_,Xb,bk,Z,_,Xb,o3,Qzs _ _ _,_,Xb,bk,p,a,f,d,t,e,l,tl,U,.ref L,G,S,Xb,J,FW2,⟨L,Xb,Qb⟩,l1,l2,λv H4 g4 R=>?_⟩;rw[e1,e2]at R;refine q v t e l H4 (J.same g4) (R.ex λc' ys _ hx z=>hx ?_) FW2.sub ⟨λb o m h1 h2 N O h5=>g4 _ _ (X.keep b o m h2 N O),λb h=>X.there b (g4.free h)⟩ (.inl Xb) (.inl Xb);rcases z with⟨o,ho⟩|z
  ·exact back _ _ ho
  ·rw[z];exact⟨_,t3⟩
 ·have af:(tw b==("ask":Ta))=Gq:=by simpa using hk
  rw[af];refine Zp ?_;refine⟨_,Xb,bk,Z,_,Xb,o3,Qwt _ _ _,_,Xb,_,Xb,bk,p,a,f,d,t,e,l,tl,U,.ref c,.ref L,b,G,S,Xb,J,FW2,?_,⟨L,Xb,Qb⟩,l1,l2,λv e' H4 B4 R F4 an=>?_⟩
  ·rw[e1,e2];exact⟨c,n,r,Xb,y,(i1.Qm W).same s3,(i2.Qm W).same s3⟩
  ·rw[e1,e2]at B4 R;refine q v t e' l H4 B4 (R.ex λc' ys _ hx z=>hx ?_) FW2.sub ⟨λb o m h1 h2 N O h5=>F4.keep _ _ (X.keep b o m h2 N O) h1 h5,λb h=>X.there b (F4.there b h)⟩ (.inl Xb) (an.elim .inl λz=>.inr (X.there _ z));rcases z with⟨o,ho⟩|z
   ·exact back _ _ ho
   ·rw[z];exact⟨_,t3⟩
end
def Qx9(H:Hp)(X:Gc->Prop)(dl:List Dd)(a:List V):Prop:=∀(k:Nat)(d:Dd)(v:V),dl[k]?=Ga d->a[k]?=Ga v->Jq H X (after [] (dl.take k)) d v
inductive Qny(vs:List V)(H:Hp)(Q:VK):Prop
 |mk (l:Gc) (es:List V) (dl:List Dd) (U:List Th) (h0:vs=[.ref l]) (h1:H l=Ga (.lst es)) (h2:X5 H es dl) (h3:Qgo U) (h4:(∀d∈dl,d.fits U)) (h5:dl.length<=800) (h6:∀(r:Gc)(rs:List V)(H':Hp),Q4 H H'->H r=Gh->H' r=Ga (.lst rs)->rs.length=dl.length->Qx9 H' (λb=>b=r) dl rs->Q (.ref r) H'):Qny vs H Q
def Qmf:Sp:=λvs H Q _=>Qny vs H Q
inductive O4(P:Gg)(w:Gs)(CP:Gc)(CB:Gc)(vs:List V)(H:Hp)(Q:VK):Prop
 |mk (l:Gc) (es:List V) (dl:List Dd) (U:List Th) (h0:vs=[.ref l]) (h1:H l=Ga (.lst es)) (h2:X5 H es dl) (h3:Qgo U) (h4:(∀d∈dl,d.fits U)) (h5:dl.length<=800) (h6:∀(bk p a f d t e:Gc)(ts:List Th)(H':Hp),Q4 H H'->Vp P w CP CB H' bk p a f d t e ts (after [] dl)->(∀x∈ts,x∈U)->Q (.ref bk) H'):O4 P w CP CB vs H Q
def Qbj(P:Gg)(w:Gs)(CP a:Gc):Sp:=λvs H Q _=>O4 P w CP a vs H Q
inductive Qig(vs:List V)(H:Hp)(Q:VK):Prop
 |mk (l:Gc) (es:List V) (dl:List Dd) (U:List Th) (h0:vs=[.ref l]) (h1:H l=Ga (.lst es)) (h2:X5 H es dl) (h3:Qgo U) (h4:(∀d∈dl,d.fits U)) (h5:dl.length<=800) (h6:∀(r:Gc)(rs:List V)(H':Hp),Q4 H H'->H' r=Ga (.lst rs)->Uv H' rs (after [] dl)->Q (.ref r) H'):Qig vs H Q
def Qgq:Sp:=λvs H Q _=>Qig vs H Q
theorem Qtw{dl:List Dd}(a:Qgo U)(h:∀x∈ts,x∈U)(hl:dl.length<=800)(i:Nat):Few U ts (after [] (dl.take i)):=⟨h,a.cl,a.good,a.len,by have:=Iv (ds:=dl.take i) (tl:=[]);rw[List.length_take]at this;simp only[List.length_nil]at this;lia⟩
section
variable{P:Gg}{w:Gs}{K:Gd}{mg:Ta->Option Value}{base:Heap}
theorem Vp.but{CP g:Gc}{H:Hp}{bk p a f d t e r:Gc}{ts:List Th}{tl:Tl}{ys zs:List V}(B:Vp P w CP g H bk p a f d t e ts tl)(c:H r=Ga (.lst ys))(m:r≠a)(o:r≠f)(rt:r≠t)(n:r≠e):Vp P w CP g (zj H r (.lst zs)) bk p a f d t e ts tl:=by
 obtain⟨dx,i⟩:=B.ob;obtain⟨vs,q,s⟩:=B.to;obtain⟨es,b,k,l,R⟩:=B.en;have j:Qu H (zj H r (.lst zs)):=Zs λxs e=>by rw[c]at e;cases e
 exact⟨⟨dx,Qi i (Yd i c nofun)⟩,B.pl.but c m o,⟨vs,Qi q (Gp rt),s.Qm j⟩,⟨es,b,Qi k (Gp n),L2.Paired.Ya l λ_ _ h=>h.Qm j,R⟩,B.ta,B.tf,B.te,B.ea,B.ef⟩
theorem FrA.Qm{bk a t e:Gc}(F:FrA bk a f d t H H')(B:Vp P w CP CB H bk p a f d t e ts tl):Qu H H':=λb xs c=>by obtain⟨dx,h⟩:=B.ob;obtain⟨us,j,_⟩:=B.pl.th;obtain⟨m,k,_⟩:=B.pl.fo;obtain⟨zw,g,_⟩:=B.pl.kn;obtain⟨vs,i,l⟩:=B.to;exact F.keep _ _ c (Yd c h nofun) (Yd c j nofun) (Yd c k nofun) (Yd c g.at_ nofun) (Yd c i nofun)
theorem FrA.lst{CP g:Gc}{H H':Hp}{bk p a f d t e:Gc}{ts:List Th}{tl:Tl}(F:FrA bk a f d t H H')(B:Vp P w CP g H bk p a f d t e ts tl){c:Gc}{xs:List V}(b:H c=Ga (.lst xs))(h1:c≠a)(h2:c≠f)(i:c≠t):H' c=Ga (.lst xs):=by obtain⟨dx,j⟩:=B.ob;obtain⟨zw,h,_⟩:=B.pl.kn;exact F.keep _ _ b (Yd b j nofun) h1 h2 (Yd b h.at_ nofun) i
theorem Qgg:Qx ["deeds","book"] ["deeds"] (Ql Od):=by eq_refl
theorem Q47:(["deed","book"]:List Ta).Nodup:=by decide+kernel
theorem Qku(F:Wd K "answers" "answers" Od f0 fd)(T:Qew K mg CB)(ah:Mk K CB fI)(GI:Qs P w K mg base Z4 3 fI fdI ["self"] (Qdw P w CP CB))(bI:Binds K fdI ["self"] [])
  (mA:Z9 K CB "answer" fA)(GA:Qs P w K mg base Z4 63 fA fdA ["self","deed"] (R7 P w CP CB))(bA:Binds K fdA ["self","deed"] []):Qs P w K mg base Z4 64 f0 fd ["deeds"] Qmf:=by
 refine F.ok Qgg (λvs H Q E h=>?_) (λcdv A outer s H vs Q E hr h=>?_)
 ·obtain⟨l,es,dl,U,rfl,_⟩:=h;rfl
 obtain⟨l,es,dl,U,rfl,hl,Z,hU,aa,ac,q⟩:=h;have aq:Yb 4 _:=hr.mono (by lia);have nd:=Qgg.nd;refine⟨_,Qd (Uq (i:=1) nd rfl (Es Xb) (Qc9 ah GI aq rfl T.mgC bI .nil Q6))
  (Qh (Qv (Vx (te:=Qjt CB "answer" (R7 P w CP CB) [] E0 (V7 1) (Qe7 (V7 0) Qp7)) (own:=["deed"]) (fv:=[(1,"book")]) rfl (S:=(by eq_refl:Wh (Ql Od) _)) (.cons rfl (Di Xb) rfl .nil)
   (Xd (pv 0)) (λ_ _ _ _ _=>Xe (i:=0) Q47 rfl (Di Xb) (Es Xb)) (λ_ _ _ _ _=>Ww) (λ_ _ _ _ _=>Q9 (pv 1) T.cl mA GA hr bA .nil Q6 (Qa (pv 0) Qe))))),?_⟩
 intro bk dx M al aB;have s0:Q4 H (zj (zj H dx (.own bk)) bk (.ins CB dx [])):=λc o e=>Qi (Qi e (Qc e al)) (Qc e M);refine⟨bk,dx,Xb,Qb,λp a f d t e H1 R k1 ha hf hd ht he=>⟨Xb,?_⟩⟩;have g1:Q4 H H1:=λb o B=>k1 b o (s0 _ _ B) (Qc B M);have aj:=s0.free ha;have an:=s0.free hf;have ak:=s0.free hd;have ar:=s0.free ht;refine⟨_,Xb,l,Xb,⟨_,Zd.of (g1 _ _ hl)⟩,λr n=>?_⟩;subst_vars;obtain⟨us,u1,_⟩:=R.pl.th;obtain⟨ws,w1,_⟩:=R.pl.fo;obtain⟨aD,t1,_⟩:=R.to;obtain⟨az,ay,e1,_⟩:=R.en;and_intros;have ra:r≠a:=Gp (Qc u1 n);have rf:r≠f:=Gp (Qc w1 n);have rt:r≠t:=Gp (Qc t1 n);have re:r≠e:=Gp (Qc e1 n);have s2:=Qg n (.lst []);have au:es.length=dl.length:=Gr Z;refine Qau (K:=K) (a:=l) (xs:=es) (small (by lia)) (λi ys σ H2=>XE4 λ(x0:Option V)(t e:Gc)(ts:List Th)=>PA8 (σ=[x0,Ga (.ref bk)]) (Vp P w CP CB H2 bk p a f d t e ts (after [] (dl.take i))) (∀x∈ts,x∈U) (Q4 H H2) (H t=Gh) (r≠t) (r≠e) (Qx9 H2 (λb=>b=a\/b=f\/b=t\/b=r) (dl.take i) ys))
  ⟨_,t,e,[],Xb,R.same s2,(λx j=>nomatch j),g1.trans s2,ar,rt,re,(λk d v D=>by simp at D)⟩ (by rintro i ys σ H2 _ ⟨_,_,_,_,_,_,_,g,_⟩;exact Zd.of (g _ _ hl)) ?_ ?_
 ·rintro i y ys σ H2 hi ad ⟨x0,t,e,ts,rfl,I,sub,X,t0,rt,re,G⟩ u;obtain⟨dd,N,hy⟩:=Qy Z hi;obtain⟨ai,o2⟩:=I.ob;have ax:Qu H H2:=Qu.of X;refine⟨_,Xb,bk,ai,_,Xb,o2,Qe1 _ _ _,_,Xb,bk,p,a,f,d,t,e,ts,_,U,y,dd,Xb,I,Qtw hU sub ac i,hy.Qm ax,aa dd (List.mem_of_getElem? N),λv t' e' aw W B3 hv ag F3 O am=>?_⟩;have r3:=F3.lst I u ra rf rt;have af:r≠t':=O.elim (λz=>z▸rt) (λz=>Qc u z);have ae:r≠e':=am.elim (λz=>z▸re) (λz=>Qc u z);have g3:Q4 H W:=λb o B=>F3.keep b o (X _ _ B) (Qc B M) (Qc B aj) (Qc B an) (Qc B ak) (Qc B t0);have av:H t'=Gh:=O.elim (λz=>z▸t0) (λz=>X.free z);subst_vars;obtain⟨aC,u2,_⟩:=I.pl.th;obtain⟨aE,w2,_⟩:=I.pl.fo;and_intros;refine⟨r3,_,t',e',aw,Xb,(by rw[Rv N];exact B3.but r3 ra rf af ae),ag,λb o B=>Qi (g3 _ _ B) (Qc B (g1.free n)),av,af,ae,λk dk vk D m=>?_⟩;have L:Qu W (zj W r (.lst (ys++[v]))):=Zs λxs e=>by rw[r3]at e;cases e
  have J:∀{c:Gc}{xs:List V},W c=Ga (.lst xs)->¬(c=a\/c=f\/c=t'\/c=r)->(zj W r (.lst (ys++[v]))) c=Ga (.lst xs):=λC j=>Qi C (λz=>j (.inr (.inr (.inr z))));have ao:k<i+1:=by have:=(List.getElem?_eq_some_iff.mp D).1;rw[List.length_take]at this;lia
  have ek:(dl.take (i+1)).take k=dl.take k:=by rw[List.take_take,E4 (by lia)]
  rw[ek];rw[List.getElem?_take_of_lt ao]at D;rcases Tk k i with ap|aA
  ·rw[List.getElem?_append_left (by lia)]at m;have h0:=G k dk vk (by rw[List.getElem?_take_of_lt ap];exact D) m;rw[List.take_take,E4 (by lia)]at h0;have h1:=h0.ex (Y:=λb=>b=a\/b=f\/b=t\/b=t'\/b=r) λc xs C j z=>by
    rcases z with z|z|z|z|z
    ·exact j (.inl z)
    ·exact j (.inr (.inl z))
    ·exact j (.inr (.inr (.inl z)))
    ·rcases O with w3|w3
     ·exact j (.inr (.inr (.inl (z.trans w3))))
     ·rw[z,w3]at C;cases C
    ·exact j (.inr (.inr (.inr z)))
   have h2:=h1.kp (F3.Qm I) λ{c xs}C j=>F3.lst I C (λz=>j (.inl z)) (λz=>j (.inr (.inl z))) (λz=>j (.inr (.inr (.inl z))));have h3:=h2.ex (Y:=λb=>b=a\/b=f\/b=t'\/b=r) λc xs C j z=>by
    rcases z with z|z|z|z
    ·exact j (.inl z)
    ·exact j (.inr (.inl z))
    ·exact j (.inr (.inr (.inr (.inl z))))
    ·exact j (.inr (.inr (.inr (.inr z))))
   exact h3.kp L J
  ·have ab:k=i:=by lia
   subst ab;rw[List.getElem?_append_right (by lia),ad,Nat.sub_self]at m;have m:v=vk:=by simpa using m
   subst m;rw[N]at D;cases D;exact(hv.ex (Y:=λb=>b=a\/b=f\/b=t'\/b=r) λc xs C j z=>by
    rcases z with z|z|z|z
    ·exact j (.inl (by rw[z];exact⟨_,u2⟩))
    ·exact j (.inl (by rw[z];exact⟨_,w2⟩))
    ·exact j (.inr z)
    ·exact j (.inl (by rw[z];exact⟨_,u⟩))).kp L J
 ·rintro ys σ H2 ad ⟨x0,t,e,ts,rfl,I,sub,X,t0,rt,re,G⟩ u;rw[au,List.take_length]at G;exact q r ys H2 X (g1.free n) u (by lia) λk dk vk D m=>(G k dk vk D m).ex λc xs C j z=>j (.inr (.inr (.inr z)))
theorem Qbl:Qx ["deeds","book","deed"] ["deeds"] (Ql V1):=by eq_refl
theorem Qhs(F:Wd K "book_after" "book_after" V1 f0 fd)(T:Qew K mg CB)(I:Mk K CB fI)(GI:Qs P w K mg base Z4 3 fI fdI ["self"] (Qdw P w CP CB))(bI:Binds K fdI ["self"] [])
  (mA:Z9 K CB "answer" fA)(GA:Qs P w K mg base Z4 63 fA fdA ["self","deed"] (R7 P w CP CB))(bA:Binds K fdA ["self","deed"] []):Qs P w K mg base Z4 64 f0 fd ["deeds"] (Qbj P w CP CB):=by
 refine F.ok Qbl (λvs H Q E h=>?_) (λcdv A outer s H vs Q E hr h=>?_)
 ·obtain⟨l,es,dl,U,rfl,_⟩:=h;rfl
 obtain⟨l,es,dl,U,rfl,hl,u,hU,B,C,q⟩:=h;have R:Yb 4 _:=hr.mono (by omega);have nd:=Qbl.nd;show∃t,Z7 ?mysBookAfter _ t/\_;let w3:Subtype (Z7 ?mysBookAfter ((Qj V1).drop 2)):=⟨_,Qh (Qv (pv 1))⟩
 let w2:Subtype (Z7 ?mysBookAfter ((Qj V1).drop 1)):=⟨_,Qd (Yg Gy rfl (Xd (pv 0)) (Yc 2 nd) (Qh (Ze (Q9 (pv 1) T.cl mA GA hr bA .nil Q6 (Qa (pv 2) Qe))))) w3.2⟩
 refine⟨_,Qd (Qt 1 nd (Qc9 I GI R rfl T.mgC bI .nil Q6)) w2.2,?_⟩;intro bk dx k N ab;have D:Q4 H (zj (zj H dx (.own bk)) bk (.ins CB dx [])):=λc o e=>Qi (Qi e (Qc e N)) (Qc e k);refine⟨bk,dx,Xb,Qb,λp a f d t e H1 B1 k1 ha hf hd ht he=>⟨Xb,?_⟩⟩;have g1:Q4 H H1:=λb o j=>k1 b o (D _ _ j) (Qc j k);have L:=D.free ha;have O:=D.free hf;have M:=D.free hd;have W:es.length=dl.length:=Gr u;let X:Nat->St->Hp->Prop:=λi σ H2=>XE4 λ(x2:Option V)(t e:Gc)(ts:List Th)=>PA5 (σ=[Ga (.ref l),Ga (.ref bk),x2]) (Vp P w CP CB H2 bk p a f d t e ts (after [] (dl.take i))) (∀x∈ts,x∈U) (Q4 H H2) (H t=Gh)
 refine⟨_,Xb,l,Xb,⟨_,Zd.of (g1 _ _ hl)⟩,Xl (K:=K) (a:=l) (xs:=es) X
  ⟨_,t,e,[],Xb,B1,(λx hx=>nomatch hx),g1,D.free ht⟩ (by rintro i σ H2 _ ⟨_,_,_,_,_,_,_,g,_⟩;exact Zd.of (g _ _ hl)) ?_ ?_⟩
 ·rintro i y σ H2 hi ⟨x2,t,e,ts,rfl,m,sub,n,Y⟩;obtain⟨dd,r,hy⟩:=Qy u hi;obtain⟨J,o2⟩:=m.ob;refine⟨_,Xb,bk,J,_,Xb,o2,Qe1 _ _ _,_,Xb,bk,p,a,f,d,t,e,ts,_,U,y,dd,Xb,m,Qtw hU sub C i,hy.Qm (Qu.of n),B dd (List.mem_of_getElem? r),λv t' e' Z H3 B3 hv G F3 S aa=>?_⟩;exact⟨_,t',e',Z,Xb,(by rw[Rv r];exact B3),G,λb o j=>F3.keep b o (n _ _ j) (Qc j k) (Qc j L) (Qc j O) (Qc j M) (Qc j Y),S.elim (λz=>z▸Y) (λz=>n.free z)⟩
 ·rintro σ H2 ⟨x2,t,e,ts,rfl,m,sub,n,Y⟩;rw[W,List.take_length]at m;exact⟨_,Xb,q bk p a f d t e ts H2 n m sub⟩
theorem Qj4:Qx ["deeds"] ["deeds"] (Ql Rw):=by eq_refl
theorem Qhp(F:Wd K "told_after" "told_after" Rw f0 fd)(T:Qew K mg CB)(j:Qs P w K mg base Z4 64 fB fdB ["deeds"] (Qbj P w CP CB))(r:KI K fB)(k:Binds K fdB ["deeds"] [])(u:MG mg "book_after" fB):Qs P w K mg base Z4 65 f0 fd ["deeds"] Qgq:=by
 refine F.ok Qj4 (λvs H Q E h=>?_) (λcdv A outer s H vs Q E o h=>?_)
 ·obtain⟨l,es,dl,U,rfl,_⟩:=h;rfl
 obtain⟨l,es,dl,U,rfl,hl,g,n,b,c,q⟩:=h;refine⟨_,Qh (Qv (Qn (Z1 j o rfl u r k .nil Q6 (Qa (pv 0) Qe)) rfl)),?_⟩;refine⟨_,Xb,l,es,dl,U,Xb,hl,g,n,b,c,λbk p a f d t e ts H1 m i sub=>?_⟩;obtain⟨dx,v⟩:=i.ob;obtain⟨vs,x,y⟩:=i.to;exact⟨bk,CB,dx,_,_,Xb,v,T.cl,T.told,Qb9 _ _ _,q t vs H1 m x y⟩
theorem Qt1{ps:List Ta}(G:Qs P w K mg base Z4 k f0 fd ps Qmf):Qs P w K mg base Z4 k f0 fd ps Qa7:=by
 have imp:∀vs H Q E,Qa7 vs H Q E->Qmf vs H Q E:=by
  rintro vs H Q E ⟨l,es,dl,U,h1,h2,o,p,t,z,q⟩;refine⟨l,es,dl,U,h1,h2,o,p,t,by lia,λr i H' g _ x hl ok=>q r i H' g x ?_⟩;have u:(Ot [] dl).length=dl.length:=Qa8 [] dl;have key:∀{i:List V}{e:List V},i.length=e.length->(∀(k:Nat)v h,i[k]?=Ga v->e[k]?=Ga h->Qeb H' v h)->Paired (Qeb H') i e:=by
   intro i;induction i with
   |nil=>intro e hl _;cases e with
    |nil=>exact .nil
    |cons _ _=>simp at hl
   |cons v i y=>
    intro e hl f;cases e with
    |nil=>simp at hl
    |cons h e=>exact .cons (f 0 v h rfl rfl) (y (by simpa using hl) λk v h h1 h2=>f (k+1) v h h1 h2)
  refine key (by lia) λk v h n j=>?_;have m:k<dl.length:=by rw[<-hl];exact(List.getElem?_eq_some_iff.mp n).1
  have:=(ok k _ v (List.getElem?_eq_getElem m) n).head;rw[Qam (List.getElem?_eq_getElem m)]at j;cases j;exact this
 exact⟨λvs H Q E h=>G.1 vs H Q E (imp vs H Q E h),λA outer s H args us vs Q E a b c d h=>G.2 A outer s H args us vs Q E a b c d (imp vs H Q E h)⟩
theorem Qpq{ps:List Ta}(G:Qs P w K mg base Z4 k f0 fd ps Qgq):Qs P w K mg base Z4 k f0 fd ps Qls:=by
 have imp:∀vs H Q E,Qls vs H Q E->Qgq vs H Q E:=by rintro vs H Q E ⟨l,es,dl,U,h1,h2,e,f,g,i,q⟩;exact⟨l,es,dl,U,h1,h2,e,f,g,by omega,q⟩
 exact⟨λvs H Q E h=>G.1 vs H Q E (imp vs H Q E h),λA outer s H args us vs Q E a b c d h=>G.2 A outer s H args us vs Q E a b c d (imp vs H Q E h)⟩
end
open PySem L2 Sb
structure Blt(mg:Ta->Option Value):Prop where
 len:mg "len"=Gh
 min:mg "min"=Gh
 abs:mg "abs"=Gh
 list:mg "list"=Gh
 tuple:mg "tuple"=Gh
 str:mg "str"=Gh
 bool:mg "bool"=Gh
 int:mg "int"=Gh
 isinstance:mg "isinstance"=Gh
 range:mg "range"=Gh
 reversed:mg "reversed"=Gh
def Qol:T6->List T6
 |.While _ b _ _=>b
 |_=>[]
abbrev cSt(i:Nat):T6:=(Qj Vn).getD i (.Pass ⟨0,0,0,0⟩)
abbrev Q3f:T6:=(Qol (cSt 7)).getD 1 (.Pass ⟨0,0,0,0⟩)
abbrev Q3t:T6:=(Qol (cSt 7)).getD 2 (.Pass ⟨0,0,0,0⟩)
abbrev cN:List Ta:=["_law_told","_law_things","_law_todo","_law_word","_law_one","_law_other","_law_leaders","_law_part","_law_pairs","_law_names","_law_going","_law_k","_law_j","_law_two","_law_inner","_law_old","_law_name"]
theorem U1:Qx cN ["_law_told","_law_things"] (Ql Vn):=by eq_refl
theorem nd2:(["_law_part","_law_leaders"]:List Ta).Nodup:=by decide+kernel
def Good(tl:Tl)(S:List Th)(a:List (Th×Th)):Prop:=∀p∈a,p.1∈S/\p.2∈S/\Cg tl p.1 p.2
def Snd(tl:Tl)(S:List Th)(L:Th->Int):Prop:=∀x∈S,∀y∈S,L x=L y->Cg tl x y
def Crs(S:List Th)(L a:Th->Int):Prop:=∀x∈S,∀y∈S,L x=L y->a x=a y
abbrev s4(j k l m n o:Option V)(d:Gc)(p:Option V)(pl i:Gc)(g:Bool)(a b c e f h:Option V):St:=[j,k,l,m,n,o,Ga (.ref d),p,Ga (.ref pl),Ga (.ref i),Ga (.bl g),a,b,c,e,f,h]
section
variable{P:Gg}{w:Gs}{K:Gd}{mg:Ta->Option Value}{base:Heap}{f:Gc}{cdv:Value}{A:TL}{outer:List LR}{s:Gk}{Hi:Hp}{E:XK}
abbrev XC(P:Gg)(w:Gs)(K:Gd)(mg:Ta->Option Value)(base:Heap)(f:Gc)(cdv:Value)(A:TL)(outer:List LR)(s:Gk)(Hi:Hp)(E:XK):Cx:=(Qkf Z4 P w K mg base cN "_law_classes" (Ql Vn) f cdv A outer s Hi E).nox
theorem Qpd(hu:(XC P w K mg base f cdv A outer s Hi E).A.units+64<DR):∃t,PS (XC P w K mg base f cdv A outer s Hi E) Q3t t/\∀(tl:Tl)(S:List Th)(L:Th->Int)(d pl U:Gc)(pq nv:List V)(m:List (Th×Th))(H0:Hp)(x0 x1 x2 x3 x7:Option V)
  (hN:Num P w H0 d S L)(R:H0 pl=Ga (.lst pq))(ac:Qac H0 pq m)(aa:H0 U=Ga (.lst nv))(ab:Zq H0 nv S)(hG:Good tl S m)(hS:Snd tl S L)(ae:S.length<=3000),
  Tr t
   (λσ H=>H=H0/\∃W X v B C F q l,σ=s4 x0 x1 x2 x3 W X d x7 pl U Gq v B C F q l)
   (λσ H=>Q3h λg b W X v B C F q l=>PA8 (σ=s4 x0 x1 x2 x3 W X d x7 pl U g v B C F q l) (Ih d H0 H) (Num P w H d S b) (Snd tl S b) (Crs S L b) (∀p∈m,b p.1=b p.2) (g=Gq->∀t∈S,b t=L t) (g=Gf->∃x∈S,∃y∈S,L x≠L y/\b x=b y)):=by
 have nd:=U1.nd;refine⟨_,(Yg Gy rfl (Xd (pv 8)) (Vr rfl (Zl (Yc 4 nd) (Zl (Yc 5 nd) Wb)))
  (Qd (Qt 15 nd (Qo (Ux hu) (pv 6) (pv 4)))
  (Qh (Zn (Qr Ic (pv 15) (Qo (Ux hu) (pv 6) (pv 5)) (Q3 _))
  (Qd (Qt 10 nd Vi)
  (Qh (Yg Gy rfl (Xd (pv 9)) (Yc 16 nd)
  (Qh (Zn (Qr Wu (Qo (Ux hu) (pv 6) (pv 16)) (pv 15) (Q3 _))
  (Qh (Qaw (Qo (Ux hu) (pv 6) (pv 5)) (Qcd (pv 6) (pv 16) (Qd3 hu)))) Q7))))) Q7)))),?_⟩
 intro tl S L d pl U pq nv m H0 x0 x1 x2 x3 x7 hN R ac aa ab hG hS ae;rintro D σ H ⟨rfl,W,X,v,B,C,F,q,l,rfl⟩ k;obtain⟨od,Q⟩:=hN.at;have am:pl≠d:=Zi R Q (by intro z;cases z);have ah:U≠d:=Zi aa Q (by intro z;cases z);let an:Nat->St->Hp->Prop:=λi σ H1=>XE6 λg b W X q l=>PA8 (σ=s4 x0 x1 x2 x3 W X d x7 pl U g v B C F q l) (Ih d H H1) (Num P w H1 d S b) (Snd tl S b) (Crs S L b) (∀p∈m.take i,b p.1=b p.2) (g=Gq->∀t∈S,b t=L t) (g=Gf->∃x∈S,∃y∈S,L x≠L y/\b x=b y)
 refine⟨_,Xb,pl,Xb,⟨_,Zd.of R⟩,Xl (K:=K) (a:=pl) (xs:=pq) an
  ⟨Gq,L,W,X,q,l,Xb,Ih.refl,hN,hS,λ_ _ _ _ e=>e,by simp,λ_ _ _=>rfl,λe=>by cases e⟩ (by rintro i σ H1 _ ⟨_,_,_,_,_,_,_,O,_⟩;exact Zd.of (O _ _ R am)) ?_ ?_⟩
 ·rintro i x σ H1 hi ⟨g,b,W,X,q,l,rfl,O,N,snd,G,dn,gf,gt⟩;subst_vars;obtain⟨⟨u1,M⟩,eu,a',v1,v2,rfl,ak,t1,t2⟩:=Qy ac hi;have tu:Qu H H1:=O.Qm Q (λxs z=>by cases z);obtain⟨b1,_,_,_,rfl,_,_,_⟩:=t1.inv;obtain⟨b2,_,_,_,rfl,_,_,_⟩:=t2.inv;have t1:=t1.Qm tu;have t2:=t2.Qm tu;obtain⟨m1,m2,mc⟩:=hG (u1,M) (List.mem_of_getElem? eu);and_intros;have tk:m.take (i+1)=m.take i++[(u1,M)]:=by rw[List.take_add_one,eu];rfl
  refine⟨a',_,Xb,Z2.of (tu _ _ ak),Xb,_,_,Xb,_,_,Xb,Xb,?_⟩;refine⟨_,Xb,_,Xb,N.get m1 t1 ?_⟩;refine⟨_,Xb,_,Xb,_,Xb,N.get m2 t2 ⟨Xb,_,Xb,?_⟩⟩;rw[Vv];refine Vl (λc=>?_) (λc=>?_)
  ·have c:b u1≠b M:=by simpa using c
   generalize ho:b u1=o at*;generalize hn:b M=n at*;have al:∀t,mrg b o n t≠o:=λt z=>by
    unfold mrg at z;split at z
    ·exact c z.symm
    ·rename_i h;exact h z
   have ad:mrg b o n M=n:=by unfold mrg;rw[Gi (by rw[hn];exactλz=>c z.symm)];exact hn
   have ag:=O _ _ aa ah;let ao:Nat->St->Hp->Prop:=λj σ H2=>XE2 λL2 l=>PA5 (σ=s4 x0 x1 x2 x3 (Ga (.ref b1)) (Ga (.ref b2)) d x7 pl U Gf v B C F (Ga (.int o)) l) (Ih d H1 H2) (Num P w H2 d S L2) (∀t∈S,L2 t=b t\/L2 t=mrg b o n t) (∀t∈S.take j,L2 t=mrg b o n t)
   refine⟨_,Xb,U,Xb,⟨_,Zd.of ag⟩,Xl (K:=K) (a:=U) (xs:=nv) ao
    ⟨b,_,Xb,Ih.refl,N,λt _=>.inl Xb,by simp⟩ (by rintro j σ H2 _ ⟨_,_,_,r,_⟩;exact Zd.of (r _ _ ag ah)) ?_ ?_⟩
   ·rintro j y σ H2 hj ⟨L2,l,rfl,r,N2,l1,l2⟩;subst_vars;obtain⟨u0,e0,J⟩:=ab.get hj;have T:=List.mem_of_getElem? e0;have ap:Qu H H2:=(O.trans r).Qm Q (λxs z=>by cases z);obtain⟨b0,_,_,_,rfl,_,_,_⟩:=J.inv;and_intros;have J:=J.Qm ap;have ai:S.take (j+1)=S.take j++[u0]:=by rw[List.take_add_one,e0];rfl
    refine⟨_,Xb,_,Xb,N2.get T J ⟨_,Xb,Xb,_,Xb,?_⟩⟩;rw[Vv];refine Vl (λY=>?_) (λY=>?_)
    ·have Y:L2 u0=o:=by simpa using Y
     have e2:L2 M=n:=by
      rcases l1 M m2 with z|z
      ·rw[z,hn]
      ·rw[z,ad]
     have Z:mrg b o n u0=n:=by
      rcases l1 u0 T with z|z
      ·unfold mrg;rw[Gn (by rw[<-z];exact Y)]
      ·exact absurd (z.symm.trans Y) (al u0)
     refine⟨_,Xb,_,Xb,N2.get m2 (t2.Qm (r.Qm N.at.choose_spec (λxs z=>by cases z))) ⟨_,rfl,_,rfl,N2.put (by omega) T J λH3 aj N3=>?_⟩⟩;refine⟨_,_,Xb,r.trans aj,N3,λt I=>?_,λt I=>?_⟩
     ·by_cases z:t=u0
      ·subst z;right;rw[Gn Xb,e2,Z]
      ·rw[Gi z];exact l1 t I
     ·by_cases z:t=u0
      ·subst z;rw[Gn Xb,e2,Z]
      ·rw[Gi z];rw[ai,List.mem_append,List.mem_singleton]at I;exact l2 t (I.resolve_right z)
    ·have Y:L2 u0≠o:=by simpa using Y
     refine⟨_,_,Xb,r,N2,l1,λt I=>?_⟩;rw[ai,List.mem_append,List.mem_singleton]at I;rcases I with I|I
     ·exact l2 t I
     ·subst I;rcases l1 t T with z|z
      ·rw[z];unfold mrg;rw[Gi (by rw[<-z];exact Y)]
      ·exact z
   ·rintro σ H2 ⟨L2,l,rfl,r,N2,l1,l2⟩;rw[ab.length,List.take_length]at l2;have ml:∀x∈S,L2 x=mrg b o n x:=l2;refine⟨Gf,L2,_,_,_,_,Xb,O.trans r,N2,?_,?_,?_,(λe=>by cases e),λ_=>?_⟩
    ·intro x hx y J e;rw[ml x hx,ml y J]at e;rw[<-ho,<-hn]at e;exact Qo2 m1 m2 snd mc x hx y J e
    ·intro x hx y J e;rw[ml x hx,ml y J];exact Qu5 (G x hx y J e)
    ·intro p u;rw[tk,List.mem_append,List.mem_singleton]at u;rcases u with u|u
     ·have af:=hG p (List.mem_of_mem_take u);rw[ml _ af.1,ml _ af.2.1];exact Qu5 (dn p u)
     ·subst u;show L2 u1=L2 M;rw[ml _ m1,ml _ m2,ad];unfold mrg;rw[Gn ho]
    ·refine⟨u1,m1,M,m2,λz=>c ?_,?_⟩
     ·have:=G u1 m1 M m2 z;rw[ho,hn]at this;exact this
     ·rw[ml _ m1,ml _ m2,ad];unfold mrg;rw[Gn ho]
  ·have c:b u1=b M:=by simpa using c
   refine⟨g,b,_,_,_,_,Xb,O,N,snd,G,λp u=>?_,gf,gt⟩;rw[tk,List.mem_append,List.mem_singleton]at u;rcases u with u|u
   ·exact dn p u
   ·subst u;exact c
 ·rintro σ H1 ⟨g,b,W,X,q,l,rfl,O,N,snd,G,dn,gf,gt⟩;have e:m.take pq.length=m:=by rw[show pq.length=m.length from Gr ac,List.take_length]
  rw[e]at dn;exact k _ _ ⟨g,b,_,_,_,_,_,_,_,_,Xb,O,N,snd,G,dn,gf,gt⟩
end
inductive Cgt(L:Th->Int)(u v:Th):Prop
 |mk (w:_) (ps:_) (qs:_) (h0:u=.mk w ps) (h1:v=.mk w qs) (h2:ps.map L=qs.map L):Cgt L u v
theorem Qzq{L:Th->Int}(cl:∀w ps,Th.mk w ps∈S->∀p∈ps,p∈S)(hS:Snd tl S L){ps a:List Th}(h1:Th.mk w ps∈S)(h2:Th.mk w a∈S)(e:ps.map L=a.map L):Cg tl (.mk w ps) (.mk w a):=by
 refine .cong (CgL.of (by have:=congrArg List.length e;simpa using this) λi p q c d=>?_);have b:(ps.map L)[i]?=(a.map L)[i]?:=by rw[e]
 rw[List.getElem?_map,List.getElem?_map,c,d]at b;exact hS p (cl _ _ h1 p (List.mem_of_getElem? c)) q (cl _ _ h2 q (List.mem_of_getElem? d)) (Tj b)
section
variable{P:Gg}{w:Gs}{K:Gd}{mg:Ta->Option Value}{base:Heap}{f:Gc}{cdv:Value}{A:TL}{outer:List LR}{s:Gk}{Hi:Hp}{E:XK}
theorem Qie(B:Blt mg)(U:(XC P w K mg base f cdv A outer s Hi E).A.units+64<DR):∃t,PS (XC P w K mg base f cdv A outer s Hi E) Q3f t/\∀(tl:Tl)(S:List Th)(L:Th->Int)(d pl W:Gc)(pq nv:List V)(x:List (Th×Th))(H0:Hp)(x0 x1 x2 x3 x5 x7:Option V)
  (hN:Num P w H0 d S L)(ab:H0 pl=Ga (.lst pq))(aq:Qac H0 pq x)(ah:H0 W=Ga (.lst nv))(aa:Zq H0 nv S)(am:W≠pl)(hG:Good tl S x)(hS:Snd tl S L)(cl:∀w ps,Th.mk w ps∈S->∀p∈ps,p∈S)(hsz:∀t∈S,t.size<=3000)(al:S.length<=3000)(az:x.length<=3000),
  Tr t
   (λσ H=>H=H0/\∃J y m g l G I,σ=s4 x0 x1 x2 x3 J x5 d x7 pl W Gq y m g l G I)
   (λσ H=>XE9 λq b J y m g l G I=>PA7 (σ=s4 x0 x1 x2 x3 J x5 d x7 pl W Gq y m g l G I) (Ih pl H0 H) (H pl=Ga (.lst q)) (Qac H q b) (Good tl S b) (∀p∈x,p∈b) (∀(k j:Nat)u v,j<k->S[k]?=Ga u->S[j]?=Ga v->Cgt L u v->(u,v)∈b)):=by
 have nd:=U1.nd;refine⟨_,(Yg Gy rfl (Us rfl B.range (Qa (Qp Xc rfl B.len GO (Qa (pv 9) Qe)) Qe)) (Yc 11 nd)
  (Qh (Yg Gy rfl (Us rfl B.range (Qa (pv 11) Qe)) (Yc 12 nd)
  (Qd (Qt 4 nd (Qo Zh (pv 9) (pv 11)))
  (Qd (Qt 13 nd (Qo Zh (pv 9) (pv 12)))
  (Qh (Zn (PW.pt (Vs (Qr Wu (Qo Q5 (pv 4) Qk) (Qo Q5 (pv 13) Qk) (Q3 _)) (Wr (Qr Wu (Qp Xc rfl B.len GO (Qa (pv 4) Qe)) (Qp Xc rfl B.len GO (Qa (pv 13) Qe)) (Q3 _)))))
  (Qd (Qci (i:=14) (own:=["_law_part"]) (fv:=[(6,"_law_leaders")]) nd rfl rfl rfl (S:=(by eq_refl:Wh (Ql Vn) _)) (.cons rfl (Di Xb) rfl .nil) (Uo (Yu Rz (pv 4) (Yy Qk) Xx))
   (λ_ _ _ _ _=>Xe (i:=0) nd2 rfl (Di Xb) (Es Xb)) (λ_ _ _ _ _=>Ww) (λ_ _ _ _ _=>(Qo (r:=Qio P w) (Ux U) (pv 1) (pv 0))))
  (Qh (Zn (Qr (Ql3 U) (pv 14) (Vx (own:=["_law_part"]) (fv:=[(6,"_law_leaders")]) rfl (S:=(by eq_refl:Wh (Ql Vn) _)) (.cons rfl (Di Xb) rfl .nil) (Uo (Yu Rz (pv 13) (Yy Qk) Xx))
   (λ_ _ _ _ _=>Xe (i:=0) nd2 rfl (Di Xb) (Es Xb)) (λ_ _ _ _ _=>Ww) (λ_ _ _ _ _=>(Qo (r:=Qio P w) (Ux U) (pv 1) (pv 0)))) (Q3 _))
  (Qh (Ze (Xw Gu GF GV Z0 (pv 8) (Qa (Zb (Qa (pv 4) (Qa (pv 13) Qe))) Qe)))) Q7))) Q7))))))),?_⟩
 intro tl S L d pl W pq nv x H0 x0 x1 x2 x3 x5 x7 hN ab aq ah aa am hG hS cl hsz al az;rintro D σ H ⟨rfl,J,y,m,g,l,G,I,rfl⟩ kk;obtain⟨od,ak⟩:=hN.at;have aC:d≠pl:=λz=>by rw[z,ab]at ak;cases ak
 have aJ:=aa.length;let aD:Nat->St->Hp->Prop:=λi σ H1=>XE7 λq b J y m g l=>PA8 (σ=s4 x0 x1 x2 x3 J x5 d x7 pl W Gq y m g l G I) (Ih pl H H1) (H1 pl=Ga (.lst q)) (Qac H1 q b) (Good tl S b) (∀p∈x,p∈b) (∀(k j:Nat)u v,k<i->j<k->S[k]?=Ga u->S[j]?=Ga v->Cgt L u v->(u,v)∈b) (b.length<=3000+i*3000)
 refine⟨_,Xb,_,_,Xb,.inl ⟨nv,Zd.of ah,Xb⟩,_,Xb,by lia,by lia,Uz (lo:=0) (n:=((nv.length:Int)).toNat) aD
  ⟨pq,x,J,y,m,g,l,Xb,Ih.refl,ab,aq,hG,λ_ h=>h,λk j u v h=>by lia,by lia⟩ ?_ ?_⟩
 ·rintro i σ H1 hi ⟨ai,X,J,y,m,g,l,rfl,R,T,Z,g3,g4,g5,g6⟩;have hi:i<S.length:=by lia
  let aE:Nat->St->Hp->Prop:=λj σ H2=>XE6 λq b J m g l=>PA9 (σ=s4 x0 x1 x2 x3 J x5 d x7 pl W Gq (Ga (.int (0+(i:Int)))) m g l G I) (Ih pl H H2) (H2 pl=Ga (.lst q)) (Qac H2 q b) (Good tl S b) (∀p∈x,p∈b) (∀(k j:Nat)u v,k<i->j<k->S[k]?=Ga u->S[j]?=Ga v->Cgt L u v->(u,v)∈b) (∀(Q:Nat)u v,Q<j->S[i]?=Ga u->S[Q]?=Ga v->Cgt L u v->(u,v)∈b) (b.length<=3000+i*3000+j)
  refine⟨_,Xb,_,Xb,by lia,by lia,Uz (lo:=0) (n:=((0+(i:Int))).toNat) aE
   ⟨ai,X,J,m,g,l,Xb,R,T,Z,g3,g4,g5,λQ u v h=>by lia,by lia⟩ ?_ ?_⟩
  ·rintro j σ H2 hj ⟨M,C,J,m,g,l,rfl,R,T,Z,g3,g4,g5,g6,g7⟩;have hj:j<i:=by lia
   subst_vars;obtain⟨v1,e1,t1⟩:=aa.at (List.getElem?_eq_getElem hi);obtain⟨v2,e2,t2⟩:=aa.at (List.getElem?_eq_getElem (show j<S.length by lia));and_intros;have tu:Qu H H2:=R.Qm ab (λxs z=>by cases z);have N2:Num P w H2 d S L:=hN.keep (λo h=>R _ _ h aC) tu;have ar:=R _ _ ah am;have m1:S[i]∈S:=List.getElem_mem _;have m2:S[j]∈S:=List.getElem_mem _;have q1:S[i]?=Ga S[i]:=List.getElem?_eq_getElem _;have q2:S[j]?=Ga S[j]:=List.getElem?_eq_getElem _;generalize S[i]=u1 at*;generalize S[j]=u2 at*;subst_vars;obtain⟨b1,w1,aG,N,rfl,rfl,af,an⟩:=(t1.Qm tu).inv;obtain⟨b2,w2,aH,O,rfl,rfl,ag,ao⟩:=(t2.Qm tu).inv;and_intros;have l1:=an.length;have l2:=ao.length;have z1:=hsz _ m1;have z2:=hsz _ m2;simp only[Th.size]at z1 z2;have y1:=Zz N;have y2:=Zz O;refine⟨_,Xb,_,Xb,W,nv,_,_,Xb,Xb,Zd.of ar,(by rw[EA];exact Qz e1),?_⟩;refine⟨_,Xb,_,Xb,W,nv,_,_,Xb,Xb,Zd.of ar,(by rw[EA];exact Qz e2),?_⟩;refine⟨_,Xb,b1,_,_,_,Xb,Xb,Z2.of af,Qz (j:=0) rfl,_,Xb,b2,_,_,_,Xb,Xb,Z2.of ag,Qz (j:=0) rfl,Xb,_,Xb,?_⟩;rw[Yh];have fin:∀{J g l:Option V}{H3:Hp},Q4 H2 H3->¬Cgt L (.mk w1 N) (.mk w2 O)->XE6 λq b aI m av aw=>PA9 (s4 x0 x1 x2 x3 J x5 d x7 pl W Gq (Ga (.int (0+(i:Int)))) (Ga (.int (0+(j:Int)))) g l G I=s4 x0 x1 x2 x3 aI x5 d x7 pl W Gq (Ga (.int (0+(i:Int)))) m av aw G I) (Ih pl H H3) (H3 pl=Ga (.lst q)) (Qac H3 q b) (Good tl S b) (∀p∈x,p∈b) (∀(k j:Nat)u v,k<i->j<k->S[k]?=Ga u->S[j]?=Ga v->Cgt L u v->(u,v)∈b) (∀(Q:Nat)u v,Q<j+1->S[i]?=Ga u->S[Q]?=Ga v->Cgt L u v->(u,v)∈b) (b.length<=3000+i*3000+(j+1)):=λ{J g l H3}sm no=>by
    refine⟨M,C,_,_,_,_,Xb,R.trans (Ih.of sm),sm _ _ T,Z.Qm (Qu.of sm),g3,g4,g5,λQ u v h U hv c=>?_,by lia⟩;by_cases z:Q=j
    ·subst z;rw[q1]at U;rw[q2]at hv;cases U;cases hv;exact absurd c no
    ·exact g6 Q u v (by lia) U hv c
   refine Vl (λc=>?_) (λc=>?_)
   ·have c:w1=w2:=by simpa using c
    subst c;refine⟨_,Xb,_,_,Xb,.inr ⟨_,Z2.of af,Xb⟩,_,Xb,_,_,Xb,.inr ⟨_,Z2.of ag,Xb⟩,Xb,_,Xb,?_⟩;rw[Vv];refine Vl (λc2=>?_) (λc2=>?_)
    ·refine⟨_,Xb,_,Xb,b1,_,Xb,Z2.of af,Ub _ _,λr hr=>?_⟩;rw[Qjo];have s3:=Qg hr (.tup aG);refine⟨r,Xb,⟨_,Z2.of Qb⟩,λp Y=>?_⟩;refine Qfd (K:=K) Qb (an.same s3) (cl _ _ m1) (N2.same s3) Y (by lia) λH4 aF ax=>?_;have ac:Q4 H2 H4:=s3.trans aF;refine⟨_,Xb,_,Xb,_,Xb,b2,_,Xb,Z2.of (ac _ _ ag),Ub _ _,λr2 aA=>?_⟩;rw[Qjo];have s5:=Qg aA (.tup aH);refine⟨r2,Xb,⟨_,Z2.of Qb⟩,λp2 ap=>?_⟩;refine Qfd (K:=K) Qb (ao.same (ac.trans s5)) (cl _ _ m2) (N2.same (ac.trans s5)) ap (by lia) λH6 s6 ay=>?_;have au:Q4 H4 H6:=s5.trans s6;have ad:=ac.trans au;refine⟨.list ((N.map L).map Ew),.list ((O.map L).map Ew),.lst (au _ _ ax) (Qdo _),.lst ay (Qdo _),by simp only[Tp];exact Qdn _,by simp only[Tp];exact Qdn _,?_,_,Xb,?_⟩
     ·have:=Qc3 (N.map L);simp only[Dg];lia
     have ev:TQ (.list ((N.map L).map Ew)) (.list ((O.map L).map Ew))=decide (N.map L=O.map L):=by simp only[TQ];exact Qij _ _
     rw[ev];refine Vl (λc3=>?_) (λc3=>?_)
     ·have c3:=TJ c3;refine⟨_,Xb,.inl ⟨Xb,_,Zd.of (ad _ _ T)⟩,_,Xb,_,Xb,by show 2<=Gj;decide,λe he=>?_⟩;have s7:=Qg he (.tup [.ref b1,.ref b2]);have ae:=ad.trans s7;have lp:M.length=C.length:=Gr Z;have ib:i*3000<=3000*3000:=D4 _ (by lia);refine⟨pl,M,.ref e,Xb,Xb,ae _ _ T,by rw[GQ];lia,?_⟩;have aj:Qu H2 (zj (zj H6 e (.tup [.ref b1,.ref b2])) pl (.lst (M++[.ref e]))):=(Qu.of ae).trans (Zs λxs z=>by rw[ae _ _ T]at z;cases z);have aB:e≠pl:=λz=>by rw[z,ad _ _ T]at he;cases he
      refine⟨M++[.ref e],C++[(.mk w1 N,.mk w1 O)],_,_,_,_,Xb,λa o h1 h2=>by rw[Qf h2];exact ae _ _ (R _ _ h1 h2),Qb,?_,?_,λp Y=>List.mem_append_left _ (g4 p Y),λk j u v h1 h2 h3 h4 h5=>List.mem_append_left _ (g5 k j u v h1 h2 h3 h4 h5),λQ u v h U hv c=>?_,by rw[List.length_append,List.length_singleton];lia⟩
      ·refine Ys (Z.Qm aj) (.cons ⟨e,_,_,Xb,by rw[Qf aB];exact Qb,(t1.Qm tu).Qm aj,(t2.Qm tu).Qm aj⟩ .nil)
      ·intro p Y;rcases List.mem_append.mp Y with Y|Y
       ·exact g3 p Y
       ·rw[List.mem_singleton]at Y;subst Y;exact⟨m1,m2,Qzq cl hS m1 m2 c3⟩
      ·by_cases z:Q=j
       ·subst z;rw[q1]at U;rw[q2]at hv;cases U;cases hv;exact List.mem_append_right _ List.mem_cons_self
       ·exact List.mem_append_left _ (g6 Q u v (by lia) U hv c)
     ·have c3:=of_decide_eq_false (Sw.mpr c3);refine fin ad ?_;rintro⟨w',ps,qs,z1,z2,z3⟩;cases z1;cases z2;exact c3 z3
    ·refine fin (λ_ _ h=>h) ?_;rintro⟨w',ps,qs,z1,z2,z3⟩;cases z1;cases z2;have:=congrArg List.length z3;simp at this;simp at c2;lia
   ·refine Zp (fin (λ_ _ h=>h) ?_);have c:¬w1=w2:=by simpa using c
    rintro⟨w',ps,qs,z1,z2,z3⟩;cases z1;cases z2;exact c rfl
  ·rintro σ H2 ⟨M,C,J,m,g,l,rfl,R,T,Z,g3,g4,g5,g6,g7⟩;refine⟨M,C,_,_,_,_,_,Xb,R,T,Z,g3,g4,λk j u v h1 h2 h3 h4 h5=>?_,by lia⟩;by_cases z:k=i
   ·subst z;exact g6 j u v (by lia) h3 h4 h5
   ·exact g5 k j u v (by lia) h2 h3 h4 h5
 ·rintro σ H1 ⟨ai,X,J,y,m,g,l,rfl,R,T,Z,g3,g4,g5,g6⟩;refine kk _ _ ⟨ai,X,_,_,_,_,_,_,_,Xb,R,T,Z,g3,g4,λk j u v h1 h2 h3 h4=>g5 k j u v ?_ h1 h2 h3 h4⟩;have:=(List.getElem?_eq_some_iff.mp h2).1;lia
end
section
variable{P:Gg}{w:Gs}{K:Gd}{mg:Ta->Option Value}{base:Heap}{f:Gc}{cdv:Value}{A:TL}{outer:List LR}{s:Gk}{Hi:Hp}{E:XK}
theorem Qxp{L:Th->Int}{b:List (Th×Th)}(h:∀(k j:Nat)u v,j<k->S[k]?=Ga u->S[j]?=Ga v->Cgt L u v->(u,v)∈b)(e:∀p∈b,L p.1=L p.2):
  ∀w ps a,Th.mk w ps∈S->Th.mk w a∈S->ps.map L=a.map L->L (.mk w ps)=L (.mk w a):=by
 intro w ps a h1 h2 f;obtain⟨k,d⟩:=List.mem_iff_getElem?.mp h1;obtain⟨j,c⟩:=List.mem_iff_getElem?.mp h2;rcases Fg j k with z|z|z
 ·exact e _ (h k j _ _ z d c ⟨w,ps,a,Xb,Xb,f⟩)
 ·subst z;rw[d]at c;cases c;rfl
 ·exact(e _ (h j k _ _ z c d ⟨w,a,ps,Xb,Xb,f.symm⟩)).symm
theorem Qqf(B:Blt mg)(hu:(XC P w K mg base f cdv A outer s Hi E).A.units+64<DR):∃t,PS (XC P w K mg base f cdv A outer s Hi E) (cSt 7) t/\∀(tl:Tl)(S:List Th)(L:Th->Int)(d pl J:Gc)(pq nv:List V)(F:List (Th×Th))(H0:Hp)(x0 x1 x2 x3 x7:Option V)
  (hN:Num P w H0 d S L)(Q:H0 pl=Ga (.lst pq))(ae:Qac H0 pq F)(I:H0 J=Ga (.lst nv))(ab:Zq H0 nv S)(X:J≠pl)(hG:Good tl S F)(hS:Snd tl S L)(cl:∀w ps,Th.mk w ps∈S->∀p∈ps,p∈S)(hsz:∀t∈S,t.size<=3000)(G:S.length<=3000)(ad:F.length<=3000)
  (C:∀a b,(Gf,a,b)∈tl->a∈S/\b∈S/\(a,b)∈F),
  Tr t
   (λσ H=>H=H0/\∃x4 W q r u v x y,σ=s4 x0 x1 x2 x3 x4 W d x7 pl J Gf q r u v x y)
   (λσ H=>XE1 λL'=>PA4 (σ[6]?=Ga (Ga (.ref d))) (∀c o,H0 c=Ga o->c≠d->c≠pl->H c=Ga o) (Num P w H d S L') (Tells tl S L')):=by
 have nd:=U1.nd;subst_vars;obtain⟨t1,ap,ar⟩:=Qie (P:=P) (w:=w) (K:=K) (mg:=mg) (base:=base) (f:=f) (cdv:=cdv) (A:=A) (outer:=outer) (s:=s) (Hi:=Hi) (E:=E) B hu;obtain⟨t2,aq,au⟩:=Qpd (P:=P) (w:=w) (K:=K) (mg:=mg) (base:=base) (f:=f) (cdv:=cdv) (A:=A) (outer:=outer) (s:=s) (Hi:=Hi) (E:=E) hu;and_intros;refine⟨_,Vm Gy (Xy (pv 10)) (Qd (Qt 10 nd Vi) (Qd ap (Qd aq (Qh (Qt 8 nd (Zt Qe)))))),?_⟩;intro tl S L d pl J pq nv F H0 x0 x1 x2 x3 x7 hN Q ae I ab X hG hS cl hsz G ad C;rintro D σ H ⟨rfl,x4,W,q,r,u,v,x,y,rfl⟩ kk;obtain⟨od,O⟩:=hN.at;have av:d≠pl:=λz=>by rw[z,Q]at O;cases O
 have af:J≠d:=λz=>by rw[z,O]at I;cases I
 refine⟨λm σ H1=>Qzw λg k j n i x4 W q r u v x y=>Q0z (σ=s4 x0 x1 x2 x3 x4 W d x7 j J g q r u v x y) (∀c o,H c=Ga o->c≠d->c≠pl->H1 c=Ga o) (Num P w H1 d S k) (Snd tl S k) (H1 j=Ga (.lst n)) (Qac H1 n i) (Good tl S i) (i.length<=3000) (∀c o,H c=Ga o->c≠d->c≠pl->c≠j) (∀a b,(Gf,a,b)∈tl->(a,b)∈i\/k a=k b) (m=(if g=Gf then dis S k+1 else 0)) (g=Gq->Rc tl S k),
  ⟨_,Gf,L,pl,pq,F,_,_,_,_,_,_,_,_,Xb,λc o e _ _=>e,hN,hS,Q,ae,hG,ad,(λ_ _ _ _ h=>h),λa b h=>.inl (C a b h).2.2,Xb,λz=>by cases z⟩,?_⟩
 rintro m σ H1 ⟨g,k,j,n,i,x4,W,q,r,u,v,x,y,rfl,kp,N,snd,g1,g2,g3,g4,g5,g6,rfl,g7⟩;refine⟨_,Xb,g,Xb,?_⟩;cases g with
 |false=>refine Zp (kk _ _ ⟨k,Xb,kp,N,g7 Xb,snd⟩)
 |true=>
  refine Yv ⟨λal H'=>∃m',m'<dis S k+1/\Qzw λg k j n i x4 W q r u v x y=>Q0z (al=s4 x0 x1 x2 x3 x4 W d x7 j J g q r u v x y) (∀c o,H c=Ga o->c≠d->c≠pl->H' c=Ga o) (Num P w H' d S k) (Snd tl S k) (H' j=Ga (.lst n)) (Qac H' n i) (Good tl S i) (i.length<=3000) (∀c o,H c=Ga o->c≠d->c≠pl->c≠j) (∀a b,(Gf,a,b)∈tl->(a,b)∈i\/k a=k b) (m'=(if g=Gf then dis S k+1 else 0)) (g=Gq->Rc tl S k),λal H' h=>h,?_⟩;have ah:=kp _ _ I af X;have ai:J≠j:=g5 _ _ I af X;have Z:Qu H H1:=λc xs e=>kp c _ e (λz=>by rw[z,O]at e;cases e) (λz=>by rw[z,Q]at e;cases e);have aj:=ab.Qm Z;have ag:d≠j:=λz=>by obtain⟨o,ho⟩:=N.at;rw[z,g1]at ho;cases ho
  refine ar tl S k d j J n nv i H1 x0 x1 x2 x3 W x7 N g1 g2 ah aj ai g3 snd cl hsz G g4 _ _ _ ⟨Xb,_,_,_,_,_,_,_,Xb⟩ ?_;rintro aI H2 ⟨ao,T,y4,aw,ax,ay,az,aA,aB,rfl,M,a1,a2,a3,a4,a5⟩;have ak:Qu H1 H2:=M.Qm g1 (λxs z=>by cases z);have N2:Num P w H2 d S k:=N.keep (λo h=>M _ _ h ag) ak;have an:=M _ _ ah ai;refine au tl S k d j J ao nv T H2 x0 x1 x2 x3 x7 N2 a1 a2 an (aj.Qm ak) a3 snd G _ _ _ ⟨Xb,_,_,_,_,_,_,_,_,Xb⟩ ?_;rintro aJ H3 ⟨g',L3,z4,z5,aC,aD,aE,aF,aG,aH,rfl,am,N3,U,aa,b1,b2,b3⟩;refine⟨Gw _,λp l=>?_⟩;have R:=Qg l (.lst []);have Y:∀c o,H c=Ga o->c≠d->c≠pl->H3 c=Ga o:=λc o e h1 h2=>am c o (M c o (kp c o e h1 h2) (g5 c o e h1 h2)) h1;have ac:∀c o,H c=Ga o->c≠d->c≠pl->c≠p:=λc o e h1 h2 z=>by rw[<-z,Y c o e h1 h2]at l;cases l
  have told:∀a b,(Gf,a,b)∈tl->L3 a=L3 b:=λa b h=>by
   rcases g6 a b h with z|z
   ·exact b1 _ (a4 _ z)
   ·exact aa a (C a b h).1 b (C a b h).2.1 z
  cases g' with
  |false=>
   have b2:=b2 rfl;have e1:∀p∈T,k p.1=k p.2:=λp l=>by rw[<-b2 _ (a3 p l).1,<-b2 _ (a3 p l).2.1];exact b1 p l
   have cg:=Qxp a5 e1;refine⟨0,by lia,Gq,L3,p,[],[],_,_,_,_,_,_,_,_,Xb,λc o e h1 h2=>R _ _ (Y c o e h1 h2),N3.same R,U,Qb,.nil,(λp l=>nomatch l),Gw _,ac,λa b h=>.inr (told a b h),Xb,λ_=>⟨cl,λa b h=>⟨(C a b h).1,(C a b h).2.1,told a b h⟩,λw ps qs h1 h2 e=>?_⟩⟩;rw[b2 _ h1,b2 _ h2];refine cg w ps qs h1 h2 ?_;rw[<-List.map_congr_left λp l=>b2 p (cl _ _ h1 p l),<-List.map_congr_left λp l=>b2 p (cl _ _ h2 p l)];exact e
  |true=>have:=Q0v aa (b3 Xb);exact⟨dis S L3+1,by lia,Gf,L3,p,[],[],_,_,_,_,_,_,_,_,Xb,λc o e h1 h2=>R _ _ (Y c o e h1 h2),N3.same R,U,Qb,.nil,(λp l=>nomatch l),Gw _,ac,λa b h=>.inr (told a b h),Xb,λz=>by cases z⟩
end
theorem Qgm{T:List Th}(h:Zq H xs (T++[t])):∃a x,xs=a++[x]/\Zq H a T/\Yl H x t:=by
 induction T generalizing xs with
 |nil=>
  cases h with
  |cons h1 h2=>cases h2;exact⟨[],_,Xb,.nil,h1⟩
 |cons y r b=>
  cases h with
  |cons h1 h2=>obtain⟨a,x,e,c,d⟩:=b h2;exact⟨_::a,x,by rw[e];rfl,.cons h1 c,d⟩
theorem Xs:∀a b:List Th,Qw (a++b)=Qw a+Qw b
 |[],b=>by simp[Qw]
 |x::a,b=>by simp only[List.cons_append,Qw,Xs a b];lia
theorem W8:∀(l:List Th)(i:Nat),Qw (l.take i)<=Qw l
 |[],i=>by simp
 |x::l,0=>by simp[Qw]
 |x::l,i+1=>by have:=W8 l i;simp only[List.take_succ_cons,Qw];lia
def Ig(tl:Tl):List Th:=tl.flatMap λp=>[p.2.1,p.2.2]
theorem Qax:∀tl:Tl,Qw (Ig tl)=Qw (tl.map (·.2.1))+Qw (tl.map (·.2.2))
 |[]=>by simp[Ig,Qw]
 |p::r=>by have:=Qax r;unfold Ig at this⊢;simp only[List.flatMap_cons,List.map_cons,List.cons_append,List.nil_append,Qw]at this⊢;lia
theorem Qeg:t∈Ig tl↔∃p∈tl,t=p.2.1\/t=p.2.2:=by unfold Ig;simp[List.mem_flatMap]
theorem Qc7:∀ds:List TH,Tx ds []=ds.isEmpty
 |[]=>by simp[Tx]
 |_::_=>by simp[Tx]
theorem Qw3(b:Bool):(tw b==("same":Ta))=b:=by cases b<;>decide+kernel
theorem Qd7(tl:Tl)(i:Nat)(b:Bool)(u v:Th)(h:tl[i]?=Ga (b,u,v)):Rb (tl.take (i+1))=Rb (tl.take i)++(if b then[(u,v)]else[]):=by unfold Rb;rw[List.take_add_one,h,List.filter_append,List.map_append];cases b<;>rfl
theorem Qqk(tl:Tl):(Rb tl).length<=tl.length:=by unfold Rb;rw[List.length_map];exact List.length_filter_le _ _
section
variable{P:Gg}{w:Gs}{K:Gd}{mg:Ta->Option Value}{base:Heap}
theorem Qln(F:Wd K "_law_classes" "_law_classes" Vn f fd)(B:Blt mg):Qs P w K mg base Z4 1 f fd ["_law_told","_law_things"] (O9 P w):=by
 refine F.ok U1 (λvs H Q E h=>?_) (λcdv A outer s H vs Q E hr h=>?_)
 ·obtain⟨a,b,us,Y,tl,ts,rfl,_⟩:=h;rfl
 obtain⟨a,b,us,Y,tl,ts,rfl,ha,ag,hb,aP,ax,aw,hsz,q⟩:=h;have nd:=U1.nd;have hu:=hr.units;obtain⟨t7,aS,aT⟩:=Qqf (P:=P) (w:=w) (K:=K) (mg:=mg) (base:=base) (f:=f) (cdv:=cdv) (A:=A) (outer:=outer) (s:=s) (Hi:=H) (E:=E) B hu;refine⟨_,(Qd (Qt 2 nd (Xr Vy rfl B.list TD (Qa (pv 1) Qe)))
  (Qd (Yg Gy rfl (Xd (pv 0)) (Vr rfl (Zl (Yc 3 nd) (Zl (Yc 4 nd) (Zl (Yc 5 nd) Wb))))
  (Qh (Qt 2 nd (Zo Ul (pv 2) (Zt (Qa (pv 4) (Qa (pv 5) Qe)))))))
  (Qd (Uq (i:=6) nd rfl (Es Xb) Oc)
  (Qd (Vm Gy (Qr (Qrn hu) (pv 2) (Zt Qe) (Q3 _))
  (Qd (Qt 7 nd (Qd8 Gu DV DW Qdy (pv 2)))
  (Qh (Zn (Qr (Qda hu) (pv 7) (pv 6) rfl)
  (Qd (Qaw (Qp Qla rfl B.len GO (Qa (pv 6) Qe)) (Qcd (pv 6) (pv 7) (Qd3 hu)))
  (Qh (Qt 2 nd (Zo Ul (pv 2) (Xr Vy rfl B.list TD (Qa (Yu Rz (pv 7) (Yy Qk) Xx) Qe)))))) Q7))))
  (Qd (Qci (i:=8) (own:=["_law_deed"]) (fv:=[]) nd rfl rfl rfl (S:=(by eq_refl:Wh (Ql Vn) _)) .nil (Xd (pv 0))
   (λ_ _ _ _ _=>Xe (i:=0) (nd1 _) rfl (Di Xb) (Es Xb)) (λ_ _ _ _ _=>Qiq (Qr Wu (Qo (r:=Qxk K) Q5 (pv 0) Qk) Zf (Q3 _))) (λ_ _ _ _ _=>Yu (r:=Q2k K) Rz (pv 0) (Yy Qk) Xx))
  (Qd (Qt 9 nd (Xr (Qju Xb) rfl B.list TD (Qa (pv 6) Qe)))
  (Qd (Qt 10 nd Vi)
  (Qd aS
  (Qh (Qv (pv 6))))))))))),?_⟩
 have ay:us.length=tl.length:=Gr ag;have aY:tl.length<=3000:=by have:=Zz (tl.map (·.2.1));rw[List.length_map]at this;lia
 refine⟨_,Xb,b,Y,Xb,.inl (Zd.of hb),λl hl=>?_⟩;have s1:=Qg hl (.lst Y);let aR:Nat->St->Hp->Prop:=λi σ H1=>XE5 λ(l:Gc)(xs:List V)(x3 x4 x5:Option V)=>PA5 (σ=[Ga (.ref a),Ga (.ref b),Ga (.ref l),x3,x4,x5,Gh,Gh,Gh,Gh,Gh,Gh,Gh,Gh,Gh,Gh,Gh]) (Q4 H H1) (H l=Gh) (H1 l=Ga (.lst xs)) (Zq H1 xs (ts++Ig (tl.take i)))
 refine⟨_,Xb,a,Xb,⟨_,Zd.of (s1 _ _ ha)⟩,Xl (K:=K) (a:=a) (xs:=us) aR
  ⟨l,Y,_,_,_,Xb,s1,hl,Qb,by simp[Ig];exact aP.same s1⟩ (by rintro i σ H1 _ ⟨_,_,_,_,_,_,sm,_⟩;exact Zd.of (sm _ _ ha)) ?_ ?_⟩
 ·rintro i x σ H1 hi ⟨l,xs,x3,x4,x5,rfl,sm,hl,I,J⟩;subst_vars;obtain⟨⟨bb,u1,u2⟩,eu,a',v1,v2,rfl,ac,t1,t2⟩:=Qy ag hi;and_intros;refine⟨a',_,Xb,Z2.of (sm _ _ ac),Xb,_,_,Xb,_,_,Xb,_,_,Xb,Xb,?_⟩;refine⟨_,Xb,_,Xb,_,Xb,by show 2<=Gj;decide,λc hc=>?_⟩;have s2:=Qg hc (.lst [v1,v2]);have lx:=J.length;have b1:=Zz (ts++Ig (tl.take i));have b2:Qw (ts++Ig (tl.take i))<=3000:=by have e1:=Qax (tl.take i);have e2:=W8 (tl.map (·.2.1)) i;have e3:=W8 (tl.map (·.2.2)) i;rw[List.map_take,List.map_take]at e1;rw[Xs];lia
  refine⟨l,c,xs,[v1,v2],Xb,Xb,s2 _ _ I,Qb,small (by show xs.length+2<=_;lia),λn R=>?_⟩;have s3:=Qg R (.lst (xs++[v1,v2]));have aj:=(sm.trans s2).trans s3;refine⟨n,xs++[v1,v2],_,_,_,Xb,aj,(sm.trans s2).free R,Qb,?_⟩;have e:ts++Ig (tl.take (i+1))=(ts++Ig (tl.take i))++[u1,u2]:=by unfold Ig;rw[List.take_add_one,eu,List.flatMap_append,List.append_assoc];rfl
  rw[e];exact((J.same s2).same s3).append (.cons (t1.same aj) (.cons (t2.same aj) .nil))
 rintro σ H1 ⟨l,xs,x3,x4,x5,rfl,sm,hl,I,J⟩;rw[ay,List.take_length]at J;have aa:∀t∈ts++Ig tl,t.ok=Gf/\t.depth<=8:=λt k=>by
  rcases List.mem_append.mp k with h|h
  ·exact ax t h
  ·obtain⟨p,u,e⟩:=Qeg.mp h;rcases e with rfl|rfl
   ·exact(aw p u).1
   ·exact(aw p u).2
 have O:Qw (ts++Ig tl)<=3000:=by rw[Xs,Qax];lia
 have aq:∀t∈ts++Ig tl,t∈ts++Ig tl:=λt h=>h;generalize au:ts++Ig tl=T0 at J aa O aq;intro d hd;have ad:H d=Gh:=sm.free hd;have s2:=Qg hd (Ut P w d []);have C:l≠d:=Qc I hd;refine⟨λm σ H2=>XE6 λ(l:Gc)(xs:List V)(T S:List Th)(L:Th->Int)(x7:Option V)=>Q1g (σ=[Ga (.ref a),Ga (.ref b),Ga (.ref l),x3,x4,x5,Ga (.ref d),x7,Gh,Gh,Gh,Gh,Gh,Gh,Gh,Gh,Gh]) (Q4 H H2) (H l=Gh) (l≠d) (H2 l=Ga (.lst xs)) (Zq H2 xs T) (Num P w H2 d S L) (∀x∈S,∀y∈S,L x=L y->x=y) (∀x∈S,L x<S.length) (∀w ps,Th.mk w ps∈S->∀p∈ps,p∈S\/p∈T) (∀t∈T0,t∈S\/t∈T) (∀t∈T,t.ok=Gf/\t.depth<=8) (m=Qw T) (S.length+Qw T<=3000) (∀t∈S,t.size<=3000),
  ⟨_,l,xs,T0,[],λ_=>0,_,Xb,sm.trans s2,hl,C,s2 _ _ I,J.same s2,⟨⟨[],Qb,(λp u=>nomatch u),Xb,(λt k=>nomatch k)⟩,(λt k=>nomatch k)⟩,(λt k=>nomatch k),(λt k=>nomatch k),(λ_ _ k=>nomatch k),λt k=>.inr k,aa,Xb,by simpa using O,(λt k=>nomatch k)⟩,?_⟩
 clear I J hl C s2;rintro m σ H2 ⟨l,xs,T,S,L,x7,rfl,aC,hl,C,I,J,N,inj,low,cl,Z,ah,rfl,sz,ap⟩;have lx:=J.length;have lT:=Zz T;refine⟨_,Xb,Gw _,λz hz=>?_⟩;have s4:=Qg hz (.lst []);have aV:l≠z:=Qc I hz;have az:okL T=Gf:=by rw[Iq,List.all_eq_true];exactλt k=>(ah t k).1
 refine⟨.list (Wg T),.list [],.lst (s4 _ _ I) (J.same s4).dts,.lst Qb .nil,by simp only[Tp];exact Qgz T az,by simp[Tp,Gv],?_,_,Xb,?_⟩
 ·simp only[Dg,To];lia
 have ev:TQ (.list (Wg T)) (.list [])=T.isEmpty:=by
  simp only[TQ];rw[Qc7];cases T with
  |nil=>simp[Wg]
  |cons t r=>simp[Wg]
 rw[ev];rcases List.eq_nil_or_concat T with rfl|⟨Tr,t,eT⟩
 ·
  refine Zp ?_;have cl:∀w ps,Th.mk w ps∈S->∀p∈ps,p∈S:=λw ps h p u=>(cl w ps h p u).resolve_right (by simp);have Z:∀t∈T0,t∈S:=λt h=>(Z t h).resolve_right (by simp);have D:=aC.trans s4;have N3:=N.same s4;generalize zj H2 z (.lst [])=H3 at D N3⊢;refine⟨_,Xb,a,Xb,⟨_,Zd.of (D _ _ ha)⟩,λp u=>?_⟩;have sp:=Qg u (.lst []);have aM:H p=Gh:=D.free u;refine Qki (K:=K) (a:=a) (xs:=us) (small (by lia)) (λi ys σ H4=>(∃x0,σ=[x0])/\Q4 H3 H4/\Qac H4 ys (Rb (tl.take i))) ⟨⟨_,Xb⟩,sp,by simp[Rb];exact .nil⟩ (by rintro i ys σ H4 _ ⟨_,g,_⟩;exact Zd.of (g _ _ (D _ _ ha))) ?_ ?_
  ·rintro i x ys σ H4 hi ⟨⟨x0,rfl⟩,g,gp⟩ v;subst_vars;obtain⟨⟨bb,u1,u2⟩,eu,a',v1,v2,rfl,ac,t1,t2⟩:=Qy ag hi;and_intros;have ao:=D.trans g;have a4:=ao _ _ ac;refine⟨_,Xb,a',_,_,_,Xb,Xb,Z2.of a4,Qz (j:=0) rfl,Xb,_,Xb,?_⟩;rw[Yh,Qw3];cases bb with
   |true=>
    refine Yv ?_;refine⟨_,Xb,_,Xb,a',_,Xb,Z2.of a4,Ub _ _,λr hr=>?_⟩;rw[Qjo];have s5:=Qg hr (.tup [v1,v2]);have aO:r≠p:=λz=>by rw[z,v]at hr;cases hr
    have t6:Qu H4 (zj (zj H4 r (.tup [v1,v2])) p (.lst (ys++[.ref r]))):=(Qu.of s5).trans (Zs λxs e=>by rw[s5 _ _ v]at e;cases e);refine⟨s5 _ _ v,⟨_,Xb⟩,λc o e=>?_,?_⟩
    ·rw[Qf (Qc e u)];exact s5 _ _ (g _ _ e)
    ·rw[Qd7 tl i Gf u1 u2 eu];exact Ys (gp.Qm t6) (.cons ⟨r,v1,v2,Xb,by rw[Qf aO];exact Qb,(t1.same ao).Qm t6,(t2.same ao).Qm t6⟩ .nil)
   |false=>refine Zp ⟨v,⟨_,Xb⟩,g,?_⟩;rw[Qd7 tl i Gq u1 u2 eu];simpa using gp
  ·rintro ys σ H4 ⟨_,g,gp⟩ v;rw[ay,List.take_length]at gp;have N4:=N3.same g;obtain⟨zw,dh,lk,an⟩:=N4.names;refine⟨_,Xb,d,zw,Xb,dh,λn R=>?_⟩;have sn:=Qg R (.lst (zw.map λp=>V.ref p.2.1));have inS:∀x∈tl,x.2.1∈S/\x.2.2∈S:=λx M=>by rw[<-au]at Z;exact⟨Z _ (List.mem_append_right _ (Qeg.mpr ⟨x,M,.inl Xb⟩)),Z _ (List.mem_append_right _ (Qeg.mpr ⟨x,M,.inr Xb⟩))⟩
   refine aT tl S L d p n ys _ (Rb tl) _ _ _ _ _ _ (N4.same sn) (sn _ _ v) (gp.Qm (Qu.of sn)) Qb (an.same sn) (Gp (Qc v R)) ?_ ?_ cl ap (by lia) (by have:=Qqk tl;lia) ?_ _ _ _ ⟨Xb,_,_,_,_,_,_,_,_,Xb⟩ ?_
   ·rintro⟨x,y⟩ aQ;have h:=Qfc.mp aQ;exact⟨(inS _ h).1,(inS _ h).2,.told h⟩
   ·intro x M y hy e;rw[inj x M y hy e];exact .refl _
   ·intro x y h;exact⟨(inS _ h).1,(inS _ h).2,Qfc.mpr h⟩
   ·rintro a1 H7 ⟨L7,h6,kp,N7,T7⟩;refine⟨_,h6,q d S L7 H7 (λc o e=>?_) ad N7 T7 (λt k=>Z t (by rw[<-au];exact List.mem_append_left _ k)) inS⟩;exact kp c o (sn _ _ (g _ _ (D _ _ e))) (Qc e ad) (Qc e aM)
 ·have eT:T=Tr++[t]:=by simpa using eT
  subst eT;have aJ:(Tr++[t]).isEmpty=Gq:=by cases Tr<;>rfl
  rw[aJ];refine Yv ?_;subst_vars;obtain⟨U,x,rfl,k1,k2⟩:=Qgm J;and_intros;have af:Qw (Tr++[t])=Qw Tr+t.size:=by rw[Xs];simp[Qw]
  rw[af]at sz;have aU:=Qd4 t;obtain⟨X,ab⟩:=ah t (by simp);refine⟨λaF H'=>∃m',m'<Qw (Tr++[t])/\XE6 λ(l:Gc)(xs:List V)(T S:List Th)(L:Th->Int)(x7:Option V)=>Q1g (aF=[Ga (.ref a),Ga (.ref b),Ga (.ref l),x3,x4,x5,Ga (.ref d),x7,Gh,Gh,Gh,Gh,Gh,Gh,Gh,Gh,Gh]) (Q4 H H') (H l=Gh) (l≠d) (H' l=Ga (.lst xs)) (Zq H' xs T) (Num P w H' d S L) (∀x∈S,∀y∈S,L x=L y->x=y) (∀x∈S,L x<S.length) (∀w ps,Th.mk w ps∈S->∀p∈ps,p∈S\/p∈T) (∀t∈T0,t∈S\/t∈T) (∀t∈T,t.ok=Gf/\t.depth<=8) (m'=Qw T) (S.length+Qw T<=3000) (∀t∈S,t.size<=3000),λaF H' h=>h,?_⟩;have ae:(U++[x])[(U++[x]).length - 1]?=Ga x:=by simp
  refine⟨_,Xb,.inl ⟨Xb,_,Zd.of (s4 _ _ I)⟩,l,_,_,Xb,Xb,s4 _ _ I,ae,?_⟩;rw[List.dropLast_concat];have W:Ih l H2 (zj (zj H2 z (.lst [])) l (.lst U)):=λc o e h=>by rw[Qf h];exact s4 _ _ e
  have l5:(zj (zj H2 z (.lst [])) l (.lst U)) l=Ga (.lst U):=Qb;generalize zj (zj H2 z (.lst [])) l (.lst U)=H5 at W l5⊢;have t5:Qu H2 H5:=W.Qm I (λxs e=>by cases e);have aD:Q4 H H5:=λc o e=>W c o (aC _ _ e) (Qc e hl);have N5:Num P w H5 d S L:=N.keep (λo h=>W _ _ h (Gp C)) t5;have k1:=k1.Qm t5;have k2:=k2.Qm t5;subst_vars;obtain⟨b0,wd,G,ps,rfl,rfl,aH,av⟩:=k2.inv;and_intros;refine⟨_,Xb,_,Xb,N5.Q2u X ab k2 ⟨_,Xb,?_⟩⟩;have aB:∀t∈Tr,t.ok=Gf/\t.depth<=8:=λt k=>ah t (List.mem_append_left _ k);refine Vl (λc=>?_) (λc=>?_)
  ·have c:¬Th.mk wd ps∈S:=by simpa using c
   obtain⟨zw,dh,lk,_⟩:=N5.names;refine⟨_,Xb,d,zw,Xb,dh,_,Xb,_,Xb,N5.add (by lia) c X ab k2 λH6 aG N6=>?_⟩;have b6:Ih d H5 H6:=aG;obtain⟨o5,aK⟩:=N5.at;have ar:Qu H5 H6:=b6.Qm aK (λxs e=>by cases e);have aE:Q4 H H6:=λc o e=>b6 c o (aD _ _ e) (Qc e ad);have l6:=b6 _ _ l5 C;have ax:(Th.mk wd ps).size=Qw ps+1:=by simp only[Th.size]
   have aZ:=av.length;have aX:=Zz ps;have a0:=k1.length;have aW:=Zz Tr;refine⟨_,Xb,_,Xb,_,Xb,b0,_,Xb,Z2.of (ar _ _ aH),Ub _ _,λr aN=>?_⟩;rw[Qjo];have s7:=Qg aN (.tup G);refine⟨r,G,Xb,.inr (Z2.of Qb),λl2 aI=>?_⟩;have s8:=Qg aI (.lst G);refine⟨l,l2,U,G,Xb,Xb,s8 _ _ (s7 _ _ l6),Qb,small (by lia),λn R=>?_⟩;have s9:=Qg R (.lst (U++G));have ak:=s7.trans s8;have am:=ak.trans s9;obtain⟨o6,aL⟩:=N6.at;have aA:∀p∈ps,p.ok=Gf/\p.depth<=8:=λp u=>by
    have h1:okL ps=Gf:=by simp only[Th.ok,Tn]at X;exact X.2
    rw[Iq,List.all_eq_true]at h1;have h2:=We u;simp only[Th.depth]at ab;exact⟨h1 p u,by lia⟩
   refine⟨Qw (Tr++ps),?_,n,U++G,Tr++ps,S++[Th.mk wd ps],_,_,Xb,aE.trans am,(aE.trans ak).free R,?_,Qb,?_,N6.same am,?_,?_,?_,?_,?_,Xb,?_,?_⟩
   ·rw[af,Xs];lia
   ·exactλz=>by rw[z,ak _ _ aL]at R;cases R
   ·exact((k1.Qm ar).append (av.Qm ar)).same am
   ·intro x M y hy e;rw[List.mem_append,List.mem_singleton]at M hy;by_cases h1:x=Th.mk wd ps
    ·by_cases h2:y=Th.mk wd ps
     ·rw[h1,h2]
     ·rw[Gn h1,Gi h2]at e;have:=low y (hy.resolve_right h2);lia
    ·by_cases h2:y=Th.mk wd ps
     ·rw[Gi h1,Gn h2]at e;have:=low x (M.resolve_right h1);lia
     ·rw[Gi h1,Gi h2]at e;exact inj x (M.resolve_right h1) y (hy.resolve_right h2) e
   ·intro x M;rw[List.mem_append,List.mem_singleton]at M;rw[List.length_append,List.length_singleton];by_cases h1:x=Th.mk wd ps
    ·rw[Gn h1];lia
    ·rw[Gi h1];have:=low x (M.resolve_right h1);lia
   ·intro w' ai h p u;rcases List.mem_append.mp h with h|h
    ·rcases cl w' ai h p u with z|z
     ·exact .inl (List.mem_append_left _ z)
     ·rcases List.mem_append.mp z with z|z
      ·exact .inr (List.mem_append_left _ z)
      ·exact .inl (List.mem_append_right _ z)
    ·rw[List.mem_singleton]at h;cases h;exact .inr (List.mem_append_right _ u)
   ·intro t k;rcases Z t k with z|z
    ·exact .inl (List.mem_append_left _ z)
    ·rcases List.mem_append.mp z with z|z
     ·exact .inr (List.mem_append_left _ z)
     ·exact .inl (List.mem_append_right _ z)
   ·intro t k;rcases List.mem_append.mp k with z|z
    ·exact aB t z
    ·exact aA t z
   ·rw[Xs,List.length_append,List.length_singleton];lia
   ·intro t k;rcases List.mem_append.mp k with z|z
    ·exact ap t z
    ·rw[List.mem_singleton]at z;rw[z];lia
  ·have c:Th.mk wd ps∈S:=by simpa using c
   refine⟨Qw Tr,by rw[af];lia,l,U,Tr,S,L,_,Xb,aD,hl,C,l5,k1,N5,inj,low,λw' ai h p u=>?_,λt k=>?_,aB,Xb,by lia,ap⟩
   ·rcases cl w' ai h p u with z|z
    ·exact .inl z
    ·rcases List.mem_append.mp z with z|z
     ·exact .inr z
     ·rw[List.mem_singleton]at z;rw[z];exact .inl c
   ·rcases Z t k with z|z
    ·exact .inl z
    ·rcases List.mem_append.mp z with z|z
     ·exact .inr z
     ·rw[List.mem_singleton]at z;rw[z];exact .inl c
end
theorem Qex{β:Type}{F:α->β->Prop}{xs:List α}{st:List β}{p:β}(h:Paired F xs (st++[p])):∃a x,xs=a++[x]/\Paired F a st/\F x p:=by
 induction st generalizing xs with
 |nil=>
  cases h with
  |cons h1 h2=>cases h2;exact⟨[],_,Xb,.nil,h1⟩
 |cons y r b=>
  cases h with
  |cons h1 h2=>obtain⟨a,x,e,c,d⟩:=b h2;exact⟨_::a,x,by rw[e];rfl,.cons h1 c,d⟩
theorem Q2z(i:Int)(b:0<=i)(h1:i<26):∃c:Nat,atI (("abcdefghijklmnopqrstuvwxyz":Ta).cps.toList) i=Ga c/\c<0x110000:=by
 have hl:(("abcdefghijklmnopqrstuvwxyz":Ta).cps.toList).length=26:=by decide+kernel
 have a:∀c∈(("abcdefghijklmnopqrstuvwxyz":Ta).cps.toList),c<0x110000:=by decide+kernel
 have hi:i.toNat<(("abcdefghijklmnopqrstuvwxyz":Ta).cps.toList).length:=by rw[hl];lia
 have e:i=((i.toNat:Nat):Int):=by lia
 have q:=Qz (List.getElem?_eq_getElem hi);rw[<-e]at q;exact⟨_,q,a _ (List.getElem_mem hi)⟩
theorem Qlh{c:Nat}{x:Ta}(hc:c<0x110000)(h:TU x=Gf):TU ((⟨#[c]⟩:Ta)++x)=Gf:=by show((#[c]++x.cps).all (·<0x110000))=Gf;have h':x.cps.all (·<0x110000)=Gf:=h;rw[Array.all_append,h'];simp[hc]
theorem Qqz{c:Nat}{x:Ta}:((⟨#[c]⟩:Ta)++x).length=x.length+1:=by show(#[c]++x.cps).size=x.cps.size+1;simp;lia
theorem Qqh{l:Int}(h1:1<=l)(h:l*2^k<=10^39):k<130:=by
 rcases Tk k 130 with h'|h'
 ·exact h'
 ·exfalso;have e:(2:Int)^130<=2^k:=by
   have:(2:Nat)^130<=2^k:=Nat.pow_le_pow_right (by decide) h'
   exact_mod_cast this
  have b:(2:Int)^k<=l*2^k:=by have a:(0:Int)<=2^k:=Ni (NE (by decide));have:=EV h1 a;simpa using this
  have c:(10:Int)^39<2^130:=by decide
  lia
theorem Qlc{l:Int}(h1:1<=l / 26 - 1)(h:l*2^k<=10^39):(l / 26 - 1)*2^(k+1)<=10^39:=by
 have a:(0:Int)<2^k:=NE (by decide);have e:(l / 26 - 1)*2^(k+1)=((l / 26 - 1)*2)*2^k:=by rw[Int.pow_succ];ac_rfl
 rw[e];have:(l / 26 - 1)*2<=l:=by lia
 have:=EV this (Ni a);lia
section
variable{P:Gg}{w:Gs}{K:Gd}{mg:Ta->Option Value}{base:Heap}
theorem Qd5:Qx ["_law_cell","_law_left","_law_word"] ["_law_cell"] (Ql Qez):=by eq_refl
theorem Qxu(F:Wd K "_law_any_word" "_law_any_word" Qez f fd)(u:mg "abs"=Gh):Qs P w K mg base Z4 1 f fd ["_law_cell"] Qu8:=by
 refine F.ok Qd5 (λvs H Q E h=>?_) (λcdv A outer s H vs Q E D h=>?_)
 ·obtain⟨n,rfl,_⟩:=h;rfl
 obtain⟨n,rfl,q⟩:=h;show∃t,Z7 ?mysWord _ t/\_;let B:Subtype (Z7 ?mysWord ((Qj Qez).drop 3)):=⟨_,Qh (Qv (pv 2))⟩
 let y:Subtype (Z7 ?mysWord ((Qj Qez).drop 2)):=⟨_,Qd (Vm Gy (Qr Q10 (pv 1) Qk (Q3 _))
   (Qd (Uq (i:=2) Qd5.nd rfl (Di Xb) (Zo Qk4 (Qo Qre Zf (Zo Xz (pv 1) Qk)) (pv 2)))
   (Qh (Uq (i:=1) Qd5.nd rfl (Di Xb) (Zo Qc0 (Zo Wa (pv 1) Qk) Qk))))) B.2⟩
 let v:Subtype (Z7 ?mysWord ((Qj Qez).drop 1)):=⟨_,Qd (Uq (i:=2) Qd5.nd rfl (Di Xb) Zf) y.2⟩
 refine⟨_,Qd (Uq (i:=1) Qd5.nd rfl (Di Xb) (Zo Xz (Qp Qu4 rfl u Nk (Qa (pv 0) Qe)) (Zo Qts Qk Qk))) v.2,?_⟩;refine⟨_,Xb,n,Xb,_,_,Xb,Xb,⟨by decide,by decide,by decide⟩,_,_,Xb,Xb,(by show(0:Int)<10^DF 39;decide),?_⟩;have L0:0<=(if n<0 then -n else n) % (10:Int)^(DF 39):=TV _ (by decide);have p:(if n<0 then -n else n) % (10:Int)^(DF 39)<10^39:=Tz _ (by decide);refine⟨λm σ H2=>XE2 λ(l:Int)(x:Ta)=>PA8 (σ=[Ga (.int n),Ga (.int l),Ga (.str x)]) (H2=H) (-1<=l) (m=(l+1).toNat) (TU x=Gf) (1<=l->l*2^x.length<=10^39) (0<=l->x.length<=131) (x.length<=132),
  ⟨_,(if n<0 then -n else n) % (10:Int)^(DF 39),"",Xb,Xb,Int.le_trans (by decide) L0,Xb,by decide+kernel,λ_=>?_,λ_=>by decide+kernel,by decide+kernel⟩,?_⟩
 ·have:(("":Ta).length)=0:=by decide+kernel
  rw[this];generalize (if n<0 then -n else n) % (10:Int)^(DF 39)=L at p⊢;omega
 rintro m σ H2 ⟨l,x,rfl,rfl,h1,rfl,h2,j,o,C⟩;refine⟨_,Xb,_,_,Xb,Xb,_,Xb,?_⟩;refine Vl (λc=>?_) (λc=>?_)
 ·have g:0<=l:=TJ c;refine⟨λd H'=>XE1 λb=>PA4 (d=[Ga (.int n),Ga (.int (l / 26 - 1)),Ga (.str b)]) (H'=H2) (TU b=Gf) (b.length=x.length+1),?_,?_⟩
  ·rintro d H' ⟨b,rfl,rfl,e,a⟩;refine⟨_,?_,l / 26 - 1,b,Xb,Xb,by omega,Xb,e,λz=>?_,λz=>?_,?_⟩
   ·omega
   ·rw[a];exact Qlc z (j (by omega))
   ·rw[a];have:=Qqh (k:=x.length) (l:=l) (by omega) (j (by omega));omega
   ·rw[a];have:=o g;omega
  ·obtain⟨ch,e,a⟩:=Q2z (l % 26) (TV _ (by decide)) (Tz _ (by decide));refine⟨_,Xb,_,_,Xb,Xb,(by show(0:Int)<26;decide),_,_,ch,Xb,Xb,by decide+kernel,e,_,Xb,_,_,Xb,Xb,?_,?_⟩
   ·have r:((⟨#[ch]⟩:Ta).length)=1:=rfl;have:=o g;rw[GQ,r];omega
   ·refine⟨_,Xb,_,_,Xb,Xb,⟨by decide,by decide⟩,_,_,Xb,Xb,?_⟩;exact⟨_,Xb,Xb,Qlh a h2,Qqz⟩
 ·exact⟨_,Xb,q x (by unfold Rf;rw[h2,GX (by omega)];rfl)⟩
end
def Prs(H0 H:Hp):List V->List TH->Prop:=Paired λx d=>∃a y z,x=.ref a/\H a=Ga (.tup [y,z])/\Dt H0 y d/\Dt H0 z d
theorem Prs.Qm(e:Qu H H')(h:Prs H0 H xs ds):Prs H0 H' xs ds:=
 L2.Paired.Ya h (by rintro x d ⟨a,y,z,h1,h2,b,c⟩;exact⟨a,y,z,h1,e _ _ h2,b,c⟩)
def prD(d:TH):TH:=.tuple [d,d]
theorem Prs.dts(g:Q4 H0 H)(h:Prs H0 H xs ds):Rh H xs (ds.map prD):=by
 unfold Prs at h;induction h with
 |nil=>exact .nil
 |cons h r f=>obtain⟨a,y,z,b,c,d,e⟩:=h;subst b;exact .cons (.tup c (.cons (d.same g) (.cons (e.same g) .nil))) f
theorem Qte:∀(ds:List TH),Gv ds=Gf->Gv (ds.map prD)=Gf
 |[],_=>by simp[Gv]
 |d::r,h=>by simp only[Gv,Tn]at h;have h2:=Qte r h.2;simp[prD,Gv,Tp,h.1,h2]
theorem Rm:∀(xs ys:List TH),Gv (xs++ys)=(Gv xs&&Gv ys)
 |[],ys=>by simp[Gv]
 |x::r,ys=>by simp[Gv,Rm r ys,Bool.and_assoc]
theorem Qe5:∀{xs:List TH}{d:TH},d∈xs->d.depth<=To xs
 |x::r,d,h=>by
  simp only[To];rcases List.mem_cons.mp h with rfl|h
  ·lia
  ·have:=Qe5 h;lia
theorem Qbn:∀(xs:List TH)(n:Nat),Zm (xs.take n)<=Zm xs
 |[],_=>by simp[Zm]
 |x::r,0=>by simp[Zm]
 |x::r,n+1=>by have:=Qbn r n;simp only[List.take_succ_cons,Zm];lia
def TT(b:Bool):String:=if b then"list"else"tuple"
theorem Qzn(b:Bool):DT K (.type (TT b)) [.type "list",.type "tuple"]=Ga Gf:=by
 cases b
 ·exact Qzp
 ·exact Q0w
theorem Q1x(b:Bool):Tf K (.type (TT b)) (.type "list")=Ga b:=by
 cases b
 ·exact Qrj
 ·exact Qsx
theorem Q2s(b:Bool):Tf K (.type (TT b)) (.type "tuple")=Ga (!b):=by
 cases b
 ·exact Qrs
 ·exact Q0g
def Qeo(b:Bool)(ds:List TH):TH:=if b then .list ds else .tuple ds
theorem Qth{b:Bool}(h:Dt H v (Qeo b ds)):∃p xs,v=.ref p/\(Zd K H p xs\/Z2 K H p xs)/\Rh H xs ds:=by
 cases b with
 |true=>
  have h:Dt H v (.list ds):=h;cases h with
  |lst e t=>exact⟨_,_,Xb,.inl (Zd.of e),t⟩
 |false=>
  have h:Dt H v (.tuple ds):=h;cases h with
  |tup e t=>exact⟨_,_,Xb,.inr (Z2.of e),t⟩
theorem Qyi{b:Bool}(h:Dt H v (Qeo b ds)):I9 K H v (.type (TT b)):=by
 cases b with
 |true=>
  have h:Dt H v (.list ds):=h;cases h with
  |lst e t=>exact .lst e
 |false=>
  have h:Dt H v (.tuple ds):=h;cases h with
  |tup e t=>exact .tup e
theorem Qpw(b:Bool)(is:List TH):W0 (Qeo b is)=Zm is+1:=by cases b<;>simp[Qeo,W0]
theorem Qxm(b:Bool)(is:List TH):(Qeo b is).canLay0=Gv is:=by cases b<;>simp[Qeo,Tp]
theorem Qpm(b:Bool)(is:List TH):(Qeo b is).depth=To is+1:=by cases b<;>simp[Qeo,Dg]
theorem Q15(d:TH)(h:d.canLay0=Gf):(∃b is,d=Qeo b is)\/d=.none\/(∃b,d=.bool b)\/(∃i,d=.int i)\/∃x,d=.str x:=by
 cases d with
 |none=>exact .inr (.inl Xb)
 |bool b=>exact .inr (.inr (.inl ⟨b,Xb⟩))
 |int i=>exact .inr (.inr (.inr (.inl ⟨i,Xb⟩)))
 |str x=>exact .inr (.inr (.inr (.inr ⟨x,Xb⟩)))
 |list is=>exact .inl ⟨Gf,is,Xb⟩
 |tuple is=>exact .inl ⟨Gq,is,Xb⟩
 |dict zw=>simp[Tp]at h
theorem O0(g:Q4 H H')(h:Zd K H p xs\/Z2 K H p xs):Zd K H' p xs\/Z2 K H' p xs:=by
 rcases h with h|h
 ·exact .inl (g.seq h)
 ·refine .inr ?_;rcases h with(h|⟨o,h⟩)|h
  ·exact .inl (.inl (g _ _ h))
  ·exact .inl (.inr ⟨o,g _ _ h⟩)
  ·exact .inr h
theorem Qy3{i:Int}{Q:VK}(h:Zd K H p xs\/Z2 K H p xs)(e:atI xs i=Ga v)(q:Q v H):rIx K (.ref p) (.int i) H Q:=by
 rcases h with h|h
 ·exact .inl ⟨p,xs,i,v,Xb,Xb,h,e,q⟩
 ·exact .inr (.inl ⟨p,xs,i,v,Xb,Xb,h,e,q⟩)
section
variable{P:Gg}{w:Gs}{K:Gd}{mg:Ta->Option Value}{base:Heap}
theorem Qss:Qx ["_law_found","_law_due","_law_todo","_law_one","_law_other","_law_k"] ["_law_found","_law_due"] (Ql sSo):=by eq_refl
theorem Q3s(F:Wd K "_law_so" "_law_so" sSo f fd)(B:Blt mg):Qs P w K mg base Z4 1 f fd ["_law_found","_law_due"] Q2a:=by
 refine F.ok Qss (λvs H Q E h=>?_) (λcdv A outer s H vs Q E hr h=>?_)
 ·obtain⟨x,y,d,rfl,_⟩:=h;rfl
 obtain⟨x,y,d,rfl,hx,hy,ai,aq,an,q⟩:=h;have hu:=hr.units;show∃t,Z7 ?mysSo _ t/\_;let w3:Subtype (Z7 ?mysSo ((Qj sSo).drop 2)):=⟨_,Qh (Qv Vi)⟩
 let w2:Subtype (Z7 ?mysSo ((Qj sSo).drop 1)):=⟨_,Qd (Vm Gy (Qr (Qrn hu) (pv 2) (Zt Qe) (Q3 _))
   (Qd (Qaw (Qd8 Gu DV DW Qdy (pv 2)) (Vr rfl (Zl (Xe (i:=3) Qss.nd rfl (Di Xb)) (Zl (Xe (i:=4) Qss.nd rfl (Di Xb)) Wb))))
   (Qh (Zn (Xy (Qp Qqc rfl B.isinstance Tb (Qa (pv 4) (Qa (Zb (Qa (Xt (v:=.ty "list") rfl B.list TD Xb) (Qa (Xt (v:=.ty "tuple") rfl B.tuple TX Xb) Qe))) Qe))))
    (Qd (Zn (Qr Ic (Qp Xp rfl B.isinstance Tb (Qa (pv 3) (Qa (Xt (v:=.ty "list") rfl B.list TD Xb) Qe))) (Qp Xp rfl B.isinstance Tb (Qa (pv 4) (Qa (Xt (v:=.ty "list") rfl B.list TD Xb) Qe))) (Q3 _)) (Qh (Qv Vi)) Q7)
    (Qd (Zn (Qr Ic (Qp Xp rfl B.isinstance Tb (Qa (pv 3) (Qa (Xt (v:=.ty "tuple") rfl B.tuple TX Xb) Qe))) (Qp Xp rfl B.isinstance Tb (Qa (pv 4) (Qa (Xt (v:=.ty "tuple") rfl B.tuple TX Xb) Qe))) (Q3 _)) (Qh (Qv Vi)) Q7)
    (Qd (Zn (Qr Ic (Qp Zc rfl B.len GO (Qa (pv 3) Qe)) (Qp Zc rfl B.len GO (Qa (pv 4) Qe)) (Q3 _)) (Qh (Qv Vi)) Q7)
    (Qh (Yg Gy rfl (Us rfl B.range (Qa (Qp Zc rfl B.len GO (Qa (pv 4) Qe)) Qe)) (Xe (i:=5) Qss.nd rfl (Di Xb))
     (Qh (Ze (Xw Gu GF GV Z0 (pv 2) (Qa (Zb (Qa (Qo Qug (pv 3) (pv 5)) (Qa (Qo Qug (pv 4) (pv 5)) Qe))) Qe)))))))))
    (Qh (Zn (Xy (Qp Xp rfl B.isinstance Tb (Qa (pv 4) (Qa (Xt (v:=.ty "str") rfl B.str Lf Xb) Qe))))
     (Qh (Zn (PW.pt (Ov (Ri (Xy (Qp Xp rfl B.isinstance Tb (Qa (pv 3) (Qa (Xt (v:=.ty "str") rfl B.str Lf Xb) Qe))))) (R1 (Qr Ic (pv 3) (pv 4) (Q3 _))))) (Qh (Qv Vi)) Q7))
     (Qh (Zn (Xy (Qp Xp rfl B.isinstance Tb (Qa (pv 4) (Qa (Xt (v:=.ty "bool") rfl B.bool EM Xb) Qe))))
      (Qh (Zn (PW.pt (Ov (Ri (Xy (Qp Xp rfl B.isinstance Tb (Qa (pv 3) (Qa (Xt (v:=.ty "bool") rfl B.bool EM Xb) Qe))))) (R1 (Qr Ic (pv 3) (pv 4) (Q3 _))))) (Qh (Qv Vi)) Q7))
      (Qh (Zn (R0 (Q0f (pv 4)))
       (Qh (Zn (R0 (Qn3 (pv 3))) (Qh (Qv Vi)) Q7))
       (Qh (Zn (PW.pt (Ov (Ri (Xy (Qp Xp rfl B.isinstance Tb (Qa (pv 3) (Qa (Xt (v:=.ty "int") rfl B.int Nl Xb) Qe))))) (Ov (Xy (Qp Xp rfl B.isinstance Tb (Qa (pv 3) (Qa (Xt (v:=.ty "bool") rfl B.bool EM Xb) Qe)))) (R1 (Qr Ic (pv 3) (pv 4) (Q3 _)))))) (Qh (Qv Vi)) Q7)))))))))))) w3.2⟩
 refine⟨_,Qd (Uq (i:=2) Qss.nd rfl (Di Xb) (Zt (Qa (Zb (Qa (pv 0) (Qa (pv 1) Qe))) Qe))) w2.2,?_⟩;refine⟨_,Xb,_,Xb,by show 2<=Gj;decide,λe he=>?_⟩;have s1:=Qg he (.tup [x,y]);refine⟨by show 1<=Gj;decide,λl hl=>?_⟩;have s2:=Qg hl (.lst [.ref e]);refine⟨λm σ H2=>XE5 λ(xs:List V)(ds:List TH)(Y Z r:Option V)=>PA8 (σ=[Ga x,Ga y,Ga (.ref l),Y,Z,r]) (Q4 H H2) (H2 l=Ga (.lst xs)) (Prs H H2 xs ds) (m=Zm ds) (Gv ds=Gf) (∀d∈ds,d.depth<=60) (Zm ds<=1000000),
  ⟨_,[.ref e],[d],Gh,Gh,Gh,Xb,s1.trans s2,Qb,.cons ⟨e,x,y,Xb,s2 _ _ Qb,hx,hy⟩ .nil,Xb,by simp[Gv,ai],?_,by simp[Zm];exact aq⟩,?_⟩
 ·intro d' ag;rw[List.mem_singleton]at ag;subst ag;exact an
 have af:H l=Gh:=s1.free hl;rintro m σ H2 ⟨xs,ds,Y,Z,r,rfl,g,g1,g2,rfl,g3,g4,g5⟩;have ay:xs.length=ds.length:=Gr g2;refine⟨_,Xb,Gw _,λz hz=>?_⟩;have s4:=Qg hz (.lst []);have aw:l≠z:=Qc g1 hz;refine⟨.list (ds.map prD),.list [],.lst (s4 _ _ g1) ((g2.Qm (Qu.of s4)).dts (g.trans s4)),.lst Qb .nil,by simp only[Tp];exact Qte ds g3,by simp[Tp,Gv],?_,_,Xb,?_⟩
 ·simp only[Dg,To];omega
 have ev:TQ (.list (ds.map prD)) (.list [])=ds.isEmpty:=by simp only[TQ];rw[Qc7];cases ds<;>rfl
 rw[ev];rcases List.eq_nil_or_concat ds with rfl|⟨j,D,O⟩
 ·refine Zp ?_;exact q _ (g.trans s4)
 ·have O:ds=j++[D]:=by simpa using O
  subst O;have ar:(j++[D]).isEmpty=Gq:=by cases j<;>rfl
  rw[ar];refine Yv ?_;subst_vars;obtain⟨p,xl,ex,k1,⟨a,u,v,ea,e2,e3,e4⟩⟩:=Qex g2;and_intros;subst ex ea;have T:Zm (j++[D])=Zm j+W0 D:=by rw[X0];simp[Zm]
  rw[T]at g5;have av:=Qfy D;rw[Rm]at g3;simp only[Gv,Tn,MK]at g3;obtain⟨ad,R⟩:=g3;have ae:∀d∈j,d.depth<=60:=λd hd=>g4 d (List.mem_append_left _ hd);have am:D.depth<=60:=g4 D (by simp);have S:(p++[V.ref a])[(p++[V.ref a]).length - 1]?=Ga (.ref a):=by simp
  have t5:Qu H2 (zj (zj H2 z (.lst [])) l (.lst p)):=(Qu.of s4).trans (Zs λxs e=>by rw[s4 _ _ g1]at e;cases e);have L:Q4 H (zj (zj H2 z (.lst [])) l (.lst p)):=λc o e=>by rw[Qf (Qc e af)];exact s4 _ _ (g _ _ e)
  have l5:(zj (zj H2 z (.lst [])) l (.lst p)) l=Ga (.lst p):=Qb;have k1:Prs H H2 p j:=k1;have p5:Prs H (zj (zj H2 z (.lst [])) l (.lst p)) p j:=k1.Qm t5;refine⟨λC H'=>∃m',m'<Zm (j++[D])/\XE5 λ(xs:List V)(ds:List TH)(Y Z r:Option V)=>PA8 (C=[Ga x,Ga y,Ga (.ref l),Y,Z,r]) (Q4 H H') (H' l=Ga (.lst xs)) (Prs H H' xs ds) (m'=Zm ds) (Gv ds=Gf) (∀d∈ds,d.depth<=60) (Zm ds<=1000000),λC H' h=>h,?_⟩;refine⟨_,Xb,.inl ⟨Xb,_,Zd.of (s4 _ _ g1)⟩,l,_,_,Xb,Xb,s4 _ _ g1,S,a,_,Xb,Z2.of (by rw[List.dropLast_concat];exact t5 _ _ e2),Xb,u,_,Xb,v,_,Xb,Xb,?_⟩;rw[List.dropLast_concat];generalize zj (zj H2 z (.lst [])) l (.lst p)=H5 at*;have fin:∀{C:St}{H':Hp}{r:Option V},C=[Ga x,Ga y,Ga (.ref l),Ga u,Ga v,r]->Q4 H5 H'->∃m',m'<Zm (j++[D])/\XE5 λ(xs:List V)(ds:List TH)(Y Z r:Option V)=>PA8 (C=[Ga x,Ga y,Ga (.ref l),Y,Z,r]) (Q4 H H') (H' l=Ga (.lst xs)) (Prs H H' xs ds) (m'=Zm ds) (Gv ds=Gf) (∀d∈ds,d.depth<=60) (Zm ds<=1000000):=λ{C H' r}e gs=>⟨Zm j,by rw[T];omega,p,j,_,_,_,e,L.trans gs,gs _ _ l5,p5.Qm (Qu.of gs),Xb,ad,ae,by omega⟩
  have dv:Dt H5 v D:=e4.same L;have du:Dt H5 u D:=e3.same L;refine⟨_,Xb,by show 2<=Gj;decide,λc hc=>?_⟩;have J:=Qg hc (.tup [.ty "list",.ty "tuple"]);rcases Q15 D R with⟨b,is,rfl⟩|rfl|⟨bb,rfl⟩|⟨i,rfl⟩|⟨xx,rfl⟩
  ·subst_vars;obtain⟨pu,us,rfl,ak,ab⟩:=Qth (K:=K) e3;obtain⟨pw,G,rfl,U,ac⟩:=Qth (K:=K) e4;and_intros;have tu:=Qyi (K:=K) (du.same J);have tv:=Qyi (K:=K) (dv.same J);have lu:=ab.length;have lw:=ac.length;have al:W0 (Qeo b is)=Zm is+1:=Qpw b is;have ax:=Um is;have Q1a:Gv is=Gf:=by rw[Qxm]at R;exact R
   have aa:∀d∈is,d.depth<=60:=λd hd=>by have h1:=Qe5 hd;rw[Qpm]at am;omega
   refine⟨_,c,_,_,TT b,Gf,Xb,Qb,tv,Qzn b,Gf,Xb,Yv ?_⟩;refine⟨_,Xb,_,_,_,b,Xb,tu,Q1x b,_,Xb,_,_,_,b,Xb,tv,Q1x b,Xb,_,Xb,Qfz rfl ?_⟩;refine⟨_,Xb,_,_,_,!b,Xb,tu,Q2s b,_,Xb,_,_,_,!b,Xb,tv,Q2s b,Xb,_,Xb,Qfz rfl ?_⟩;have M:=L.trans J;refine⟨_,Xb,pu,us,Xb,O0 M ak,_,Xb,pw,G,Xb,O0 M U,Xb,_,Xb,Qfz (by rw[lu,lw]) ?_⟩;have aj:((G.length:Int)).toNat=G.length:=by simp
   let au:Nat->St->Hp->Prop:=λk σ N=>XE2 λ(r:Option V)(I:List V)=>PA4 (σ=[Ga x,Ga y,Ga (.ref l),Ga (.ref pu),Ga (.ref pw),r]) (Q4 H N) (N l=Ga (.lst (p++I))) (Prs H N (p++I) (j++is.take k))
   refine⟨_,Xb,pw,G,Xb,O0 M U,_,Xb,by omega,by omega,Uz (lo:=0) (n:=((G.length:Int)).toNat) au
    ⟨_,[],Xb,M,by rw[List.append_nil];exact J _ _ l5,by rw[List.append_nil,List.take_zero,List.append_nil];exact p5.Qm (Qu.of J)⟩ ?_ ?_⟩
   ·rintro k σ N hk ⟨r,I,rfl,g7,X,g9⟩;rw[aj]at hk;have ao:k<us.length:=by omega
    have eu:us[k]?=Ga us[k]:=List.getElem?_eq_getElem ao;have ew:G[k]?=Ga G[k]:=List.getElem?_eq_getElem hk;subst_vars;obtain⟨d1,f1,f2⟩:=ab.get eu;obtain⟨d2,f3,f4⟩:=ac.get ew;and_intros;rw[f1]at f3;cases f3;have lg:(p++I).length=(j++is.take k).length:=Gr g9;have ln:=Um (j++is.take k);rw[X0]at ln;have lt:=Qbn is k;refine⟨_,Xb,.inl ⟨Xb,_,Zd.of X⟩,_,Xb,_,Xb,Qy3 (O0 g7 ak) (by rw[EA];exact Qz eu) ?_⟩;refine⟨_,Xb,_,Xb,Qy3 (O0 g7 U) (by rw[EA];exact Qz ew) ?_⟩;refine⟨by show 2<=Gj;decide,λW ah=>?_⟩;have s8:=Qg ah (.tup [us[k],G[k]]);have ap:l≠W:=Qc X ah;refine⟨l,p++I,.ref W,Xb,Xb,s8 _ _ X,by rw[GQ];omega,?_⟩;have t8:Qu N (zj (zj N W (.tup [us[k],G[k]])) l (.lst (p++I++[.ref W]))):=(Qu.of s8).trans (Zs λxs e=>by rw[s8 _ _ X]at e;cases e);refine⟨_,I++[.ref W],Xb,λb o e=>?_,by rw[Qb,List.append_assoc],?_⟩
    ·rw[Qf (Qc e af)];exact s8 _ _ (g7 _ _ e)
    ·rw[List.take_add_one,f1,<-List.append_assoc,<-List.append_assoc];refine DI (g9.Qm t8) ⟨W,us[k],G[k],Xb,?_,f2,f4⟩;rw[Qf (Gp ap)];exact Qb
   ·rintro σ N ⟨r,I,rfl,g7,X,g9⟩;rw[aj,lw,List.take_length]at g9;refine⟨Zm (j++is),?_,p++I,j++is,_,_,_,Xb,g7,X,g9,Xb,?_,?_,?_⟩
    ·rw[T,X0,al];omega
    ·rw[Rm,ad,Q1a];rfl
    ·intro d hd;rcases List.mem_append.mp hd with hd|hd
     ·exact ae d hd
     ·exact aa d hd
    ·rw[X0];rw[al]at g5;omega
  ·cases dv;cases du;refine⟨_,c,_,_,_,Gq,Xb,Qb,.non,Qb3 Q02 Qz4,Gq,Xb,Zp ?_⟩;refine⟨_,Xb,_,_,_,Gq,Xb,.non,Q08,Gq,Xb,Zp ?_⟩;refine⟨_,Xb,_,_,_,Gq,Xb,.non,Qz3,Gq,Xb,Zp ?_⟩;refine⟨_,Xb,_,Xb,Yv ?_⟩;refine⟨_,Xb,_,Xb,Zp ?_⟩;exact fin rfl J
  ·cases dv;cases du;refine⟨_,c,_,_,_,Gq,Xb,Qb,.bl _,Qb3 Q0c Q01,Gq,Xb,Zp ?_⟩;refine⟨_,Xb,_,_,_,Gq,Xb,.bl _,Q1f,Gq,Xb,Zp ?_⟩;refine⟨_,Xb,_,_,_,Gf,Xb,.bl _,Qst,Gf,Xb,Yv ?_⟩;refine⟨_,Xb,_,_,_,Gf,Xb,.bl _,Qst,Gf,Xb,Zp ?_⟩;refine⟨_,Xb,_,Xb,Xb,_,Xb,Qfz rfl ?_⟩;exact fin rfl J
  ·cases dv;cases du;refine⟨_,c,_,_,_,Gq,Xb,Qb,.int _,Qb3 Qz9 Qrg,Gq,Xb,Zp ?_⟩;refine⟨_,Xb,_,_,_,Gq,Xb,.int _,Qzm,Gq,Xb,Zp ?_⟩;refine⟨_,Xb,_,_,_,Gq,Xb,.int _,Qrh,Gq,Xb,Zp ?_⟩;refine⟨_,Xb,_,Xb,Zp ?_⟩;refine⟨_,Xb,_,_,_,Gf,Xb,.int _,Q1c,Gf,Xb,Zp ?_⟩;refine⟨_,Xb,_,_,_,Gq,Xb,.int _,Qrh,Gq,Xb,Zp ?_⟩;refine⟨_,Xb,_,Xb,Xb,_,Xb,Qfz rfl ?_⟩;exact fin rfl J
  ·cases dv;cases du;refine⟨_,c,_,_,_,Gq,Xb,Qb,.str _,Qb3 Q07 Qud,Gq,Xb,Zp ?_⟩;refine⟨_,Xb,_,_,_,Gf,Xb,.str _,Qrl,Gf,Xb,Yv ?_⟩;refine⟨_,Xb,_,_,_,Gf,Xb,.str _,Qrl,Gf,Xb,Zp ?_⟩;refine⟨_,Xb,_,Xb,Xb,_,Xb,Qfz rfl ?_⟩;exact fin rfl J
end
theorem Jp{vs:List V}{ps:List Th}(a:H p=Gh)(h:Zq H vs ps):Yl (zj H p (.tup (.str w::vs))) (.ref p) (.mk w ps):=.mk Qb (h.same (Qg a _))
structure Qa2(t u:Th)(r:Th):Prop where
 ok:t.ok=Gf->u.ok=Gf->r.ok=Gf
 dep:r.depth<=max t.depth u.depth+1
 siz:r.size<=t.size+u.size+2
 sh:t.short=Gf->u.short=Gf->r.short=Gf
 pts:∀p∈r.parts,p=t\/p=u\/p=.mk "tab" []
theorem Qyo(hw:Rf w=Gf):Qa2 t u (.mk w [t]):=⟨λa _=>by simp[Th.ok,okL,Rf.str hw,a],by simp only[Th.depth,Wf];lia,by simp only[Th.size,Qw];lia,λa _=>by simp[Th.short,Qag,Rf.len hw,a],λp b=>by simp only[Th.parts,List.mem_cons,List.not_mem_nil,Ee]at b;exact .inl b⟩
theorem Qu9(hw:Rf w=Gf):Qa2 t u (.mk w [t,u]):=⟨λa b=>by simp[Th.ok,okL,Rf.str hw,a,b],by simp only[Th.depth,Wf];lia,by simp only[Th.size,Qw];lia,λa b=>by simp[Th.short,Qag,Rf.len hw,a,b],λp c=>by simp only[Th.parts,List.mem_cons,List.not_mem_nil,Ee]at c;exact c.elim .inl (λh=>.inr (.inl h))⟩
theorem Q3n(hw:Rf w=Gf)(d:Rf "tab"=Gf):Qa2 t u (.mk w [t,u,.mk "tab" []]):=⟨λa b=>by simp[Th.ok,okL,Rf.str hw,Rf.str d,a,b],by have:=Qay t;simp only[Th.depth,Wf];lia,by simp only[Th.size,Qw];lia,λa b=>by simp[Th.short,Qag,Rf.len hw,Rf.len d,a,b],λp c=>by simp only[Th.parts,List.mem_cons,List.not_mem_nil,Ee]at c;exact c⟩
theorem Qy5(hw:Rf w=Gf):Qa2 t u (.mk w []):=⟨λa b=>by simp[Th.ok,okL,Rf.str hw],by simp only[Th.depth,Wf];omega,by simp only[Th.size,Qw];omega,λa b=>by simp[Th.short,Qag,Rf.len hw],λp c=>by simp[Th.parts]at c⟩
inductive Q09(H:Hp)(l:Gc)(t u:Th):Prop
 |mk (vs:List V) (h0:H l=Ga (.lst vs)) (h1:vs.length=4) (h2:∀v∈vs,∃r,Yl H v r/\Qa2 t u r):Q09 H l t u
theorem Qdm{r:Th}(D:Drawn ts m)(c:ts[a]?=Ga t)(hb:ts[b]?=Ga u)(i:b<5)(R:Qa2 t u r):Drawn (ts++[r]) (m+1):=by
 have o:a<ts.length:=(List.getElem?_eq_some_iff.mp c).1;have q:b<ts.length:=(List.getElem?_eq_some_iff.mp hb).1;have hl:=D.len;have cases:∀(j:Nat)s,(ts++[r])[j]?=Ga s->ts[j]?=Ga s\/(j=ts.length/\s=r):=λj s e=>by
  rcases Tk j ts.length with h|h
  ·left;rw[List.getElem?_append_left h]at e;exact e
  ·right;rw[List.getElem?_append_right h]at e;have d:j - ts.length=0:=by have:=(List.getElem?_eq_some_iff.mp e).1;simp at this;lia
   rw[d]at e;simp at e;exact⟨by lia,e.symm⟩
 have k:=D.dep a t c;have l:=D.dep b u hb;have n:=R.dep;have v:=D.any a t c;have w:=D.tri b u hb (by lia);have x:=R.siz;refine⟨by rw[List.length_append,List.length_singleton];lia,λs f=>?_,λj s e=>?_,λj s e d=>?_,λj s e d=>?_,λj s e d=>?_,λj s e=>?_,λs f=>by
   rcases List.mem_append.mp f with h|h
   ·exact D.sh s h
   ·rw[List.mem_singleton]at h;subst h;exact R.sh (D.sh t (List.mem_of_getElem? c)) (D.sh u (List.mem_of_getElem? hb)),by rw[List.getElem?_append_left (by lia)];exact D.tab,λs f p g=>?_⟩
 ·rcases List.mem_append.mp f with h|h
  ·exact D.ok s h
  ·rw[List.mem_singleton]at h;subst h;exact R.ok (D.ok t (List.mem_of_getElem? c)) (D.ok u (List.mem_of_getElem? hb))
 ·rcases cases j s e with h|⟨rfl,rfl⟩
  ·exact D.dep j s h
  ·lia
 ·rcases cases j s e with h|⟨rfl,rfl⟩
  ·exact D.one j s h d
  ·lia
 ·rcases cases j s e with h|⟨rfl,rfl⟩
  ·exact D.two j s h d
  ·have:=D.one a t c (by lia);have:=D.one b u hb (by lia);lia
 ·rcases cases j s e with h|⟨rfl,rfl⟩
  ·exact D.tri j s h d
  ·have:=D.two a t c (by lia);have:=D.two b u hb (by lia);lia
 ·rcases cases j s e with h|⟨rfl,rfl⟩
  ·exact D.any j s h
  ·lia
 ·rcases List.mem_append.mp f with h|h
  ·exact List.mem_append_left _ (D.cl s h p g)
  ·rw[List.mem_singleton]at h;subst h;refine List.mem_append_left _ ?_;rcases R.pts p g with h|h|h
   ·rw[h];exact List.mem_of_getElem? c
   ·rw[h];exact List.mem_of_getElem? hb
   ·rw[h];exact List.mem_of_getElem? D.tab
theorem Vz(xs:List α)(i:Int)(a:0<=i)(h1:i<xs.length):∃v,atI xs i=Ga v/\xs[i.toNat]?=Ga v:=by
 have hi:i.toNat<xs.length:=by lia
 have e:i=((i.toNat:Nat):Int):=by lia
 have q:=Qz (List.getElem?_eq_getElem hi);rw[<-e]at q;exact⟨_,q,List.getElem?_eq_getElem hi⟩
section
variable{P:Gg}{w:Gs}{K:Gd}{mg:Ta->Option Value}{base:Heap}
theorem Qoa:Qx ["_law_cells","_law_things","_law_cell","_law_rest","_law_one","_law_other","_law_made","_law_word","_law_three"] ["_law_cells"] (Ql Qdd):=by eq_refl
theorem Qux{g:Gc}{gd:Ts}(F:Wd K "_law_drawn_things" "_law_drawn_things" Qdd f fd)(B:Blt mg)(G:Qs P w K mg base Z4 1 g gd ["_law_cell"] Qu8)(kG:KI K g)(bG:Binds K gd ["_law_cell"] [])(mG:MG mg "_law_any_word" g):
  Qs P w K mg base Z4 2 f fd ["_law_cells"] (Qm9 K):=by
 refine F.ok Qoa (λvs H Q E h=>?_) (λcdv A outer s H vs Q E hr h=>?_)
 ·obtain⟨a,ns,rfl,_⟩:=h;rfl
 obtain⟨a,ns,rfl,hS,aA,q⟩:=h;have nd:=Qoa.nd;show∃t,Z7 ?mysDrawn _ t/\_;let w3:Subtype (Z7 ?mysDrawn ((Qj Qdd).drop 2)):=⟨_,Qh (Qv (pv 1))⟩
 let w2:Subtype (Z7 ?mysDrawn ((Qj Qdd).drop 1)):=⟨_,Qd (Yg Gy rfl (Xd (pv 0)) (Yc 2 nd)
   (Qd (Qt 3 nd (Zo Wa (pv 2) Qk))
   (Qd (Qt 4 nd (Qo Zh (pv 1) (Zo Xz (pv 3) (Qp Zc rfl B.len GO (Qa (pv 1) Qe)))))
   (Qd (Qt 5 nd (Qo Zh (pv 1) (Zo Xz (Zo Wa (pv 3) Qk) (Qp (Qqa Xb) rfl B.min Nm (Qa Qk (Qa (Qp Zc rfl B.len GO (Qa (pv 1) Qe)) Qe))))))
   (Qd (Qt 6 nd (Zt (Qa (Zb (Qa Zf (Qa (pv 4) Qe))) (Qa (Zb (Qa Zf (Qa (pv 4) (Qa (pv 5) Qe)))) (Qa (Zb (Qa Zf (Qa (pv 4) (Qa (pv 5) Qe)))) (Qa (Zb (Qa Zf Qe)) Qe))))))
   (Qd (Zn (Qr Wu (Zo Xz (pv 2) Qk) Qk (Q3 _))
    (Qd (Qt 7 nd (Qo Zh (Zt (Qa (Z1 G hr rfl mG kG bG .nil Q6 (Qa (Zo Wa (pv 2) Qk) Qe)) (Qa Zf Qe))) (Zo Xz (Zo Wa (pv 2) Qk) Qk)))
    (Qd (Qt 8 nd (Zb (Qa (pv 7) (Qa (pv 4) (Qa (pv 5) (Qa (Zb (Qa Zf Qe)) Qe))))))
    (Qh (Qt 6 nd (Zt (Qa (Zb (Qa (pv 7) (Qa (pv 4) Qe))) (Qa (Zb (Qa (pv 7) (Qa (pv 4) (Qa (pv 5) Qe)))) (Qa (pv 8) (Qa (Zb (Qa (pv 7) Qe)) Qe)))))))))
    Q7)
   (Qh (Ze (Xw Gu GF GV Z0 (pv 1) (Qa (Qo Zh (pv 6) (Zo Xz (pv 2) Qk)) Qe)))))))))) w3.2⟩
 refine⟨_,Qd (Qt 1 nd (Zt (Qa (Zb (Qa Zf Qe)) (Qa (Zb (Qa Zf Qe)) (Qa (Zb (Qa Zf Qe)) Qe))))) w2.2,?_⟩;have ax:Rf ("sab":Ta)=Gf:=by decide+kernel
 have tab:Rf ("tab":Ta)=Gf:=by decide+kernel
 have az:Rf ("sob":Ta)=Gf:=by decide+kernel
 have ay:Rf ("sat":Ta)=Gf:=by decide+kernel
 have aa:Rf ("fig":Ta)=Gf:=by decide+kernel
 have an:Rf ("fog":Ta)=Gf:=by decide+kernel
 have ar:Rf ("hog":Ta)=Gf:=by decide+kernel
 refine⟨by show 1<=Gj;decide,λp1 h1=>⟨by show 1<=Gj;decide,λp2 h2=>⟨by show 1<=Gj;decide,λp3 h3=>⟨by show 3<=Gj;decide,λp hp=>?_⟩⟩⟩⟩;have s1:=Qg h1 (.tup [.str "sab"]);have s2:=Qg h2 (.tup [.str "tab"]);have s3:=Qg h3 (.tup [.str "sob"]);have s4:=Qg hp (.lst [.ref p1,.ref p2,.ref p3]);have S:H p=Gh:=((s1.trans s2).trans s3).free hp;have i1:Yl _ (.ref p1) (.mk "sab" []):=(Jp (w:="sab") h1 .nil).same ((s2.trans s3).trans s4);have i2:Yl _ (.ref p2) (.mk "tab" []):=(Jp (w:="tab") h2 .nil).same (s3.trans s4);have i3:Yl _ (.ref p3) (.mk "sob" []):=(Jp (w:="sob") h3 .nil).same s4;let aw:Nat->St->Hp->Prop:=λi σ H2=>XE9 λ(us:List V)(ts:List Th)(x2 x3 x4 x5 x6 x7 x8:Option V)=>PA5 (σ=[Ga (.ref a),Ga (.ref p),x2,x3,x4,x5,x6,x7,x8]) (Q4 H H2) (H2 p=Ga (.lst us)) (Zq H2 us ts) (Drawn ts i)
 refine⟨_,Xb,a,Xb,⟨_,(((s1.trans s2).trans s3).trans s4).seq hS⟩,Xl (K:=K) (a:=a) (xs:=ns.map V.int) aw
  ⟨_,_,_,_,_,_,_,_,_,Xb,((s1.trans s2).trans s3).trans s4,Qb,.cons i1 (.cons i2 (.cons i3 .nil)),?_⟩ (by rintro i σ H2 _ ⟨_,_,_,_,_,_,_,_,_,_,g,_⟩;exact g.seq hS) ?_ ?_⟩
 ·refine⟨Xb,λt J=>?_,λj t e=>?_,λj t e _=>?_,λj t e _=>?_,λj t e _=>?_,λj t e=>?_,λt J=>by simp at J;rcases J with rfl|rfl|rfl<;>decide+kernel,rfl,λt J p hp=>?_⟩
  ·simp at J;rcases J with rfl|rfl|rfl
   ·simp[Th.ok,okL,Rf.str ax]
   ·simp[Th.ok,okL,Rf.str tab]
   ·simp[Th.ok,okL,Rf.str az]
  rotate_right
  ·simp at J;rcases J with rfl|rfl|rfl<;>simp[Th.parts]at hp
  all_goals
   have hm:=List.mem_of_getElem? e;simp at hm;rcases hm with rfl|rfl|rfl<;>simp[Th.depth,Wf,Th.size,Qw]
 ·rintro i y σ H2 hi ⟨us,ts,x2,x3,x4,x5,x6,x7,x8,rfl,g,I,N,D⟩;obtain⟨c,rfl⟩:∃z,y=V.int z:=by
   rw[List.getElem?_map]at hi;cases e:ns[i]? with
   |none=>rw[e]at hi;cases hi
   |some z=>rw[e]at hi;exact⟨z,(Tj hi).symm⟩
  have ao:i<(ns.map V.int).length:=(List.getElem?_eq_some_iff.mp hi).1;rw[List.length_map]at ao;have lu:=N.length;have ld:=D.len;have hL:(us.length:Int)=3+i:=by omega
  refine⟨_,Xb,_,_,Xb,Xb,⟨by decide,by decide⟩,?_⟩;obtain⟨m,a1,b1⟩:=Vz us (c / 4 % (us.length:Int)) (TV _ (by omega)) (Tz _ (by omega));refine⟨_,Xb,_,Xb,_,Xb,p,us,Xb,.inl (Zd.of I),_,_,Xb,Xb,(by show(0:Int)<us.length;omega),p,us,_,m,Xb,Xb,Zd.of I,a1,?_⟩;have d:(if(us.length:Int)<5 then(us.length:Int)else 5)<=us.length/\0<(if(us.length:Int)<5 then(us.length:Int)else 5)/\(if(us.length:Int)<5 then(us.length:Int)else 5)<=5:=by split<;>omega
  obtain⟨n,a2,b2⟩:=Vz us (c / 4 / 5 % (if(us.length:Int)<5 then(us.length:Int)else 5)) (TV _ (by omega)) (Int.lt_of_lt_of_le (Tz _ d.2.1) d.1);have am:(c / 4 / 5 % (if(us.length:Int)<5 then(us.length:Int)else 5)).toNat<5:=by have h1:=Tz (c / 4 / 5) d.2.1;have h2:=TV (c / 4 / 5) (Int.ne_of_gt d.2.1);have h3:=d.2.2;omega
  refine⟨_,Xb,_,Xb,_,_,Xb,Xb,⟨by decide,by decide⟩,_,Xb,p,us,Xb,.inl (Zd.of I),5,_,Xb,_,_,Xb,Xb,d.2.1,p,us,_,n,Xb,Xb,Zd.of I,a2,?_⟩;subst_vars;obtain⟨t1,c1,X⟩:=N.get b1;obtain⟨t2,c2,k2⟩:=N.get b2;and_intros;refine⟨_,Xb,by show 2<=Gj;decide,λq1 ac=>⟨_,Xb,_,Xb,by show 3<=Gj;decide,λq2 ad=>⟨_,Xb,_,Xb,by show 3<=Gj;decide,λq3 ae=>⟨by show 1<=Gj;decide,λq4 ag=>⟨by show 4<=Gj;decide,λl hl=>?_⟩⟩⟩⟩⟩;have U:=Qg ac (.tup [.str "fig",m]);have Z:=Qg ad (.tup [.str "fog",m,n]);have e3:=Qg ae (.tup [.str "fig",m,n]);have e4:=Qg ag (.tup [.str "sat"]);have W:=Qg hl (.lst [.ref q1,.ref q2,.ref q3,.ref q4]);have u:=(((U.trans Z).trans e3).trans e4).trans W;have m1:=(Jp (w:="fig") ac (.one X)).same (((Z.trans e3).trans e4).trans W);have m2:=(Jp (w:="fog") ad (.cons (X.same U) (.one (k2.same U)))).same ((e3.trans e4).trans W);have m3:=(Jp (w:="fig") ae (.cons (X.same (U.trans Z)) (.one (k2.same (U.trans Z))))).same (e4.trans W);have m4:=(Jp (w:="sat") ag .nil).same W;generalize ab:zj (zj (zj (zj (zj H2 q1 (.tup [.str "fig",m])) q2 (.tup [.str "fog",m,n])) q3 (.tup [.str "fig",m,n])) q4 (.tup [.str "sat"])) l (.lst [.ref q1,.ref q2,.ref q3,.ref q4])=H3 at*;have L:Q09 H3 l t1 t2:=by
   refine⟨_,by rw[<-ab];exact Qb,Xb,λv hv=>?_⟩;simp at hv;rcases hv with rfl|rfl|rfl|rfl
   ·exact⟨_,m1,Qyo aa⟩
   ·exact⟨_,m2,Qu9 an⟩
   ·exact⟨_,m3,Qu9 aa⟩
   ·exact⟨_,m4,Qy5 ay⟩
  clear m1 m2 m3 m4 ab U Z e3 e4 W;refine⟨_,Xb,_,_,Xb,Xb,(by show(0:Int)<9;decide),Xb,_,Xb,?_⟩;refine Vl (λ_=>?_) (λ_=>?_)
  ·refine⟨_,Xb,_,_,Xb,Xb,⟨by decide,by decide⟩,_,Xb,λx hx=>⟨by show 2<=Gj;decide,λl2 ap=>?_⟩⟩;have d1:=Qg ap (.lst [.str x,.str "hog"]);obtain⟨wv,a3,b3⟩:=Vz [V.str x,V.str "hog"] (c / 36 % 2) (TV _ (by decide)) (Tz _ (by decide));have au:∃k,wv=.str k/\Rf k=Gf:=by
    have hm:=List.mem_of_getElem? b3;simp at hm;rcases hm with rfl|rfl
    ·exact⟨_,Xb,hx⟩
    ·exact⟨_,Xb,ar⟩
   obtain⟨k,rfl,C⟩:=au;refine⟨_,Xb,_,_,Xb,Xb,⟨by decide,by decide⟩,_,_,Xb,Xb,(by show(0:Int)<2;decide),l2,_,_,_,Xb,Xb,Zd.of Qb,a3,?_⟩;refine⟨_,Xb,_,Xb,_,Xb,by show 1<=Gj;decide,λr1 ak=>⟨by show 4<=Gj;decide,λr2 al=>?_⟩⟩;have d2:=Qg ak (.tup [.str "tab"]);have d3:=Qg al (.tup [.str k,m,n,.ref r1]);refine⟨_,Xb,_,Xb,by show 2<=Gj;decide,λq5 ah=>⟨_,Xb,_,Xb,_,Xb,by show 3<=Gj;decide,λq6 ai=>⟨_,Xb,_,Xb,by show 1<=Gj;decide,λq7 aj=>⟨by show 4<=Gj;decide,λl3 aq=>?_⟩⟩⟩⟩;have d4:=Qg ah (.tup [.str k,m]);have d5:=Qg ai (.tup [.str k,m,n]);have d6:=Qg aj (.tup [.str k]);have Y:=Qg aq (.lst [.ref q5,.ref q6,.ref r2,.ref q7]);have aB:=d1;have z2:=u.trans d1;have z3:=z2.trans d2;have z4:=z3.trans d3;have z5:=z4.trans d4;have z6:=z5.trans d5;have tb:=(Jp (w:="tab") ak .nil);have n1:=(Jp (w:=k) al (.cons (X.same z3) (.cons (k2.same z3) (.one tb)))).same (((d4.trans d5).trans d6).trans Y);have n2:=(Jp (w:=k) ah (.one (X.same z4))).same ((d5.trans d6).trans Y);have n3:=(Jp (w:=k) ai (.cons (X.same z5) (.one (k2.same z5)))).same (d6.trans Y);have n4:=(Jp (w:=k) aj .nil).same Y;have zz:=(z6.trans d6).trans Y;have up:=@Qb (zj (zj (zj (zj (zj (zj H3 l2 (.lst [.str x,.str "hog"])) r1 (.tup [.str "tab"])) r2 (.tup [.str k,m,n,.ref r1])) q5 (.tup [.str k,m])) q6 (.tup [.str k,m,n])) q7 (.tup [.str k])) l3 (.lst [.ref q5,.ref q6,.ref r2,.ref q7]);generalize zj (zj (zj (zj (zj (zj (zj H3 l2 (.lst [.str x,.str "hog"])) r1 (.tup [.str "tab"])) r2 (.tup [.str k,m,n,.ref r1])) q5 (.tup [.str k,m])) q6 (.tup [.str k,m,n])) q7 (.tup [.str k])) l3 (.lst [.ref q5,.ref q6,.ref r2,.ref q7])=H4 at*;have M:Q09 H4 l3 t1 t2:=by
    refine⟨_,up,Xb,λv hv=>?_⟩;simp at hv;rcases hv with rfl|rfl|rfl|rfl
    ·exact⟨_,n2,Qyo C⟩
    ·exact⟨_,n3,Qu9 C⟩
    ·exact⟨_,n1,Q3n C tab⟩
    ·exact⟨_,n4,Qy5 C⟩
   subst_vars;obtain⟨fs,hf,lf,af⟩:=M;obtain⟨v,av,bv⟩:=Vz fs (c % 4) (TV _ (by decide)) (by rw[lf];exact Tz _ (by decide));obtain⟨r,T,R⟩:=af v (List.mem_of_getElem? bv);and_intros;have O:=zz _ _ I;refine⟨_,Xb,.inl ⟨Xb,_,Zd.of O⟩,_,Xb,_,Xb,_,_,Xb,Xb,(by show(0:Int)<4;decide),l3,fs,_,v,Xb,Xb,Zd.of hf,av,p,us,v,Xb,Xb,O,by rw[GQ];omega,?_⟩;have tu:=Zs (H:=H4) (a:=p) (o:=.lst (us++[v])) λxs e=>by rw[O]at e;cases e
   refine⟨us++[v],ts++[r],_,_,_,_,_,_,_,Xb,λb o e=>?_,Qb,((N.same zz).append (.one T)).Qm tu,Qdm D c1 c2 am R⟩;rw[Qf (Qc e S)];exact zz _ _ (g _ _ e)
  ·skip
   subst_vars;obtain⟨fs,hf,lf,af⟩:=L;obtain⟨v,av,bv⟩:=Vz fs (c % 4) (TV _ (by decide)) (by rw[lf];exact Tz _ (by decide));obtain⟨r,T,R⟩:=af v (List.mem_of_getElem? bv);and_intros;have O:=u _ _ I;refine⟨_,Xb,.inl ⟨Xb,_,Zd.of O⟩,_,Xb,_,Xb,_,_,Xb,Xb,(by show(0:Int)<4;decide),l,fs,_,v,Xb,Xb,Zd.of hf,av,p,us,v,Xb,Xb,O,by rw[GQ];omega,?_⟩;have tu:=Zs (H:=H3) (a:=p) (o:=.lst (us++[v])) λxs e=>by rw[O]at e;cases e
   refine⟨us++[v],ts++[r],_,_,_,_,_,_,_,Xb,λb o e=>?_,Qb,((N.same u).append (.one T)).Qm tu,Qdm D c1 c2 am R⟩;rw[Qf (Qc e S)];exact u _ _ (g _ _ e)
 ·rintro σ H2 ⟨us,ts,x2,x3,x4,x5,x6,x7,x8,rfl,g,I,N,D⟩;rw[List.length_map]at D;exact⟨_,Xb,q p us ts H2 g S I N D⟩
end
theorem Qfw(b:Bool):(tw b==("unlike":Ta))= !b:=by cases b<;>decide+kernel
section
variable{P:Gg}{w:Gs}{K:Gd}{mg:Ta->Option Value}{base:Heap}
theorem Qtf:Qx ["_law_told","_law_one","_law_other","_law_leaders","_law_word","_law_left","_law_right"] ["_law_told","_law_one","_law_other"] (Ql Qrf):=by eq_refl
theorem Qj6:Qx ["_law_told","_law_deed","_law_every","_law_leaders","_law_word","_law_one","_law_other"] ["_law_told","_law_deed"] (Ql Qhq):=by eq_refl
theorem Qwn{dC:Ts}(F:Wd K "_law_kind" "_law_kind" Qrf f fd)
  (GC:Qs P w K mg base Z4 1 fC dC ["_law_told","_law_things"] (O9 P w))(kC:KI K fC)(bC:Binds K dC ["_law_told","_law_things"] [])(mC:MG mg "_law_classes" fC):
  Qs P w K mg base Z4 2 f fd ["_law_told","_law_one","_law_other"] Qk6:=by
 refine F.ok Qtf (λvs H Q E h=>?_) (λcdv A outer s H vs Q E X h=>?_)
 ·obtain⟨a,us,tl,v1,v2,x,y,rfl,_⟩:=h;rfl
 obtain⟨a,us,tl,v1,v2,x,y,rfl,G,b,h1,h2,kx,ky,B,hsz,q⟩:=h;have nd:=Qtf.nd;have J:=X.units;refine⟨_,(Qd (Qt 3 nd (Z1 GC X rfl mC kC bC .nil Q6 (Qa (pv 0) (Qa (Zt (Qa (pv 1) (Qa (pv 2) Qe))) Qe))))
  (Qd (Zn (Qr Wu (Qo (Ux J) (pv 3) (pv 1)) (Qo (Ux J) (pv 3) (pv 2)) (Q3 _))
  (Qh (Qv Zf)) Q7)
  (Qd (Qt 3 nd (Z1 GC X rfl mC kC bC .nil Q6 (Qa (Zo Ul (pv 0) (Zt (Qa (Zb (Qa Zf (Qa (pv 1) (Qa (pv 2) Qe)))) Qe))) (Qa (Zt Qe) Qe))))
  (Qd (Yg Gy rfl (Xd (pv 0)) (Vr rfl (Zl (Yc 4 nd) (Zl (Yc 5 nd) (Zl (Yc 6 nd) Wb))))
  (Qh (Zn (PW.pt (Vs (Qr Wu (pv 4) Zf (Q3 _)) (Wr (Qr Wu (Qo (Ux J) (pv 3) (pv 5)) (Qo (Ux J) (pv 3) (pv 6)) (Q3 _)))))
  (Qh (Qv Zf)) Q7)))
  (Qh (Qv Zf)))))),?_⟩
 subst_vars;obtain⟨b1,_,_,_,rfl,_,_,_⟩:=h1.inv;obtain⟨b2,_,_,_,rfl,_,_,_⟩:=h2.inv;and_intros;refine⟨_,Xb,_,Xb,_,Xb,by show 2<=Gj;decide,λc hc=>?_⟩;have s1:=Qg hc (.lst [.ref b1,.ref b2]);refine⟨a,c,us,_,tl,[x,y],Xb,s1 _ _ G,b.Qm (Qu.of s1),Qb,.cons (h1.same s1) (.cons (h2.same s1) .nil),?_,B,by simp only[Qw];lia,λd S L H1 g1 hd N T C ac=>?_⟩
 ·intro t I;simp only[List.mem_cons,List.not_mem_nil,Ee]at I;rcases I with rfl|rfl
  ·exact kx
  ·exact ky
 have M:=s1.trans g1;have Y:x∈S:=C x (by simp);have Z:y∈S:=C y (by simp);refine⟨_,Xb,_,Xb,N.get Y (h1.same M) ⟨_,Xb,_,Xb,N.get Z (h2.same M) ⟨Xb,_,Xb,?_⟩⟩⟩;rw[Vv];refine Vl (λc=>?_) (λc=>?_)
 ·have c:L x=L y:=by simpa using c
  exact q _ _ M (.inl ⟨Xb,(T.iff Y Z).mp c⟩)
 have nc:¬Cg tl x y:=λz=>by have:=(T.iff Y Z).mpr z;simp[this]at c
 refine⟨_,Xb,_,Xb,_,Xb,by show 3<=Gj;decide,λe he=>?_⟩;have s2:=Qg he (.tup [.str "same",.ref b1,.ref b2]);refine⟨by show 1<=Gj;decide,λl hl=>?_⟩;have s3:=Qg hl (.lst [.ref e]);have aa:us.length=tl.length:=Gr b;have ae:tl.length<=3000:=by have:=Zz (tl.map (·.2.1));rw[List.length_map]at this;lia
 have sB:=(M.trans s2).trans s3;refine⟨a,l,us,[.ref e],Xb,Xb,sB _ _ G,Qb,small (by show us.length+1<=_;lia),λn hn=>?_⟩;have s4:=Qg hn (.lst (us++[.ref e]));refine⟨Gw _,λz hz=>?_⟩;have s5:=Qg hz (.lst []);have O:=(sB.trans s4).trans s5;have r:Qw ([]:List Th)+Qw ((tl++[(Gf,x,y)]).map (·.2.1))+Qw ((tl++[(Gf,x,y)]).map (·.2.2))<=3000:=by rw[List.map_append,List.map_append,Xs,Xs];simp only[List.map_cons,List.map_nil,Qw];lia
 refine⟨n,z,us++[.ref e],[],tl++[(Gf,x,y)],[],Xb,s5 _ _ Qb,?_,Qb,.nil,(λt I=>nomatch I),?_,r,λd2 S2 L2 H2 g2 ad N2 T2 _ g=>?_⟩
 ·exact Ys (b.Qm (Qu.of O)) (.cons ⟨e,.ref b1,.ref b2,Xb,s5 _ _ (s4 _ _ (s3 _ _ Qb)),h1.same O,h2.same O⟩ .nil)
 ·intro p k;rcases List.mem_append.mp k with k|k
  ·exact B p k
  ·rw[List.mem_singleton]at k;subst k;exact⟨kx,ky⟩
 have j:=O.trans g2;let ab:Nat->St->Hp->Prop:=λi σ D=>PA3 (D=H2) (∃x4 x5 x6,σ=[Ga (.ref a),Ga (.ref b1),Ga (.ref b2),Ga (.ref d2),x4,x5,x6]) (∀u v,(Gq,u,v)∈tl.take i->¬Cg (tl++[(Gf,x,y)]) u v)
 refine⟨_,Xb,a,Xb,⟨_,Zd.of (j _ _ G)⟩,Xl (K:=K) (a:=a) (xs:=us) ab
  ⟨Xb,⟨_,_,_,Xb⟩,by simp⟩ (by rintro i σ D _ ⟨e,_⟩;exact Zd.of (by rw[e];exact j _ _ G)) ?_ ?_⟩
 ·rintro i p σ D hi ⟨rfl,⟨x4,x5,x6,rfl⟩,o⟩;subst_vars;obtain⟨⟨V,R,U⟩,eu,a',w1,w2,rfl,W,t1,t2⟩:=Qy b hi;obtain⟨c1,_,_,_,rfl,_,_,_⟩:=t1.inv;obtain⟨c2,_,_,_,rfl,_,_,_⟩:=t2.inv;and_intros;have mem:=List.mem_of_getElem? eu;have i2:=g (V,R,U) (List.mem_append_left _ mem);have tk:tl.take (i+1)=tl.take i++[(V,R,U)]:=by rw[List.take_add_one,eu];rfl
  refine⟨a',_,Xb,Z2.of (j _ _ W),Xb,_,_,Xb,_,_,Xb,_,_,Xb,Xb,?_⟩;refine⟨_,Xb,Xb,_,Xb,?_⟩;rw[Yh,Qfw];cases V with
  |true=>
   refine Zp (Zp ⟨Xb,⟨_,_,_,Xb⟩,λu v h=>?_⟩);rw[tk,List.mem_append,List.mem_singleton]at h;rcases h with h|h
   ·exact o u v h
   ·cases h
  |false=>
   refine Yv ?_;refine⟨_,Xb,_,Xb,N2.get i2.1 (t1.same j) ⟨_,Xb,_,Xb,N2.get i2.2 (t2.same j) ⟨Xb,_,Xb,?_⟩⟩⟩;rw[Vv];refine Vl (λm=>?_) (λm=>?_)
   ·have m:L2 R=L2 U:=by simpa using m
    exact q _ _ j (.inr (.inl ⟨Xb,nc,R,U,mem,(T2.iff i2.1 i2.2).mp m⟩))
   ·refine⟨Xb,⟨_,_,_,Xb⟩,λu v h=>?_⟩;rw[tk,List.mem_append,List.mem_singleton]at h;rcases h with h|h
    ·exact o u v h
    ·cases h;intro z;have:=(T2.iff i2.1 i2.2).mpr z;simp[this]at m
 ·rintro σ D ⟨rfl,_,o⟩;rw[aa,List.take_length]at o;exact q _ _ j (.inr (.inr ⟨Xb,nc,o⟩))
theorem Qpo{W:Ts}(F:Wd K "_law_barred" "_law_barred" Qhq f fd)
  (GC:Qs P w K mg base Z4 1 fC W ["_law_told","_law_things"] (O9 P w))(kC:KI K fC)(bC:Binds K W ["_law_told","_law_things"] [])(mC:MG mg "_law_classes" fC):
  Qs P w K mg base Z4 2 f fd ["_law_told","_law_deed"] Qeh:=by
 refine F.ok Qj6 (λvs H Q E h=>?_) (λcdv A outer s H vs Q E Z h=>?_)
 ·obtain⟨a,e,us,tl,v1,v2,b,x,y,rfl,_⟩:=h;rfl
 obtain⟨a,e,us,tl,v1,v2,b,x,y,rfl,ha,C,he,h1,h2,kx,ky,O,hsz,q⟩:=h;have nd:=Qj6.nd;have hu:=Z.units;refine⟨_,(Qd (Qt 2 nd (Zo Ul (pv 0) (Zt (Qa (pv 1) Qe))))
  (Qd (Qt 3 nd (Z1 GC Z rfl mC kC bC .nil Q6 (Qa (pv 2) (Qa (Zt Qe) Qe))))
  (Qd (Yg Gy rfl (Xd (pv 2)) (Vr rfl (Zl (Yc 4 nd) (Zl (Yc 5 nd) (Zl (Yc 6 nd) Wb))))
  (Qh (Zn (PW.pt (Vs (Qr Wu (pv 4) Zf (Q3 _)) (Wr (Qr Wu (Qo (Ux hu) (pv 3) (pv 5)) (Qo (Ux hu) (pv 3) (pv 6)) (Q3 _)))))
  (Qh (Qv Vi)) Q7)))
  (Qh (Qv Vi))))),?_⟩
 have ac:us.length=tl.length:=Gr C;have ab:tl.length<=3000:=by have:=Zz (tl.map (·.2.1));rw[List.length_map]at this;omega
 refine⟨_,Xb,_,Xb,by show 1<=Gj;decide,λl hl=>?_⟩;have s3:=Qg hl (.lst [.ref e]);refine⟨a,l,us,[.ref e],Xb,Xb,s3 _ _ ha,Qb,small (by show us.length+1<=_;omega),λn hn=>?_⟩;have s4:=Qg hn (.lst (us++[.ref e]));refine⟨_,Xb,Gw _,λz hz=>?_⟩;have s5:=Qg hz (.lst []);have sC:=(s3.trans s4).trans s5;have B:Qw ([]:List Th)+Qw ((tl++[(b,x,y)]).map (·.2.1))+Qw ((tl++[(b,x,y)]).map (·.2.2))<=3000:=by rw[List.map_append,List.map_append,Xs,Xs];simp only[List.map_cons,List.map_nil,Qw];omega
 have d:Uv H (us++[.ref e]) (tl++[(b,x,y)]):=Ys C (.cons ⟨e,v1,v2,Xb,he,h1,h2⟩ .nil);have R:(us++[V.ref e]).length=(tl++[(b,x,y)]).length:=Gr d;have r:=s5 _ _ (@Qb _ n (.lst (us++[.ref e])));have o:∀p∈tl++[(b,x,y)],(p.2.1.ok=Gf/\p.2.1.depth<=8)/\p.2.2.ok=Gf/\p.2.2.depth<=8:=by
  intro p j;rcases List.mem_append.mp j with j|j
  ·exact O p j
  ·rw[List.mem_singleton]at j;subst j;exact⟨kx,ky⟩
 generalize us++[V.ref e]=G at*;generalize tl++[(b,x,y)]=c at*;refine⟨n,z,G,[],c,[],Xb,r,d.Qm (Qu.of sC),Qb,.nil,(λt ht=>nomatch ht),o,B,λd2 S2 L2 H2 Y aa T U _ g=>?_⟩;have D:=sC.trans Y;have nD:=Y _ _ r;let S:Nat->St->Hp->Prop:=λi σ I=>PA3 (I=H2) (∃x4 x5 x6,σ=[Ga (.ref a),Ga (.ref e),Ga (.ref n),Ga (.ref d2),x4,x5,x6]) (∀u v,(Gq,u,v)∈c.take i->¬Cg c u v)
 refine⟨_,Xb,n,Xb,⟨_,Zd.of nD⟩,Xl (K:=K) (a:=n) (xs:=G) S
  ⟨Xb,⟨_,_,_,Xb⟩,by simp⟩ (by rintro i σ I _ ⟨e,_⟩;exact Zd.of (by rw[e];exact nD)) ?_ ?_⟩
 ·rintro i p σ I hi ⟨rfl,⟨x4,x5,x6,rfl⟩,m⟩;subst_vars;obtain⟨⟨M,J,L⟩,X,a',w1,w2,rfl,N,t1,t2⟩:=Qy d hi;obtain⟨c1,_,_,_,rfl,_,_,_⟩:=t1.inv;obtain⟨c2,_,_,_,rfl,_,_,_⟩:=t2.inv;and_intros;have mem:=List.mem_of_getElem? X;have i2:=g (M,J,L) mem;have tk:c.take (i+1)=c.take i++[(M,J,L)]:=by rw[List.take_add_one,X];rfl
  refine⟨a',_,Xb,Z2.of (D _ _ N),Xb,_,_,Xb,_,_,Xb,_,_,Xb,Xb,?_⟩;refine⟨_,Xb,Xb,_,Xb,?_⟩;rw[Yh,Qfw];cases M with
  |true=>
   refine Zp (Zp ⟨Xb,⟨_,_,_,Xb⟩,λu v h=>?_⟩);rw[tk,List.mem_append,List.mem_singleton]at h;rcases h with h|h
   ·exact m u v h
   ·cases h
  |false=>
   refine Yv ?_;refine⟨_,Xb,_,Xb,T.get i2.1 (t1.same D) ⟨_,Xb,_,Xb,T.get i2.2 (t2.same D) ⟨Xb,_,Xb,?_⟩⟩⟩;rw[Vv];refine Vl (λk=>?_) (λk=>?_)
   ·have k:L2 J=L2 L:=by simpa using k
    exact q Gf _ D ⟨λ_=>⟨J,L,mem,(U.iff i2.1 i2.2).mp k⟩,λ_=>rfl⟩
   ·refine⟨Xb,⟨_,_,_,Xb⟩,λu v h=>?_⟩;rw[tk,List.mem_append,List.mem_singleton]at h;rcases h with h|h
    ·exact m u v h
    ·cases h;intro z;have:=(U.iff i2.1 i2.2).mpr z;simp[this]at k
 ·rintro σ I ⟨rfl,_,m⟩;rw[R,List.take_length]at m;exact q Gq _ D ⟨λz=>by(cases z),(by rintro⟨u,v,h1,h2⟩;exact absurd h2 (m u v h1))⟩
end
section
variable{P:Gg}{w:Gs}{K:Gd}{mg:Ta->Option Value}{base:Heap}
theorem Qzb:Qx ["_law_cell","_law_size"] ["_law_cell"] (Ql Q0p):=by eq_refl
theorem Qz0(F:Wd K "_law_any" "_law_any" Q0p f fd):Qs P w K mg base Z4 1 f fd ["_law_cell"] Qyd:=by
 refine F.ok Qzb (λvs H Q E h=>?_) (λcdv A outer s H vs Q E d h=>?_)
 ·obtain⟨n,rfl,_⟩:=h;rfl
 obtain⟨n,rfl,q⟩:=h;have nd:=Qzb.nd;refine⟨_,(Qd (Qt 1 nd (Zo Xz (Zo Wa (pv 0) Qk) (Zo Qts Qk Qk)))
  (Qh (Qv (Zo Qs7 (pv 1) (Qo Zh (Zt (Qa Qk (Qa (Qbc J1 Qk) Qe))) (Zo Xz (pv 0) Qk)))))),?_⟩
 refine⟨_,Xb,_,_,Xb,Xb,⟨by decide,by decide⟩,_,_,Xb,Xb,⟨by decide,by decide,by decide⟩,_,_,Xb,Xb,(by show(0:Int)<10^DF 59;decide),?_⟩;refine⟨_,Xb,_,Xb,by show 2<=Gj;decide,λl hl=>?_⟩;obtain⟨v,b,c⟩:=Vz [V.int 1,V.int (-1)] (n % 2) (TV _ (by decide)) (Tz _ (by decide));have a:=List.mem_of_getElem? c;simp only[List.mem_cons,List.not_mem_nil,Ee]at a;refine⟨_,Xb,_,_,Xb,Xb,(by show(0:Int)<2;decide),l,_,_,v,Xb,Xb,Zd.of Qb,b,?_⟩;rcases a with rfl|rfl
 ·exact⟨_,_,Xb,Xb,.inr ⟨by decide,by decide⟩,q _ _ (Qg hl _)⟩
 ·exact⟨_,_,Xb,Xb,.inr ⟨by decide,by decide⟩,q _ _ (Qg hl _)⟩
theorem Qum:Qx ["_law_script","_law_most","_law_bound"] ["_law_script","_law_most","_law_bound"] (Ql Qt7):=by eq_refl
theorem Qwi(F:Wd K "_law_room" "_law_room" Qt7 f fd)(B:Blt mg):Qs P w K mg base Z4 1 f fd ["_law_script","_law_most","_law_bound"] (Qsj K):=by
 refine F.ok Qum (λvs H Q E h=>?_) (λcdv A outer s H vs Q E d h=>?_)
 ·obtain⟨a,ns,m,b,rfl,_⟩:=h;rfl
 obtain⟨a,ns,m,b,rfl,hS,hl,q⟩:=h;have nd:=Qum.nd;refine⟨_,(Qd (Zn (Qr Qc4 (Qp Xc rfl B.len GO (Qa (pv 0) Qe)) Qk (Q3 _))
  (Qh (Qv (pv 2))) Q7)
  (Qh (Qv (pv 1)))),?_⟩
 refine⟨_,Xb,_,_,Xb,.inl ⟨_,hS,Xb⟩,_,_,Xb,Xb,_,Xb,?_⟩;refine Vl (λc=>?_) (λc=>?_)
 ·exfalso;have c:=TJ c;rw[List.length_map]at c;lia
 ·exact⟨_,Xb,q⟩
theorem Qmz:Qx ["_law_cells","_law_things","_law_deeds","_law_k","_law_rest","_law_one","_law_other","_law_way","_law_odd"] ["_law_cells","_law_things"] (Ql Qk5):=by eq_refl
theorem Qr8{dA:Ts}(F:Wd K "_law_drawn_deeds" "_law_drawn_deeds" Qk5 f fd)(B:Blt mg)
  (GA:Qs P w K mg base Z4 1 fA dA ["_law_cell"] Qyd)(kA:KI K fA)(bA:Binds K dA ["_law_cell"] [])(mA:MG mg "_law_any" fA):
  Qs P w K mg base Z4 2 f fd ["_law_cells","_law_things"] (Qnm K):=by
 refine F.ok Qmz (λvs H Q E h=>?_) (λcdv A outer s H vs Q E hr h=>?_)
 ·obtain⟨a,b,ns,us,ts,rfl,_⟩:=h;rfl
 obtain⟨a,b,ns,us,ts,rfl,hS,ac,hb,D,ae,ad,q⟩:=h;have nd:=Qmz.nd;have ag:=D.length;refine⟨_,(Qd (Qt 2 nd (Zt Qe))
  (Qd (Yg Gy rfl (Us rfl B.range (Qa (Qp Xc rfl B.len GO (Qa (pv 0) Qe)) Qe)) (Yc 3 nd)
  (Qd (Qt 4 nd (Zo Wa (Qo Zh (pv 0) (pv 3)) Qk))
  (Qd (Qt 5 nd (Qo Zh (pv 1) (Zo Xz (Zo Qaq (pv 4) (pv 3)) (Qp Xc rfl B.len GO (Qa (pv 1) Qe)))))
  (Qd (Qt 6 nd (Qo Zh (pv 1) (Zo Xz (Zo Qaq (Zo Qaq (Zo Wa (pv 4) Qk) (Zo Qs7 Qk (pv 3))) Qk) (Qp Xc rfl B.len GO (Qa (pv 1) Qe)))))
  (Qd (Qt 7 nd (Zo Xz (Qo Zh (pv 0) (pv 3)) Qk))
  (Qh (Zn (Qr R9 (pv 7) Qk (Q3 _))
  (Qh (Ze (Xw Gu GF GV Z0 (pv 2) (Qa (Zb (Qa Zf (Qa (pv 5) (Qa (pv 6) Qe)))) Qe)))) (Qh (Zn (Qr R9 (pv 7) Qk (Q3 _))
  (Qh (Ze (Xw Gu GF GV Z0 (pv 2) (Qa (Zb (Qa Zf (Qa (pv 5) (Qa (pv 6) Qe)))) Qe)))) (Qh (Zn (Qr R9 (pv 7) Qk (Q3 _))
  (Qh (Ze (Xw Gu GF GV Z0 (pv 2) (Qa (Zb (Qa Zf (Qa (pv 5) (Qa (pv 6) Qe)))) Qe)))) (Qd (Qt 8 nd (Z1 GA hr rfl mA kA bA .nil Q6 (Qa (Qo Zh (pv 0) (pv 3)) Qe)))
  (Qh (Ze (Xw Gu GF GV Z0 (pv 2) (Qa (Zb (Qa Zf (Qa (Qo Zh (Zt (Qa (Zo Xz (pv 4) Qk) (Qa Qk (Qa (Qbc J1 Qk) (Qa (pv 8) Qe))))) (Zo Xz (Zo Wa (pv 4) Qk) Qk)) Qe))) Qe))))))))))))))))
  (Qh (Qv (pv 2))))),?_⟩
 refine⟨Gw _,λp hp=>?_⟩;have s1:=Qg hp (.lst []);let ab:Nat->St->Hp->Prop:=λi σ H1=>XE8 λ(es:List V)(dl:List Dd)(S T U W X Y:Option V)=>PA6 (σ=[Ga (.ref a),Ga (.ref b),Ga (.ref p),S,T,U,W,X,Y]) (Q4 H H1) (H1 p=Ga (.lst es)) (X5 H1 es dl) (dl.length=i) (∀d∈dl,d.fits ts)
 refine⟨_,Xb,_,_,Xb,.inl ⟨_,s1.seq hS,Xb⟩,_,Xb,by lia,by rw[List.length_map];lia,Uz (lo:=0) (n:=(((ns.map V.int).length:Int)).toNat) ab
  ⟨[],[],_,_,_,_,_,_,Xb,s1,Qb,.nil,Xb,λd hd=>nomatch hd⟩ ?_ ?_⟩
 ·rintro i σ H1 hi ⟨es,dl,S,T,U,W,X,Y,rfl,y,k,g2,g3,g4⟩;have hi:i<ns.length:=by rw[List.length_map]at hi;lia
  have af:es.length=dl.length:=Gr g2;generalize hc:ns[i]=c;have ec:atI (ns.map V.int) (0+(i:Int))=Ga (.int c):=by rw[EA];refine Qz ?_;rw[List.getElem?_map,List.getElem?_eq_getElem hi,hc];rfl
  have pos:(0:Int)<us.length:=by lia
  subst_vars;obtain⟨t,a1,f1⟩:=Vz us ((c / 10+(0+(i:Int))) % us.length) (TV _ (by lia)) (Tz _ pos);obtain⟨u,a2,f2⟩:=Vz us ((c / 10 / 7+2*(0+(i:Int))+1) % us.length) (TV _ (by lia)) (Tz _ pos);obtain⟨O,e1,i1⟩:=D.get f1;obtain⟨R,e2,i2⟩:=D.get f2;and_intros;have I:=List.mem_of_getElem? e1;have J:=List.mem_of_getElem? e2;have r:=y _ _ hb;refine⟨_,Xb,_,Xb,a,_,_,_,Xb,Xb,y.seq hS,ec,_,_,Xb,Xb,⟨by decide,by decide⟩,?_⟩;refine⟨_,Xb,_,Xb,_,Xb,_,_,Xb,Xb,_,Xb,_,_,Xb,.inl ⟨us,Zd.of r,Xb⟩,_,_,Xb,Xb,pos,b,us,_,t,Xb,Xb,Zd.of r,a1,?_⟩;refine⟨_,Xb,_,Xb,_,_,Xb,Xb,⟨by decide,by decide⟩,_,Xb,_,_,Xb,Xb,.inl ⟨by decide,by decide⟩,_,_,Xb,Xb,_,_,Xb,Xb,_,Xb,_,_,Xb,.inl ⟨us,Zd.of r,Xb⟩,_,_,Xb,Xb,pos,b,us,_,u,Xb,Xb,Zd.of r,a2,?_⟩;refine⟨_,Xb,_,Xb,a,_,_,_,Xb,Xb,y.seq hS,ec,_,_,Xb,Xb,(by show(0:Int)<10;decide),?_⟩;have fin:∀{v:Hp}{e:Gc}{xs:List V}{d:Dd}{Z:Option V},Q4 H1 v->v e=Gh->d.fits ts->Qb0 (zj (zj v e (.tup xs)) p (.lst (es++[.ref e]))) (.ref e) d->
    XE8 λ(M:List V)(dl:List Dd)(S T U W X Y:Option V)=>PA6 ([Ga (V.ref a),Ga (.ref b),Ga (.ref p),Ga (.int (0+(i:Int))),Ga (.int (c / 10)),Ga t,Ga u,Ga (.int (c % 10)),Z]=[Ga (.ref a),Ga (.ref b),Ga (.ref p),S,T,U,W,X,Y]) (Q4 H (zj (zj v e (.tup xs)) p (.lst (es++[.ref e])))) ((zj (zj v e (.tup xs)) p (.lst (es++[.ref e]))) p=Ga (.lst M)) (X5 (zj (zj v e (.tup xs)) p (.lst (es++[.ref e]))) M dl) (dl.length=i+1) (∀d∈dl,d.fits ts):=by
   intro v e xs d Z N g hf hd;have s4:=Qg g (.tup xs);have p4:=s4 _ _ (N _ _ k);have L:Qu H1 (zj (zj v e (.tup xs)) p (.lst (es++[.ref e]))):=((Qu.of N).trans (Qu.of s4)).trans (Zs λys z=>by rw[p4]at z;cases z);refine⟨es++[.ref e],dl++[d],_,_,_,_,_,_,Xb,λq o hq=>?_,Qb,Ys (g2.Qm L) (.cons hd .nil),by rw[List.length_append,List.length_singleton,g3],λd' aa=>?_⟩
   ·rw[Qf (Qc hq hp)];exact s4 _ _ (N _ _ (y _ _ hq))
   ·rcases List.mem_append.mp aa with z|z
    ·exact g4 d' z
    ·rw[List.mem_singleton]at z;rw[z];exact hf
  have j:∀{x:Ta}{e:Gc}{d:Dd},H1 e=Gh->d.fits ts->(d=.ask O R/\x="ask"\/∃bb,d=.tell bb O R/\x=tw bb)->Qb0 (zj (zj H1 e (.tup [.str x,t,u])) p (.lst (es++[.ref e]))) (.ref e) d:=by
   intro x e d g hf hd;have s4:=Qg g (.tup [.str x,t,u]);have p4:=s4 _ _ k;have C:e≠p:=λz=>by rw[z,k]at g;cases g
   have L:Qu H (zj (zj H1 e (.tup [.str x,t,u])) p (.lst (es++[.ref e]))):=((Qu.of y).trans (Qu.of s4)).trans (Zs λys z=>by rw[p4]at z;cases z);have at_:(zj (zj H1 e (.tup [.str x,t,u])) p (.lst (es++[.ref e]))) e=Ga (.tup [.str x,t,u]):=by rw[Qf C];exact Qb
   rcases hd with⟨rfl,rfl⟩|⟨bb,rfl,rfl⟩
   ·exact⟨e,t,u,Xb,at_,i1.Qm L,i2.Qm L⟩
   ·exact⟨e,t,u,Xb,at_,i1.Qm L,i2.Qm L⟩
  refine⟨_,Xb,_,_,Xb,Xb,_,Xb,?_⟩;refine Vl (λc1=>?_) (λc1=>?_)
  ·refine⟨_,Xb,.inl ⟨Xb,_,Zd.of k⟩,_,Xb,_,Xb,by show 3<=Gj;decide,λe g=>?_⟩;refine⟨p,es,.ref e,Xb,Xb,Qg g _ _ _ k,by rw[GQ];lia,?_⟩;exact fin (d:=.tell Gf O R) (λ_ _ h=>h) g ⟨I,J⟩ (j g ⟨I,J⟩ (.inr ⟨Gf,Xb,Xb⟩))
  refine⟨_,Xb,_,_,Xb,Xb,_,Xb,?_⟩;refine Vl (λc2=>?_) (λc2=>?_)
  ·refine⟨_,Xb,.inl ⟨Xb,_,Zd.of k⟩,_,Xb,_,Xb,by show 3<=Gj;decide,λe g=>?_⟩;refine⟨p,es,.ref e,Xb,Xb,Qg g _ _ _ k,by rw[GQ];lia,?_⟩;exact fin (d:=.tell Gq O R) (λ_ _ h=>h) g ⟨I,J⟩ (j g ⟨I,J⟩ (.inr ⟨Gq,Xb,Xb⟩))
  refine⟨_,Xb,_,_,Xb,Xb,_,Xb,?_⟩;refine Vl (λc3=>?_) (λc3=>?_)
  ·refine⟨_,Xb,.inl ⟨Xb,_,Zd.of k⟩,_,Xb,_,Xb,by show 3<=Gj;decide,λe g=>?_⟩;refine⟨p,es,.ref e,Xb,Xb,Qg g _ _ _ k,by rw[GQ];lia,?_⟩;exact fin (d:=.ask O R) (λ_ _ h=>h) g ⟨I,J⟩ (j g ⟨I,J⟩ (.inl ⟨Xb,Xb⟩))
  refine⟨_,Xb,_,Xb,a,_,_,_,Xb,Xb,y.seq hS,ec,_,Xb,λm H2 s2=>?_⟩;refine⟨_,Xb,.inl ⟨Xb,_,Zd.of (s2 _ _ k)⟩,_,Xb,_,_,Xb,Xb,(by show(0:Int)<4;decide),_,Xb,_,Xb,by show 4<=Gj;decide,λl hl=>?_⟩;have N:=Qg hl (.lst [.int (c / 10 % 4),.int 0,.int (-1),.int m]);obtain⟨v3,a3,f3⟩:=Vz [V.int (c / 10 % 4),.int 0,.int (-1),.int m] (c / 10 / 4 % 4) (TV _ (by decide)) (Tz _ (by decide));have hv:=List.mem_of_getElem? f3;obtain⟨z,rfl⟩:∃z,v3=V.int z:=by simp only[List.mem_cons,List.not_mem_nil,Ee]at hv;rcases hv with h|h|h|h<;>exact⟨_,h⟩
  refine⟨_,Xb,_,_,Xb,Xb,⟨by decide,by decide⟩,_,_,Xb,Xb,(by show(0:Int)<4;decide),l,_,_,.int z,Xb,Xb,Zd.of Qb,a3,by show 2<=Gj;decide,λe g=>?_⟩;have G:=s2.trans N;have C:e≠p:=λz=>by rw[z,G _ _ k]at g;cases g
  refine⟨p,es,.ref e,Xb,Xb,Qg g _ _ _ (G _ _ k),by rw[GQ];lia,?_⟩;exact fin (d:=.back z) G g TC ⟨e,Xb,by rw[Qf C];exact Qb⟩
 ·rintro σ H1 ⟨es,dl,S,T,U,W,X,Y,rfl,y,k,g2,g3,g4⟩;refine⟨_,Xb,q p es dl H1 y hp k g2 ?_ g4⟩;rw[g3,List.length_map];lia
end
def Q2v:T6->List T6
 |.For _ _ b _ _=>b
 |_=>[]
abbrev lSt(i:Nat):T6:=(Qj Qhi).getD i (.Pass ⟨0,0,0,0⟩)
abbrev Q5h:T6:=(Q2v (lSt 7)).getD 2 (.Pass ⟨0,0,0,0⟩)
abbrev lN:List Ta:=["_law_script","_law_things","_law_deeds","_law_one","_law_far","_law_handed","_law_found","_law_told","_law_k","_law_deed","_law_due"]
theorem Qnn:Qx lN ["_law_script"] (Ql Qhi):=by eq_refl
theorem Qhb(ns:List Int)(j k:Nat):∃a:List Int,U9 (ns.map V.int) (Ga (j:Int)) (Ga (k:Int))=a.map V.int/\a.length<=k - j/\(ns.length<=j->a=[]):=by
 refine⟨(ns.drop (min j ns.length)).take (min k ns.length - min j ns.length),?_,?_,λh=>?_⟩
 ·unfold U9;rw[HT.Oy,HT.Oy,List.length_map,List.map_take,List.map_drop]
 ·rw[List.length_take];omega
 ·rw[Nat.min_eq_right h,Nat.sub_eq_zero_of_le (Fp _ _)];simp
theorem Qj9(xs:List V)(i:Int)(a:0<=i):U9 xs Gh (Ga i)=xs.take i.toNat:=by obtain⟨k,rfl⟩:∃k:Nat,i=(k:Int):=⟨i.toNat,by lia⟩;unfold U9;rw[HT.Oi,HT.Oy];simp
section
variable{P:Gg}{w:Gs}{K:Gd}{mg:Ta->Option Value}{base:Heap}{f:Gc}{cdv:Value}{A:TL}{outer:List LR}{s:Gk}{Hi:Hp}{E:XK}
abbrev XL(P:Gg)(w:Gs)(K:Gd)(mg:Ta->Option Value)(base:Heap)(f:Gc)(cdv:Value)(A:TL)(outer:List LR)(s:Gk)(Hi:Hp)(E:XK):Cx:=(Qkf Z4 P w K mg base lN "law" (Ql Qhi) f cdv A outer s Hi E).nox
theorem Qww(D:Drawn ts m)(e:m<=4):∀t∈ts,t.good:=λt b=>by obtain⟨j,a⟩:=List.mem_iff_getElem?.mp b;have d:j<ts.length:=(List.getElem?_eq_some_iff.mp a).1;have h1:=D.any j t a;have h2:=D.dep j t a;have c:=D.len;exact⟨D.ok t b,by lia,by lia⟩
theorem Qui(B:Blt mg):∃t,PS (XL P w K mg base f cdv A outer s Hi E) (lSt 2) t/\∀(a r L:Gc)(ns:List Int)(us es:List V)(ts:List Th)(dl:List Dd)(m:Nat)(H0:Hp)
  (hS:Zd K H0 a (ns.map V.int))(hr:H0 r=Ga (.lst us))(u:Zq H0 us ts)(D:Drawn ts m)(hm:m<=4)(hq:H0 L=Ga (.lst es))(o:X5 H0 es dl)(k:∀d∈dl,d.fits ts)(hl:dl.length<=6),
  Tr t (λσ H=>H=H0/\σ=[Ga (.ref a),Ga (.ref r),Ga (.ref L),Gh,Gh,Gh,Gh,Gh,Gh,Gh,Gh])
   (λσ H=>XE5 λq I C Y O=>PA6 (σ=[Ga (.ref a),Ga (.ref r),Ga (.ref q),Y,O,Gh,Gh,Gh,Gh,Gh,Gh]) (Q4 H0 H) (H q=Ga (.lst I)) (X5 H I C) (∃U,Qgo U/\∀d∈C,d.fits U) (C.length<=6)):=by
 have nd:=Qnn.nd;refine⟨_,(Zn (PW.pt (Vs (Qr Qc4 (Qp Xc rfl B.len GO (Qa (pv 0) Qe)) Qk (Q3 _)) (Wr (Qr Wu (Zo Xz (Qo Zh (pv 0) Qk) Qk) Qk (Q3 _)))))
  (Qd (Qt 3 nd (Qo Zh (pv 1) Qk))
  (Qd (Qt 4 nd (Qo Zh (pv 1) (Zo Qaq Qk (Zo Xz (Zo Wa (Qo Zh (pv 0) Qk) Qk) Qk))))
  (Qh (Qt 2 nd (Zo Ul (Yu Vw (pv 2) Xx (Yy Qk)) (Zt (Qa (Zb (Qa Zf (Qa (pv 3) (Qa (pv 4) Qe)))) (Qa (Zb (Qa Zf (Qa (Zb (Qa Zf (Qa (pv 3) Qe))) (Qa (Zb (Qa Zf (Qa (pv 4) Qe))) Qe)))) Qe)))))))) Q7),?_⟩
 intro a r L ns us es ts dl m H0 hS hr u D hm hq o k hl;rintro D' σ H ⟨rfl,rfl⟩ kk;have v:=Qww D hm;have an:∀d∈dl,d.good:=λd hd=>by
  have h:=k d hd;cases d with
  |tell b x y=>exact⟨v x h.1,v y h.2⟩
  |ask x y=>exact⟨v x h.1,v y h.2⟩
  |back i=>exact TC
 have aq:=u.length;have ap:=D.len;have no:=kk _ _ ⟨L,es,dl,Gh,Gh,Xb,λ_ _ h=>h,hq,o,⟨ts,⟨Ob D.cl,v,by lia⟩,k⟩,hl⟩;refine⟨_,Xb,_,_,Xb,.inl ⟨_,hS,Xb⟩,_,_,Xb,Xb,_,Xb,?_⟩;refine Vl (λc=>?_) (λc=>Zp no);have c:0<ns.length:=by have:=TJ c;rw[List.length_map]at this;lia
 generalize ab:ns[0]=n0;have e0:atI (ns.map V.int) 0=Ga (.int n0):=by refine Qz (j:=0) ?_;rw[List.getElem?_map,List.getElem?_eq_getElem c,ab];rfl
 refine⟨_,Xb,a,_,_,_,Xb,Xb,hS,e0,_,_,Xb,Xb,(by show(0:Int)<3;decide),Xb,_,Xb,?_⟩;refine Vl (λc2=>?_) (λc2=>no);subst_vars;obtain⟨W,a1,f1⟩:=Vz us 0 (by decide) (by lia);have b0:=TV (n0 / 3) (show(2:Int)≠0 by decide);have b1:=Tz (n0 / 3) (show(0:Int)<2 by decide);obtain⟨X,a2,f2⟩:=Vz us (1+n0 / 3 % 2) (by lia) (by lia);obtain⟨F,Q,i1⟩:=u.get f1;obtain⟨G,R,i2⟩:=u.get f2;and_intros;have g1:=v F (List.mem_of_getElem? Q);have g2:=v G (List.mem_of_getElem? R);have z1:=D.one _ _ Q (by decide);have z2:=D.one _ _ R (by lia);have y1:=D.dep _ _ Q;have y2:=D.dep _ _ R;have h3:(1+n0 / 3 % 2).toNat<=2:=by lia
 have h4:(0:Int).toNat=0:=rfl;have Z:TU ("fig":Ta)=Gf:=by decide+kernel
 have gf:∀t:Th,t.good->t.size<=1->t.depth<=3->(Th.mk "fig" [t]).good:=λt g z y=>⟨by simp[Th.ok,okL,Z,g.1],by simp only[Th.depth,Wf];lia,by simp only[Th.size,Qw];lia⟩;refine⟨_,Xb,r,us,_,W,Xb,Xb,Zd.of hr,a1,?_⟩;refine⟨_,Xb,_,Xb,a,_,_,_,Xb,Xb,hS,e0,_,_,Xb,Xb,⟨by decide,by decide⟩,_,_,Xb,Xb,(by show(0:Int)<2;decide),_,_,Xb,Xb,r,us,_,X,Xb,Xb,Zd.of hr,a2,?_⟩;refine⟨_,Xb,_,Xb,L,_,Xb,Zd.of hq,λp1 ac=>?_⟩;rw[Qj9 es 4 (by decide)];have s1:=Qg ac (.lst (es.take (DF 4)));refine⟨_,Xb,_,Xb,by show 3<=Gj;decide,λx1 ad=>?_⟩;have s2:=Qg ad (.tup [.str "same",W,X]);refine⟨_,Xb,by show 2<=Gj;decide,λx2 ae=>?_⟩;have s3:=Qg ae (.tup [.str "fig",W]);refine⟨_,Xb,by show 2<=Gj;decide,λY af=>?_⟩;have s4:=Qg af (.tup [.str "fig",X]);refine⟨by show 3<=Gj;decide,λO ag=>?_⟩;have S:=Qg ag (.tup [.str "ask",.ref x2,.ref Y]);refine⟨by show 2<=Gj;decide,λl aa=>?_⟩;have N:=Qg aa (.lst [.ref x1,.ref O]);have ao:es.length=dl.length:=Gr o;have ah:=s1.trans s2;have ai:=ah.trans s3;have aj:=ai.trans s4;have ak:=aj.trans S;have al:=ak.trans N;refine⟨p1,l,_,_,Xb,Xb,(((s2.trans s3).trans s4).trans S).trans N _ _ Qb,Qb,small (by rw[List.length_take];show _+2<=_;lia),λn hn=>?_⟩;have T:=Qg hn (.lst (es.take (DF 4)++[.ref x1,.ref O]));have e:=al.trans T;have M:=((s4.trans S).trans N).trans T;have am:=(S.trans N).trans T;refine kk _ _ ⟨n,_,dl.take 4++[.tell Gf F G,.ask (.mk "fig" [F]) (.mk "fig" [G])],_,_,Xb,e,Qb,?_,?_,?_⟩
 ·refine Ys ?_ (.cons ⟨x1,W,X,Xb,(s3.trans M) _ _ Qb,i1.same e,i2.same e⟩ (.cons ⟨O,.ref x2,.ref Y,Xb,(N.trans T) _ _ Qb,.mk (M _ _ Qb) (.one (i1.same e)),.mk (am _ _ Qb) (.one (i2.same e))⟩ .nil));have all:∀{xs:List V}{ds:List Dd}(n:Nat),X5 H xs ds->X5 H (xs.take n) (ds.take n):=by
   intro xs ds n h;induction h generalizing n with
   |nil=>cases n<;>exact .nil
   |cons h r ih=>
    cases n with
    |zero=>exact .nil
    |succ n=>exact .cons h (ih n)
  exact(all 4 o).same e
 ·have m1:F∈ts:=List.mem_of_getElem? Q;have m2:G∈ts:=List.mem_of_getElem? R;refine⟨ts++[.mk "fig" [F],.mk "fig" [G]],⟨Ob λt ht p J=>?_,λt ht=>?_,by rw[List.length_append];show _+2<=60;lia⟩,λd hd=>?_⟩
  ·rcases List.mem_append.mp ht with z|z
   ·exact List.mem_append_left _ (D.cl t z p J)
   ·simp only[List.mem_cons,List.not_mem_nil,Ee]at z;rcases z with rfl|rfl
    ·simp only[Th.parts,List.mem_cons,List.not_mem_nil,Ee]at J;rw[J];exact List.mem_append_left _ m1
    ·simp only[Th.parts,List.mem_cons,List.not_mem_nil,Ee]at J;rw[J];exact List.mem_append_left _ m2
  ·rcases List.mem_append.mp ht with z|z
   ·exact v t z
   ·simp only[List.mem_cons,List.not_mem_nil,Ee]at z;rcases z with rfl|rfl
    ·exact gf F g1 z1 (by lia)
    ·exact gf G g2 z2 (by lia)
  ·have up:∀{d:Dd},d.fits ts->d.fits (ts++[.mk "fig" [F],.mk "fig" [G]]):=λ{d}h=>by
    cases d with
    |tell b x y=>exact⟨List.mem_append_left _ h.1,List.mem_append_left _ h.2⟩
    |ask x y=>exact⟨List.mem_append_left _ h.1,List.mem_append_left _ h.2⟩
    |back i=>exact TC
   rcases List.mem_append.mp hd with z|z
   ·exact up (k d (List.mem_of_mem_take z))
   ·simp only[List.mem_cons,List.not_mem_nil,Ee]at z;rcases z with rfl|rfl
    ·exact⟨List.mem_append_left _ m1,List.mem_append_left _ m2⟩
    ·exact⟨by simp,by simp⟩
 ·rw[List.length_append,List.length_take];show _+2<=6;lia
end
theorem Qzr(b:Bool):(tw b==("ask":Ta))=Gq:=by cases b<;>decide+kernel
theorem Qhd(b:Bool):(tw b==("back":Ta))=Gq:=by cases b<;>decide+kernel
theorem Qvs:(("ask":Ta)=="ask")=Gf:=by decide+kernel
theorem Qu0:(("back":Ta)=="ask")=Gq:=by decide+kernel
theorem Uy:(("back":Ta)=="back")=Gf:=by decide+kernel
theorem Qo6(n:Nat)(h:Uv H xs tl):Uv H (xs.take n) (tl.take n):=by
 unfold Uv at h⊢;induction h generalizing n with
 |nil=>cases n<;>exact .nil
 |cons h r a=>
  cases n with
  |zero=>exact .nil
  |succ n=>exact .cons h (a n)
section
variable{P:Gg}{w:Gs}{K:Gd}{mg:Ta->Option Value}{base:Heap}{f:Gc}{cdv:Value}{A:TL}{outer:List LR}{s:Gk}{Hi:Hp}{E:XK}
theorem Qw1{U:Gc}{dN dZ:Ts}(B:Blt mg)(hr:Yb 2 (XL P w K mg base f cdv A outer s Hi E).A)
  (GN:Qs P w K mg base Z4 2 fN dN ["_law_told","_law_one","_law_other"] Qk6)(kN:KI K fN)(bN:Binds K dN ["_law_told","_law_one","_law_other"] [])(mN:MG mg "_law_kind" fN)
  (GZ:Qs P w K mg base Z4 2 U dZ ["_law_told","_law_deed"] Qeh)(kZ:KI K U)(bZ:Binds K dZ ["_law_told","_law_deed"] [])(mZ:MG mg "_law_barred" U):
  ∃t,PS (XL P w K mg base f cdv A outer s Hi E) Q5h t/\∀(l e:Gc)(tv:List V)(tl:Tl)(d:Dd)(H0:Hp)(W X Y Z x4 x5 x6 x8:Option V)
  (hl:H0 l=Ga (.lst tv))(g:Uv H0 tv tl)(hd:Qb0 H0 (.ref e) d)(I:d.good)(G:Tlg tl)(ln:tl.length<=10),
  Tr t (λσ H=>H=H0/\σ=[W,X,Y,Z,x4,x5,x6,Ga (.ref l),x8,Ga (.ref e),Ga (.str "no moment")])
   (λσ H=>XE2 λN L=>PA5 (σ=[W,X,Y,Z,x4,x5,x6,Ga (.ref N),x8,Ga (.ref e),Ga (Vo tl d).2]) (Ih l H0 H) (N=l\/H0 N=Gh) (H N=Ga (.lst L)) (Uv H L (Vo tl d).1)):=by
 have nd:=Qnn.nd;refine⟨_,(Zn (Qr Wu (Qo Q5 (pv 9) Qk) Zf (Q3 _))
  (Qh (Qt 10 nd (Z1 GN hr rfl mN kN bN .nil Q6 (Qa (pv 7) (Qa (Qo Q5 (pv 9) Qk) (Qa (Qo Q5 (pv 9) Qk) Qe)))))) (Qh (Zn (PW.pt (Vs (Qr Wu (Qo Q5 (pv 9) Qk) Zf (Q3 _)) (Wr (Qq3 Qnu Qnu Qk (Qo Q5 (pv 9) Qk) (Qp Xc rfl B.len GO (Qa (pv 7) Qe))))))
  (Qd (Qt 10 nd (Zo Qc0 (Qp Xc rfl B.len GO (Qa (pv 7) Qe)) (Qo Q5 (pv 9) Qk)))
  (Qh (Qt 7 nd (Yu Vw (pv 7) Xx (Yy (Qo Q5 (pv 9) Qk)))))) (Qh (Zn (PW.pt (Vs (Qr Ic (Qo Q5 (pv 9) Qk) Zf (Q3 _)) (Wr (Xy (Z1 GZ hr rfl mZ kZ bZ .nil Q6 (Qa (pv 7) (Qa (pv 9) Qe)))))))
  (Qh (Qt 10 nd Zf)) (Qh (Zn (Qr Ic (Qo Q5 (pv 9) Qk) Zf (Q3 _))
  (Qd (Ze (Xw Gu GF GV Z0 (pv 7) (Qa (pv 9) Qe)))
  (Qh (Qt 10 nd (Qp Xc rfl B.len GO (Qa (pv 7) Qe))))) Q7))))))),?_⟩
 intro l e tv tl d H0 W X Y Z x4 x5 x6 x8 hl g hd I G ln;rintro D σ H ⟨rfl,rfl⟩ m;have q:tv.length=tl.length:=Gr g;have sz:=Qsq G;have J:∀p∈tl,(p.2.1.ok=Gf/\p.2.1.depth<=8)/\p.2.2.ok=Gf/\p.2.2.depth<=8:=λp M=>⟨⟨(G p M).1.1,(G p M).1.2.1⟩,(G p M).2.1,(G p M).2.2.1⟩;cases d with
 |tell b x y=>
  obtain⟨a',S,T,ea,h,O,Q⟩:=hd;cases ea;have v:=I.1;have C:=I.2;have zx:=v.2.2;have zy:=C.2.2;refine⟨_,Xb,e,_,_,_,Xb,Xb,Z2.of h,Qz (j:=0) rfl,Xb,_,Xb,?_⟩;rw[Yh,Qzr];refine Zp ?_;refine⟨_,Xb,e,_,_,_,Xb,Xb,Z2.of h,Qz (j:=0) rfl,Xb,_,Xb,?_⟩;rw[Yh,Qhd];refine Zp (Zp ?_);refine⟨_,Xb,e,_,_,_,Xb,Xb,Z2.of h,Qz (j:=0) rfl,Xb,_,Xb,?_⟩;rw[Yh,Qhd];refine Yv ?_;refine⟨_,Xb,_,Xb,l,e,tv,tl,S,T,b,x,y,Xb,hl,g,h,O,Q,⟨v.1,v.2.1⟩,⟨C.1,C.2.1⟩,J,by lia,λrr H1 s1 hb=>⟨rr,Xb,?_⟩⟩;cases rr with
  |true=>
   refine Yv ?_;have a:Vo tl (.tell b x y)=(tl,.str "clash"):=by simp only[Vo];rw[Gn (hb.mp Xb)]
   rw[a]at m;exact m _ _ ⟨l,tv,Xb,Ih.of s1,.inl Xb,s1 _ _ hl,g.Qm (Qu.of s1)⟩
  |false=>
   refine Zp ?_;have nb:¬Ik (tl++[(b,x,y)]):=λz=>Gx (hb.mpr z);have a:Vo tl (.tell b x y)=(tl++[(b,x,y)],.int ((tl.length:Int)+1)):=by simp only[Vo];rw[Gi nb]
   rw[a]at m;refine⟨_,Xb,e,_,_,_,Xb,Xb,Z2.of (s1 _ _ h),Qz (j:=0) rfl,Xb,_,Xb,?_⟩;rw[Yh,Qhd];refine Yv ?_;refine⟨_,Xb,.inl ⟨Xb,_,Zd.of (s1 _ _ hl)⟩,_,Xb,l,tv,_,Xb,Xb,s1 _ _ hl,by rw[GQ];lia,?_⟩;have R:Qu H (zj H1 l (.lst (tv++[.ref e]))):=(Qu.of s1).trans (Zs λxs z=>by rw[s1 _ _ hl]at z;cases z);refine⟨_,Xb,_,_,Xb,.inl ⟨_,Zd.of Qb,Xb⟩,?_⟩;have el:(((tv++[V.ref e]).length:Nat):Int)=(tl.length:Int)+1:=by rw[List.length_append,List.length_singleton,q];lia
   rw[el];exact m _ _ ⟨l,tv++[.ref e],Xb,λc o h1 h2=>by rw[Qf h2];exact s1 _ _ h1,.inl Xb,Qb,Ys (g.Qm R) (.cons ⟨e,S,T,Xb,R _ _ h,O.Qm R,Q.Qm R⟩ .nil)⟩
 |ask x y=>
  obtain⟨a',S,T,ea,h,O,Q⟩:=hd;cases ea;have v:=I.1;have C:=I.2;have zx:=v.2.2;have zy:=C.2.2;refine⟨_,Xb,e,_,_,_,Xb,Xb,Z2.of h,Qz (j:=0) rfl,Xb,_,Xb,?_⟩;rw[Yh,Qvs];refine Yv ?_;refine⟨_,Xb,_,Xb,e,_,_,_,Xb,Xb,Z2.of h,Qz (j:=1) rfl,_,Xb,e,_,_,_,Xb,Xb,Z2.of h,Qz (j:=2) rfl,l,tv,tl,S,T,x,y,Xb,hl,g,O,Q,⟨v.1,v.2.1⟩,⟨C.1,C.2.1⟩,J,by lia,λk H1 s1 hk=>?_⟩;have a:Vo tl (.ask x y)=(tl,.str k):=by simp only[Vo];rw[hk.eq]
  rw[a]at m;exact m _ _ ⟨l,tv,Xb,Ih.of s1,.inl Xb,s1 _ _ hl,g.Qm (Qu.of s1)⟩
 |back i=>
  obtain⟨a',ea,h⟩:=hd;cases ea;refine⟨_,Xb,e,_,_,_,Xb,Xb,Z2.of h,Qz (j:=0) rfl,Xb,_,Xb,?_⟩;rw[Yh,Qu0];refine Zp ?_;refine⟨_,Xb,e,_,_,_,Xb,Xb,Z2.of h,Qz (j:=0) rfl,Xb,_,Xb,?_⟩;rw[Yh,Uy];refine Yv ?_;refine⟨_,Xb,e,_,_,_,Xb,Xb,Z2.of h,Qz (j:=1) rfl,_,_,Xb,Xb,_,Xb,?_⟩;refine Vl (λr=>?_) (λr=>?_)
  ·have r:0<=i:=TJ r;refine⟨_,Xb,_,_,Xb,.inl ⟨_,Zd.of hl,Xb⟩,_,_,Xb,Xb,_,Xb,?_⟩;refine Vl (λu=>?_) (λu=>?_)
   ·have u:i<=(tv.length:Int):=TJ u;have a:Vo tl (.back i)=(tl.take i.toNat,.int ((tl.length:Int) - i)):=by simp only[Vo];rw[Gn ⟨r,by rw[<-q];exact u⟩]
    rw[a]at m;refine⟨_,Xb,_,_,Xb,.inl ⟨_,Zd.of hl,Xb⟩,_,Xb,e,_,_,_,Xb,Xb,Z2.of h,Qz (j:=1) rfl,_,_,Xb,Xb,?_⟩;refine⟨_,Xb,_,Xb,e,_,_,_,Xb,Xb,Z2.of h,Qz (j:=1) rfl,_,Xb,l,_,Xb,Zd.of hl,λn hn=>?_⟩;rw[Qj9 tv i r,q];have s1:=Qg hn (.lst (tv.take i.toNat));exact m _ _ ⟨n,_,Xb,Ih.of s1,.inr hn,Qb,Qo6 _ (g.Qm (Qu.of s1))⟩
   ·have u:¬i<=(tv.length:Int):=λz=>u (GX z);have a:Vo tl (.back i)=(tl,.str "no moment"):=by simp only[Vo];rw[Gi (λz=>u (by rw[q];exact z.2))]
    rw[a]at m;refine⟨_,Xb,e,_,_,_,Xb,Xb,Z2.of h,Qz (j:=0) rfl,Xb,_,Xb,?_⟩;rw[Yh,Uy];refine Zp (Zp ?_);refine⟨_,Xb,e,_,_,_,Xb,Xb,Z2.of h,Qz (j:=0) rfl,Xb,_,Xb,?_⟩;rw[Yh,Uy];refine Zp ?_;exact m _ _ ⟨l,tv,Xb,Ih.refl,.inl Xb,hl,g⟩
  ·have r:¬0<=i:=λz=>r (GX z);have a:Vo tl (.back i)=(tl,.str "no moment"):=by simp only[Vo];rw[Gi (λz=>r z.1)]
   rw[a]at m;refine⟨Gq,Xb,Zp ?_⟩;refine⟨_,Xb,e,_,_,_,Xb,Xb,Z2.of h,Qz (j:=0) rfl,Xb,_,Xb,?_⟩;rw[Yh,Uy];refine Zp (Zp ?_);refine⟨_,Xb,e,_,_,_,Xb,Xb,Z2.of h,Qz (j:=0) rfl,Xb,_,Xb,?_⟩;rw[Yh,Uy];refine Zp ?_;exact m _ _ ⟨l,tv,Xb,Ih.refl,.inl Xb,hl,g⟩
end
theorem Qp0(tl:Tl)(x y:Th):TU (kindOf tl x y)=Gf:=by
 unfold kindOf;split
 ·decide+kernel
 ·split<;>decide+kernel
theorem Qpj(tl:Tl)(d:Dd):(∃x,(Vo tl d).2=.str x/\TU x=Gf)\/∃i,(Vo tl d).2=.int i:=by
 cases d with
 |ask x y=>exact .inl ⟨_,Xb,Qp0 tl x y⟩
 |back i=>
  simp only[Vo];split
  ·exact .inr ⟨_,Xb⟩
  ·exact .inl ⟨_,Xb,by decide+kernel⟩
 |tell b x y=>
  simp only[Vo];split
  ·exact .inl ⟨_,Xb,by decide+kernel⟩
  ·exact .inr ⟨_,Xb⟩
theorem Qw2(h:(∃x,v=.str x/\TU x=Gf)\/∃i,v=.int i):∃d:TH,(∀H,Dt H v d)/\d.canLay0=Gf/\W0 d<=1000000/\d.depth<=60:=by
 rcases h with⟨x,rfl,a⟩|⟨i,rfl⟩
 ·exact⟨.str x,λ_=>.str x,by simp[Tp,a],by simp[W0],by simp[Dg]⟩
 ·exact⟨.int i,λ_=>.int i,by simp[Tp],by simp[W0],by simp[Dg]⟩
theorem Qs8(h:(∃x,v=.str x/\TU x=Gf)\/∃i,v=.int i):∃t,I9 K H v t/\Tf K t (.type "tuple")=Ga Gq:=by
 rcases h with⟨x,rfl,a⟩|⟨i,rfl⟩
 ·exact⟨_,.str x,Qud⟩
 ·exact⟨_,.int i,Qrg⟩
section
variable{P:Gg}{w:Gs}{K:Gd}{mg:Ta->Option Value}{base:Heap}
theorem Q0m{M nW nT:Nat}{fD fE fS fZ fT:Gc}{dD dE dR dW dS dN dZ dT:Ts}{pW pT:Ta}(F:Wd K "law" "law" Qhi f0 fd)(B:Blt mg)(hM:2<=M)(hW:nW<=M)(hT:nT<=M)
  (GD:Qs P w K mg base Z4 2 fD dD ["_law_cells"] (Qm9 K))(kD:KI K fD)(bD:Binds K dD ["_law_cells"] [])(mD:MG mg "_law_drawn_things" fD)
  (GE:Qs P w K mg base Z4 2 fE dE ["_law_cells","_law_things"] (Qnm K))(kE:KI K fE)(bE:Binds K dE ["_law_cells","_law_things"] [])(mE:MG mg "_law_drawn_deeds" fE)
  (GR:Qs P w K mg base Z4 1 fR dR ["_law_script","_law_most","_law_bound"] (Qsj K))(kR:KI K fR)(bR:Binds K dR ["_law_script","_law_most","_law_bound"] [])(mR:MG mg "_law_room" fR)
  (GS:Qs P w K mg base Z4 1 fS dS ["_law_found","_law_due"] Q2a)(kS:KI K fS)(bS:Binds K dS ["_law_found","_law_due"] [])(mS:MG mg "_law_so" fS)
  (GN:Qs P w K mg base Z4 2 fN dN ["_law_told","_law_one","_law_other"] Qk6)(kN:KI K fN)(bN:Binds K dN ["_law_told","_law_one","_law_other"] [])(mN:MG mg "_law_kind" fN)
  (GZ:Qs P w K mg base Z4 2 fZ dZ ["_law_told","_law_deed"] Qeh)(kZ:KI K fZ)(bZ:Binds K dZ ["_law_told","_law_deed"] [])(mZ:MG mg "_law_barred" fZ)
  (GW:Qs P w K mg base Z4 nW fW dW [pW] Qa7)(kW:KI K fW)(bW:Binds K dW [pW] [])(mW:MG mg "answers" fW)
  (GT:Qs P w K mg base Z4 nT fT dT [pT] Qls)(kT:KI K fT)(bT:Binds K dT [pT] [])(mT:MG mg "told_after" fT):
  Qs P w K mg base Z4 (M+1) f0 fd ["_law_script"] (Qnf K):=by
 refine F.ok Qnn (λvs H Q E h=>?_) (λcdv A outer s H vs Q E hr h=>?_)
 ·obtain⟨a,ns,rfl,_⟩:=h;rfl
 subst_vars;obtain⟨a,ns,rfl,hS,ap,q⟩:=h;have nd:=Qnn.nd;have hu:=hr.units;have ah:Yb 2 _:=hr.mono hM;have L:Yb 1 _:=hr.mono (by lia);have aP:Yb nW _:=hr.mono hW;have aO:Yb nT _:=hr.mono hT;obtain⟨tM,aW,aY⟩:=Qui (P:=P) (w:=w) (K:=K) (mg:=mg) (base:=base) (f:=f0) (cdv:=cdv) (A:=A) (outer:=outer) (s:=s) (Hi:=H) (E:=E) B;obtain⟨tD,aV,aX⟩:=Qw1 (P:=P) (w:=w) (K:=K) (mg:=mg) (base:=base) (f:=f0) (cdv:=cdv) (A:=A) (outer:=outer) (s:=s) (Hi:=H) (E:=E) B ah GN kN bN mN GZ kZ bZ mZ;and_intros;refine⟨_,(Qd (Qt 1 nd (Z1 GD ah rfl mD kD bD .nil Q6 (Qa (Zo Ul (Yu Vw (pv 0) (Yy Qk) (Yy Qk)) (Yu Vw (pv 0) (Yy Qk) (Yy Qk))) Qe)))
  (Qd (Qt 2 nd (Z1 GE ah rfl mE kE bE .nil Q6 (Qa (Yu Vw (pv 0) (Yy Qk) (Yy (Zo Qaq Qk (Z1 GR L rfl mR kR bR .nil Q6 (Qa (pv 0) (Qa Qk (Qa Qk Qe))))))) (Qa (pv 1) Qe))))
  (Qd aW
  (Qd (Qt 5 nd (Xr Vy rfl B.list TD (Qa (pv 2) Qe)))
  (Qd (Qt 6 nd (Z1 GW aP rfl mW kW bW .nil Q6 (Qa (pv 5) Qe)))
  (Qd (Zn (PW.pt (Ov (Ri (Xy (Qp Xp rfl B.isinstance Tb (Qa (pv 6) (Qa (Xt (v:=.ty "list") rfl B.list TD Xb) Qe))))) (Ov (Qr Ic (Qp Xc rfl B.len GO (Qa (pv 6) Qe)) (Qp Xc rfl B.len GO (Qa (pv 2) Qe)) (Q3 _)) (R1 (Ri (Xy (Z1 GS L rfl mS kS bS .nil Q6 (Qa (pv 5) (Qa (pv 2) Qe)))))))))
  (Qh (Qv Vi)) Q7)
  (Qd (Qt 7 nd (Zt Qe))
  (Qd (Yg Gy rfl (Us rfl B.range (Qa (Qp Xc rfl B.len GO (Qa (pv 2) Qe)) Qe)) (Yc 8 nd)
  (Qd (Qt 9 nd (Qo Zh (pv 2) (pv 8)))
  (Qd (Qt 10 nd Zf)
  (Qd aV
  (Qd (Qt 3 nd (Qo Zh (pv 6) (pv 8)))
  (Qd (Zn (PW.pt (Vs (Xy (Qp Xp rfl B.isinstance Tb (Qa (pv 3) (Qa (Xt (v:=.ty "tuple") rfl B.tuple TX Xb) Qe)))) (Wr (Qr Qc4 (Qp Xc rfl B.len GO (Qa (pv 3) Qe)) Qk (Q3 _)))))
  (Qh (Qt 3 nd (Qo Q5 (pv 3) Qk))) Q7)
  (Qh (Zn (Ri (Xy (Z1 GS L rfl mS kS bS .nil Q6 (Qa (pv 3) (Qa (pv 10) Qe)))))
  (Qh (Qv Vi)) Q7))))))))
  (Qh (Qv (Z1 GS L rfl mS kS bS .nil Q6 (Qa (Z1 GT aO rfl mT kT bT .nil Q6 (Qa (Xr Vy rfl B.list TD (Qa (pv 2) Qe)) Qe)) (Qa (pv 7) Qe))))))))))))),?_⟩
 subst_vars;obtain⟨t,X,aZ,_⟩:=Qhb ns 1 5;obtain⟨a2,Y,_,al⟩:=Qhb ns 64 70;obtain⟨aj,Z,a0,_⟩:=Qhb ns 5 11;and_intros;have al:=al (by lia);subst al;have X:U9 (ns.map V.int) (Ga 1) (Ga 5)=t.map V.int:=X;have Y:U9 (ns.map V.int) (Ga 64) (Ga 70)=[]:=Y;have Z:U9 (ns.map V.int) (Ga 5) (Ga (5+6))=aj.map V.int:=Z;refine⟨_,Xb,_,Xb,_,Xb,a,_,Xb,hS,λp1 aK=>?_⟩;rw[X];have s1:=Qg aK (.lst (t.map V.int));refine⟨_,Xb,_,Xb,_,Xb,a,_,Xb,s1.seq hS,λp2 aL=>?_⟩;rw[Y];have s2:=Qg aL (.lst []);refine⟨p1,p2,_,_,Xb,Xb,s2 _ _ Qb,Qb,small (by rw[List.length_map];show _+0<=_;lia),λp3 aM=>?_⟩;rw[List.append_nil];have s3:=Qg aM (.lst (t.map V.int));refine⟨p3,t,Xb,Zd.of Qb,by lia,λr us ts H1 g1 _ gl ga D=>?_⟩;have sA:=((s1.trans s2).trans s3).trans g1;have a1:=D.len;refine⟨_,Xb,_,Xb,_,Xb,a,ns,_,_,Xb,sA.seq hS,ap,_,_,Xb,Xb,_,Xb,a,_,Xb,sA.seq hS,λp4 aN=>?_⟩;rw[Z];have s4:=Qg aN (.lst (aj.map V.int));refine⟨_,Xb,p4,r,aj,us,ts,Xb,Zd.of Qb,by lia,s4 _ _ gl,ga.same s4,by lia,by lia,λq0 es dl H2 g2 _ W T ld am=>?_⟩;have sB:=(sA.trans s4).trans g2;refine aY a r q0 ns us es ts dl t.length H2 (sB.seq hS) (g2 _ _ (s4 _ _ gl)) ((ga.same s4).same g2) D (by lia) W T am (by lia) _ _ _ ⟨Xb,Xb⟩ ?_;clear T ld am W;rintro a4 H3 ⟨qd,es,dl,x3,x4,rfl,g3,W,T,⟨U,hU,g⟩,ld⟩;have good:∀d∈dl,d.good:=λd hd=>hU.Q4h (g d hd);have aq:es.length=dl.length:=Gr T;refine⟨_,Xb,qd,es,Xb,.inl (Zd.of W),λhh aJ=>?_⟩;have s5:=Qg aJ (.lst es);refine⟨_,Xb,hh,es,dl,U,Xb,Qb,T.same s5,hU,g,by lia,λaa rs H4 g4 gf gr=>?_⟩;have aS:rs.length=dl.length:=by rw[show rs.length=(Ot [] dl).length from Gr gr,Qa8]
 have s6:=s5.trans g4;obtain⟨y1,y2,y3⟩:=Qiw (ds:=dl.map ddD) (λd hd=>by obtain⟨e,he,rfl⟩:=List.mem_map.mp hd;exact Qv1 (good e he)) (by rw[List.length_map];lia)
 refine⟨_,Xb,_,_,_,Gf,Xb,.lst gf,Qsx,Gf,Xb,?_⟩;refine Zp ?_;refine⟨_,Xb,_,_,Xb,.inl ⟨_,Zd.of gf,Xb⟩,_,Xb,_,_,Xb,.inl ⟨_,Zd.of (s6 _ _ W),Xb⟩,Xb,_,Xb,?_⟩;rw[Vv];have aA:(((rs.length:Nat):Int)==((es.length:Nat):Int))=Gf:=by rw[aS,aq];simp
 rw[aA];refine Zp ?_;refine⟨_,Xb,_,Xb,_,_,.list (dl.map ddD),Xb,.lst (g4 _ _ Qb) ((T.same s5).same g4).dts,.lst (s6 _ _ W) (T.same s6).dts,y1,y2,y3,λH5 g5=>⟨Gf,Xb,Zp ?_⟩⟩;refine⟨Gw _,λC J=>?_⟩;have s7:=Qg J (.lst []);have aw:=(s6.trans g5).trans s7;have ax:=g5.trans s7;generalize aG:zj H5 C (.lst [])=R at*;have O:R C=Ga (.lst []):=by rw[<-aG];exact Qb
 have ac:=aw _ _ W;have an:=T.same aw;have aD:=ax _ _ gf;have aE:Paired (Qeb R) rs (Ot [] dl):=L2.Paired.Ya gr λv h hh=>by
  rcases hh with z|⟨a,xs,z1,z2⟩
  ·exact .inl z
  ·exact .inr ⟨a,xs,z1,ax _ _ z2⟩
 have nq:H5 C=Gh:=J;have ar:qd≠C:=Qc ((s6.trans g5) _ _ W) J;have aT:aa≠C:=Qc (g5 _ _ gf) J;let aU:Nat->St->Hp->Prop:=λk σ S=>XE6 λ(l:Gc)(tv:List V)(x3 x8 x9 ak:Option V)=>PA5 (σ=[Ga (.ref a),Ga (.ref r),Ga (.ref qd),x3,x4,Ga (.ref hh),Ga (.ref aa),Ga (.ref l),x8,x9,ak]) (∀c o,R c=Ga o->c≠C->S c=Ga o) (∀c o,R c=Ga o->c≠C->c≠l) (S l=Ga (.lst tv)) (Uv S tv (after [] (dl.take k)))
 refine⟨_,Xb,_,_,Xb,.inl ⟨_,Zd.of ac,Xb⟩,_,Xb,by lia,by lia,Uz (lo:=0) (n:=((es.length:Int)).toNat) aU
  ⟨C,[],_,_,_,_,Xb,λc o e _=>e,λc o _ h=>h,O,by simp[after];exact .nil⟩ ?_ ?_⟩
 ·rintro k σ S hk ⟨l,tv,x3,x8,x9,ak,rfl,kp,nl,ab,G⟩;have hk:k<dl.length:=by lia
  have tu:Qu R S:=λc xs e=>kp c _ e (λz=>by rw[z,O]at e;cases e);subst_vars;obtain⟨x,ex⟩:∃x,es[k]?=Ga x:=⟨_,List.getElem?_eq_getElem (by lia)⟩;obtain⟨d,ed,aH⟩:=Qy an ex;have I:=aH.Qm tu;obtain⟨e,rfl⟩:∃e,x=V.ref e:=by
   cases d with
   |tell b x y=>obtain⟨a,_,_,h,_⟩:=I;exact⟨a,h⟩
   |ask x y=>obtain⟨a,_,_,h,_⟩:=I;exact⟨a,h⟩
   |back i=>obtain⟨a,h,_⟩:=I;exact⟨a,h⟩
  and_intros;have aC:=good d (List.mem_of_getElem? ed);have af:Tlg (after [] (dl.take k)):=Rj (λp hp=>nomatch hp) λd hd=>good d (List.mem_of_mem_take hd);have ai:(after [] (dl.take k)).length<=10:=by have:=Iv (ds:=dl.take k) (tl:=[]);rw[List.length_take]at this;simp at this;lia
  have ad:=kp _ _ ac ar;refine⟨_,Xb,_,Xb,qd,es,_,_,Xb,Xb,Zd.of ad,(by rw[EA];exact Qz ex),?_⟩;refine aX l e tv (after [] (dl.take k)) d S _ _ _ _ _ _ _ _ ab G I aC af ai _ _ _ ⟨Xb,Xb⟩ ?_;rintro a5 H8 ⟨l',ay,rfl,bt,ll,ao,ae⟩;have N:∀c o,R c=Ga o->c≠C->H8 c=Ga o:=λc o e h=>bt c o (kp c o e h) (nl c o e h);have au:∀c o,R c=Ga o->c≠C->c≠l':=λc o e h=>by
   rcases ll with z|z
   ·rw[z];exact nl c o e h
   ·intro y;rw[<-y,kp c o e h]at z;cases z
  rw[<-Rv ed]at ae;obtain⟨v,ev⟩:∃v,rs[k]?=Ga v:=⟨_,List.getElem?_eq_getElem (by lia)⟩;obtain⟨hv,eh,aI⟩:=Qy aE ev;rw[Qam ed]at eh;cases eh;have sc:=Qpj (after [] (dl.take k)) d;subst_vars;obtain⟨dd,dt,d1,d2,d3⟩:=Qw2 sc;and_intros;refine⟨_,Xb,_,Xb,aa,rs,_,_,Xb,Xb,Zd.of (N _ _ aD aT),(by rw[EA];exact Qz ev),?_⟩;rcases aI with rfl|⟨av,xv,rfl,ag⟩
  ·obtain⟨ty,aQ,aR⟩:=Qs8 (K:=K) (H:=H8) sc;refine⟨_,Xb,_,_,_,Gq,Xb,aQ,aR,Gq,Xb,Zp (Zp ?_)⟩;refine⟨_,Xb,_,Xb,_,_,dd,Xb,dt _,dt _,d1,d2,d3,λH9 u=>⟨Gf,Xb,Zp ?_⟩⟩;exact⟨l',ay,_,_,_,_,Xb,λc o e h=>u _ _ (N c o e h),au,u _ _ ao,ae.Qm (Qu.of u)⟩
  ·have m:=N _ _ ag (λz=>by rw[z,O]at ag;cases ag);refine⟨_,Xb,_,_,_,Gf,Xb,.tup m,Qrs,Gf,Xb,Yv ?_⟩;refine⟨_,Xb,_,_,Xb,.inr ⟨_,Z2.of m,Xb⟩,_,_,Xb,Xb,_,Xb,?_⟩;rw[GX (show(0:Int)<(((Vo (after [] (dl.take k)) d).2::xv).length:Int) by rw[List.length_cons];lia)];refine Yv ?_;refine⟨_,Xb,av,_,_,_,Xb,Xb,Z2.of m,Qz (j:=0) rfl,?_⟩;refine⟨_,Xb,_,Xb,_,_,dd,Xb,dt _,dt _,d1,d2,d3,λH9 u=>⟨Gf,Xb,Zp ?_⟩⟩;exact⟨l',ay,_,_,_,_,Xb,λc o e h=>u _ _ (N c o e h),au,u _ _ ao,ae.Qm (Qu.of u)⟩
 ·rintro σ S ⟨l,tv,x3,x8,x9,ak,rfl,kp,nl,ab,G⟩;have e7:dl.take (((es.length:Int)).toNat)=dl:=by rw[Dl,aq,List.take_length]
  rw[e7]at G;have tu:Qu R S:=λc xs e=>kp c _ e (λz=>by rw[z,O]at e;cases e);have ad:=kp _ _ ac ar;have af:Tlg (after [] dl):=Rj (λp hp=>nomatch hp) good;have ai:=Iv (ds:=dl) (tl:=[]);obtain⟨z1,z2,z3⟩:=Qiw (ds:=(after [] dl).map tlD) (Qv5 af) (by rw[List.length_map];simp at ai;lia);refine⟨_,Xb,qd,es,Xb,.inl (Zd.of ad),λn hn=>?_⟩;have s8:=Qg hn (.lst es);refine⟨n,es,dl,U,Xb,Qb,(an.Qm tu).same s8,hU,g,by lia,λrt a3 H9 u aF aB=>?_⟩;refine⟨_,Xb,_,_,.list ((after [] dl).map tlD),Xb,.lst aF aB.dts,.lst (u _ _ (s8 _ _ ab)) ((G.Qm (Qu.of s8)).Qm (Qu.of u)).dts,z1,z2,z3,λaz _=>q az⟩
end
end K05
namespace L2
open PySem PySem.Spec PyProof.Rows
variable{p0 p1:Ta}
section
variable{K:Gd}{x qual:Ta}{st:T6}{f:Gc}{fd:Ts}
theorem Wd.b1(F:Wd K x qual st f fd)(h:∀(kV doc pm:Value)(an:Option Gc)(cdv ct:Value)(u0:Value),bindArgs (Dw x qual (Vg st) (Qj st) (Ql st) .none kV doc pm an cdv ct) ⟨[u0],[]⟩=pure ([p0].zip [u0])):Binds K fd [p0] []:=
 F.binds λa b c d e g us hl=>by rcases us with _|⟨u0,_|_⟩<;>first|exact h a b c d e g u0|cases hl
theorem Wd.b2(F:Wd K x qual st f fd)(h:∀(kV doc pm:Value)(an:Option Gc)(cdv ct:Value)(u0 i:Value),bindArgs (Dw x qual (Vg st) (Qj st) (Ql st) .none kV doc pm an cdv ct) ⟨[u0,i],[]⟩=pure ([p0,p1].zip [u0,i])):Binds K fd [p0,p1] []:=
 F.binds λa b c d e g us hl=>by rcases us with _|⟨u0,_|⟨i,_|_⟩⟩<;>first|exact h a b c d e g u0 i|cases hl
theorem Wd.b3{p2:Ta}(F:Wd K x qual st f fd)(h:∀(kV doc pm:Value)(an:Option Gc)(cdv ct:Value)(u0 i j:Value),bindArgs (Dw x qual (Vg st) (Qj st) (Ql st) .none kV doc pm an cdv ct) ⟨[u0,i,j],[]⟩=pure ([p0,p1,p2].zip [u0,i,j])):Binds K fd [p0,p1,p2] []:=
 F.binds λa b c d e g us hl=>by rcases us with _|⟨u0,_|⟨i,_|⟨j,_|_⟩⟩⟩<;>first|exact h a b c d e g u0 i j|cases hl
theorem Wd.b4{p2 p3:Ta}(F:Wd K x qual st f fd)(h:∀(kV doc pm:Value)(an:Option Gc)(cdv ct:Value)(u0 i j k:Value),bindArgs (Dw x qual (Vg st) (Qj st) (Ql st) .none kV doc pm an cdv ct) ⟨[u0,i,j,k],[]⟩=pure ([p0,p1,p2,p3].zip [u0,i,j,k])):Binds K fd [p0,p1,p2,p3] []:=
 F.binds λa b c d e g us hl=>by rcases us with _|⟨u0,_|⟨i,_|⟨j,_|⟨k,_|_⟩⟩⟩⟩<;>first|exact h a b c d e g u0 i j k|cases hl
end
theorem Zx{K:Gd}{x q:Ta}{st:T6}{f:Gc}(h:Sb.Yx K x q st f):∃fd,Wd K x q st f fd/\TY K (.ref f)=Gf:=by obtain⟨_,_,_,_,_,_,_,_,_,l,c,k⟩:=h;exact⟨_,Qul l c k,k⟩
end L2
namespace K05
open PySem L2 Sb
section
variable{K:Gd}
theorem Qzl{l:S0}{w:Gs}{h:Heap}{mg:Ta->Option Value}{fa:Gc}(X:K.In h)(G:h.Ns T5 mg)(ew:mg "law"=Ga (.ref fa))(x:Fx K)
  :∃fd:Ts,(∀(s:Gk)(v:Value),L1 s fd ⟨[v],[]⟩ [("_law_script",v)])/\∀base:Heap,K.In base->base.Ns T5 mg->Qs l.prog w K mg base Z4 67 fa fd ["_law_script"] (Qnf K):=by
 obtain@⟨CP,CW,q,CS,CB,f0,f1,f2,f3,f4,f5,f6,f7,f8,f9,dw,dx,dy,dz,dA,dC,dD,dE,dF,dG,fB,fC,fD,dH,dI,dJ,dK,fE,dL,dM,dO,dQ,dR,dT,fF,fG,fH,fI,fJ,fK,fL,fM,fN,fO,fP,fQ,fR,fU,fy,fA,fz,aP,pP,dP,oP,sP,mP,cP,z,Q,R,aW,pW,dW,oW,sW,mW,cW,D,T,aN,pN,dN,oN,sN,mN,cN,I,J,o,O,N,L,u,H,aS,pS,dS,oS,sS,mS,cS,A,ar,S,p,aB,pB,dB,oB,sB,mB,cB,t,ab,n,bH,bJ,bI,c6,a0,h0,a1,i1,h1,a2,i2,h2,a3,i3,h3,a4,h4,a5,h5,a6,i6,h6,a7,i7,h7,a8,h8,a9,i9,h9,cs,ex,dU,cu,ey,dV,cv,ez,dX,cw,eA,dY,cx,eB,dZ,cy,eC,d0,cz,eD,d1,cA,eE,d2,cC,eF,d3,cD,eG,d4,cE,d5,cF,d6,bv,d7,cG,eH,d8,cH,eI,d9,cI,eJ,ea,cJ,eK,eb,cK,ec,cL,eL,ed,cM,eM,ee,cO,eN,ef,cQ,eO,eg,cR,eP,eh,cT,eQ,ei,bw,ej,cU,ek,cV,el,cX,em,cY,en,cZ,eo,c0,ep,c1,eq,c2,er,bx,es,c3,et,c4,eu,c5,ev,U,aw,au,r,j,ax,ac,av,b,i,a,d,ay,E⟩:=x;have e:=ew.symm.trans (Er X G c5);cases e;have g:=λ{x:Ta}{f:Gc}(e:NsF K x f)=>Er X G e;have y:=λ{x:Ta}(e:NsN K x)=>NZ X G e;have TP:Qev K mg CP:=⟨⟨pP,dP,oP,sP⟩,z,Q,R,g aP⟩;have TW:Quo K mg CW:=⟨⟨pW,dW,oW,sW⟩,D,T,g aW,⟨_,Er X G bH,⟨_,Xb⟩⟩,⟨_,Er X G bJ,⟨_,Xb⟩⟩,⟨_,Er X G bI,⟨_,Xb⟩⟩⟩;have c:Uc K mg q:=⟨⟨pN,dN,oN,sN⟩,I,J,o,O,N,L,u,H,g aN⟩;have TS:Qpe K CS:=⟨⟨pS,dS,oS,sS⟩,A,ar,S,p⟩;have Y:Qew K mg CB:=⟨⟨pB,dB,oB,sB⟩,t,ab,n,g aB,⟨_,Er X G c6,⟨_,Xb⟩⟩⟩;have B:Blt mg:=⟨y U,y aw,y au,y r,y j,y ax,y ac,y av,y b,y i,y a⟩;have m:Jr mg:=⟨y U,y r,y j,y i,y a,y d,y ay,y E⟩;obtain⟨_,F0,k0⟩:=Zx h0;have b0:=F0.b1 (p0:="thing") λ_ _ _ _ _ _ _=>rfl;obtain⟨_,F1,k1⟩:=Zx h1;have b1:=F1.b1 (p0:="self") λ_ _ _ _ _ _ _=>rfl;obtain⟨_,F2,k2⟩:=Zx h2;have b2:=F2.b2 (p0:="self") (p1:="thing") λ_ _ _ _ _ _ _ _=>rfl;have m2:Z9 K CP "place_of" f2:=⟨a2,i2,k2⟩;obtain⟨_,F3,k3⟩:=Zx h3;have b3:=F3.b2 (p0:="self") (p1:="places") λ_ _ _ _ _ _ _ _=>rfl;obtain⟨_,F4,k4⟩:=Zx h4;have b4:=F4.b2 (p0:="met") (p1:="thing") λ_ _ _ _ _ _ _ _=>rfl;obtain⟨_,F5,k5⟩:=Zx h5;have b5:=F5.b2 (p0:="spare") (p1:="inner") λ_ _ _ _ _ _ _ _=>rfl;obtain⟨_,F6,k6⟩:=Zx h6;have b6:=F6.b4 (p0:="self") (p1:="thing") (p2:="near") (p3:="spare") λ_ _ _ _ _ _ _ _ _ _=>rfl;have m6:Z9 K CW "place_within" f6:=⟨a6,i6,k6⟩;obtain⟨_,F7,k7⟩:=Zx h7;have b7:=F7.b3 (p0:="self") (p1:="thing") (p2:="form") λ_ _ _ _ _ _ _ _ _=>rfl;have m7:Z9 K CP "place_by_form" f7:=⟨a7,i7,k7⟩;obtain⟨_,F8,k8⟩:=Zx h8;have b8:=F8.b2 (p0:="forms") (p1:="told") λ_ _ _ _ _ _ _ _=>rfl;obtain⟨_,F9,k9⟩:=Zx h9;have b9:=F9.b2 (p0:="self") (p1:="forms") λ_ _ _ _ _ _ _ _=>rfl;obtain⟨_,az,eR⟩:=Zx dU;have bz:=az.b2 (p0:="self") (p1:="place") λ_ _ _ _ _ _ _ _=>rfl;have bN:Z9 K q "take_in" dw:=⟨cs,ex,eR⟩;obtain⟨_,ad,eS⟩:=Zx dV;have ai:=ad.b2 (p0:="self") (p1:="place") λ_ _ _ _ _ _ _ _=>rfl;have am:Z9 K q "key_of" dx:=⟨cu,ey,eS⟩;obtain⟨_,aA,eT⟩:=Zx dX;have aj:=aA.b3 (p0:="self") (p1:="one") (p2:="other") λ_ _ _ _ _ _ _ _ _=>rfl;have ao:Z9 K q "equal" dy:=⟨cv,ez,eT⟩;obtain⟨_,aC,eU⟩:=Zx dY;have bA:=aC.b4 (p0:="self") (p1:="one") (p2:="other") (p3:="reason") λ_ _ _ _ _ _ _ _ _ _=>rfl;have bO:Z9 K q "merge" dz:=⟨cw,eA,eU⟩;obtain⟨_,aD,eV⟩:=Zx dZ;have c7:=aD.b2 (p0:="self") (p1:="link") λ_ _ _ _ _ _ _ _=>rfl;have fp:Z9 K q "merge_link" dA:=⟨cx,eB,eV⟩;obtain⟨_,aE,eW⟩:=Zx d0;have c8:=aE.b3 (p0:="self") (p1:="low") (p2:="high") λ_ _ _ _ _ _ _ _ _=>rfl;have fq:Z9 K q "hang" dC:=⟨cy,eC,eW⟩;obtain⟨_,aF,eX⟩:=Zx d1;have c9:=aF.b3 (p0:="self") (p1:="gone") (p2:="kept") λ_ _ _ _ _ _ _ _ _=>rfl;have fr:Z9 K q "give_over" dD:=⟨cz,eD,eX⟩;obtain⟨_,aG,eY⟩:=Zx d2;have ak:=aG.b3 (p0:="self") (p1:="one") (p2:="other") λ_ _ _ _ _ _ _ _ _=>rfl;have ap:Z9 K q "way" dE:=⟨cA,eE,eY⟩;obtain⟨_,aH,eZ⟩:=Zx d3;have da:=aH.b2 (p0:="self") (p1:="place") λ_ _ _ _ _ _ _ _=>rfl;have fs:Z9 K q "way_up" dF:=⟨cC,eF,eZ⟩;obtain⟨_,aI,e0⟩:=Zx d4;have db:=aI.b1 (p0:="self") λ_ _ _ _ _ _ _=>rfl;have ft:Z9 K q "rows" dG:=⟨cD,eG,e0⟩;obtain⟨_,aJ,e1⟩:=Zx d5;have dd:=aJ.b4 (p0:="things") (p1:="net") (p2:="one") (p3:="other") λ_ _ _ _ _ _ _ _ _ _=>rfl;obtain⟨_,aK,e2⟩:=Zx d6;have de:=aK.b3 (p0:="net") (p1:="one") (p2:="other") λ_ _ _ _ _ _ _ _ _=>rfl;obtain⟨_,aL,bK⟩:=Zx d7;have bB:=aL.b2 (p0:="net") (p1:="link") λ_ _ _ _ _ _ _ _=>rfl;obtain⟨_,aM,fS⟩:=Zx d8;have df:=aM.b3 (p0:="self") (p1:="things") (p2:="net") λ_ _ _ _ _ _ _ _ _=>rfl;obtain⟨_,aO,e3⟩:=Zx d9;have al:=aO.b4 (p0:="self") (p1:="one") (p2:="other") (p3:="reason") λ_ _ _ _ _ _ _ _ _ _=>rfl;have aq:Z9 K CS "write" dI:=⟨cH,eI,e3⟩;obtain⟨_,aQ,e4⟩:=Zx ea;have dg:=aQ.b2 (p0:="self") (p1:="link") λ_ _ _ _ _ _ _ _=>rfl;have fu:Z9 K CS "write_link" dJ:=⟨cI,eJ,e4⟩;obtain⟨_,ae,e5⟩:=Zx eb;have Z:=ae.b3 (p0:="self") (p1:="one") (p2:="other") λ_ _ _ _ _ _ _ _ _=>rfl;have aa:Z9 K CS "line_for" dK:=⟨cJ,eK,e5⟩;obtain⟨_,aR,e6⟩:=Zx ec;have dh:=aR.b1 (p0:="deeds") λ_ _ _ _ _ _ _=>rfl;obtain⟨_,aT,fT⟩:=Zx ed;have bC:=aT.b1 (p0:="self") λ_ _ _ _ _ _ _=>rfl;obtain⟨_,aU,e7⟩:=Zx ee;have bD:=aU.b2 (p0:="self") (p1:="deed") λ_ _ _ _ _ _ _ _=>rfl;have bP:Z9 K CB "answer" dM:=⟨cM,eM,e7⟩;obtain⟨_,aV,e8⟩:=Zx ef;have di:=aV.b2 (p0:="self") (p1:="moment") λ_ _ _ _ _ _ _ _=>rfl;have fv:Z9 K CB "go_back" dO:=⟨cO,eN,e8⟩;obtain⟨_,aX,e9⟩:=Zx eg;have dj:=aX.b3 (p0:="self") (p1:="deed") (p2:="entry") λ_ _ _ _ _ _ _ _ _=>rfl;have fw:Z9 K CB "tell" dQ:=⟨cQ,eO,e9⟩;obtain⟨_,aY,fb⟩:=Zx eh;have dk:=aY.b2 (p0:="self") (p1:="entry") λ_ _ _ _ _ _ _ _=>rfl;have fx:Z9 K CB "ask" dR:=⟨cR,eP,fb⟩;obtain⟨_,aZ,fc⟩:=Zx ei;have bE:=aZ.b3 (p0:="self") (p1:="net") (p2:="entry") λ_ _ _ _ _ _ _ _ _=>rfl;have bQ:Z9 K CB "lines_for" dT:=⟨cT,eQ,fc⟩;obtain⟨_,ba,bL⟩:=Zx ej;have bF:=ba.b2 (p0:="net") (p1:="entries") λ_ _ _ _ _ _ _ _=>rfl;obtain⟨_,bb,fe⟩:=Zx ek;have dl:=bb.b1 (p0:="deeds") λ_ _ _ _ _ _ _=>rfl;obtain⟨_,bc,ff⟩:=Zx el;have dm:=bc.b1 (p0:="deeds") λ_ _ _ _ _ _ _=>rfl;obtain⟨_,bd,fg⟩:=Zx em;have dn:=bd.b1 (p0:="_law_cell") λ_ _ _ _ _ _ _=>rfl;obtain⟨_,be,fh⟩:=Zx en;have dp:=be.b2 (p0:="_law_found") (p1:="_law_due") λ_ _ _ _ _ _ _ _=>rfl;obtain⟨_,bf,fi⟩:=Zx eo;have dq:=bf.b1 (p0:="_law_cells") λ_ _ _ _ _ _ _=>rfl;obtain⟨_,bg,fj⟩:=Zx ep;have dr:=bg.b2 (p0:="_law_cells") (p1:="_law_things") λ_ _ _ _ _ _ _ _=>rfl;obtain⟨_,bh,fk⟩:=Zx eq;have ds:=bh.b3 (p0:="_law_script") (p1:="_law_most") (p2:="_law_bound") λ_ _ _ _ _ _ _ _ _=>rfl;obtain⟨_,bi,fl⟩:=Zx er;have dt:=bi.b1 (p0:="_law_cell") λ_ _ _ _ _ _ _=>rfl;obtain⟨_,bj,bM⟩:=Zx es;have bG:=bj.b2 (p0:="_law_told") (p1:="_law_things") λ_ _ _ _ _ _ _ _=>rfl;obtain⟨_,bk,fm⟩:=Zx et;have du:=bk.b3 (p0:="_law_told") (p1:="_law_one") (p2:="_law_other") λ_ _ _ _ _ _ _ _ _=>rfl;obtain⟨_,bl,fn⟩:=Zx eu;have dv:=bl.b2 (p0:="_law_told") (p1:="_law_deed") λ_ _ _ _ _ _ _ _=>rfl;obtain⟨oc,od,an,sl,kV,dc,pm,cd,ct,ll,cc,fo⟩:=ev;have bR:=Qul (st:=Qhi) ll cc fo;have MP:Mk K CP f1:=⟨mP,a1,i1,cP⟩;have MW:Mk K CW f3:=⟨mW,a3,i3,cW⟩;have MN:Mk K q f9:=⟨mN,a9,i9,cN⟩;have MS:Mk K CS dH:=⟨mS,cG,eH,cS⟩;have MB:Mk K CB dL:=⟨mB,cL,eL,cB⟩;refine⟨Dw "law" "law" (Vg Qhi) (Qj Qhi) (Ql Qhi) .none kV dc pm an cd ct,λs v=>.of_eq Xb,λbase _ _=>?_⟩;have G0:=Q0e (P:=l.prog) (w:=w) (mg:=mg) (base:=base) F0 m;have G7:=Qpx (P:=l.prog) (w:=w) (mg:=mg) (base:=base) F7 TP m;have G4:=Qva (P:=l.prog) (w:=w) (mg:=mg) (base:=base) F4 m;have G5:=Qu6 (P:=l.prog) (w:=w) (mg:=mg) (base:=base) F5;have G3:=Qo8 (P:=l.prog) (w:=w) (mg:=mg) (base:=base) F3 TW;have G6:=Qee (P:=l.prog) (w:=w) (mg:=mg) (base:=base) F6 TP TW m m6 b6 G0 k0 b0 (g a0) G4 k4 b4 (g a4) G5 k5 b5 (g a5) m7 G7 b7 50;have G2:=Qky F2 TW MW G3 b3 m6 b6 G6;have G1:=Qqg (P:=l.prog) (w:=w) (mg:=mg) (base:=base) F1 TP;have af:=Qsk (P:=l.prog) (w:=w) (mg:=mg) (base:=base) aA c;have bm:=Qt4 (P:=l.prog) (w:=w) (mg:=mg) (base:=base) ad c m;have F:=Qps (P:=l.prog) (w:=w) (mg:=mg) (base:=base) ad c m;have bW:=Qt2 (P:=l.prog) (w:=w) (mg:=mg) (base:=base) aH c;have bU:=Qvz (P:=l.prog) (w:=w) (mg:=mg) (base:=base) aE c;have bV:=Qxl aF c am bm ai;have bT:=Qg2 aD c m fq bU c8 fr bV c9;have bn:=Qu2 aC c ao af aj fp bT c7;have G9:=Qlv (P:=l.prog) (w:=w) (mg:=mg) (base:=base) F9 c;have bS:=Qka az c bN bz am bm ai 59;have G8:=Qsa F8 c m MN G9 b9 bN bS bz bO bn bA;have bt:=Qri ba c m ao af aj;have ag:=Q0i aG c m fs bW da;have bX:=Qwq aI c m am F ai;have bo:=Qs6 (P:=l.prog) (w:=w) (mg:=mg) (base:=base) aL c m;have bZ:=Qo4 aK c m ap ag ak bo bK bB (g bv);have ah:=Qrm (P:=l.prog) (w:=w) (mg:=mg) (base:=base) (C:=q) aO TS m;have V:=Qns (g:=Gq) (k:=2) (by decide) ae TS c aa Z Q2d ap ag ak aq ah al;have bp:=Qns (g:=Gf) (k:=3) (by decide) ae TS c aa Z V ap ag ak aq ah al;have cb:=Qvb aQ TS aa Z bp bo bK bB (g bv) aq ah al;have ca:=Qqb (P:=l.prog) (w:=w) (mg:=mg) (base:=base) (C:=q) aM TS;have bY:=Qpl aJ TS c (Er X G aS) MS ca df bZ e2 de (g cF) aa Z bp fu dg cb;have bs:=Qis aZ Y TP bY e1 dd (g cE);have ch:=Q0r aY Y TP c G8 k8 b8 (g a8) ao af aj ft bX db bO bn bA bt bL bF (g bw) bQ bs bE;have cg:=Qw6 aX Y TP m G8 k8 b8 (g a8) bt bL bF (g bw) bQ bs bE;have cf:=Qo7 (P:=l.prog) (w:=w) (mg:=mg) (base:=base) (CP:=CP) aV Y m;have bq:=Qqo aT Y TP MP G1 b1;have br:=Qqq aU Y TP fv cf di m2 G2 b2 fx ch dk fw cg dj;have ce:=Qku aR Y MB bq bC bP br bD;have ci:=Qhs bb Y MB bq bC bP br bD;have cj:=Qhp bc Y ci fe dl (g cU);have ck:=Qxu (P:=l.prog) (w:=w) (mg:=mg) (base:=base) bd B.abs;have cm:=Qux bf B ck fg dn (g cX);have cp:=Qz0 (P:=l.prog) (w:=w) (mg:=mg) (base:=base) bi;have cn:=Qr8 bg B cp fl dt (g c2);have co:=Qwi (P:=l.prog) (w:=w) (mg:=mg) (base:=base) bh B;have cl:=Q3s (P:=l.prog) (w:=w) (mg:=mg) (base:=base) be B;have bu:=Qln (P:=l.prog) (w:=w) (mg:=mg) (base:=base) bj B;have cq:=Qwn bk bu bM bG (g bx);have cr:=Qpo bl bu bM bG (g bx);exact Q0m (M:=66) bR B (by decide) (by decide) (by decide) cm fi dq (g cZ) cn fj dr (g c0) co fk ds (g c1) cl fh dp (g cY) cq fm du (g c3) cr fn dv (g c4) (Qt1 ce) e6 dh (g cK) (Qpq cj) ff dm (g cV)
end
theorem Q4o{l:S0}{q:Gg}{b:List Ta}{i:(Ta->Option Value)->Heap->Prop}{e:Gs->Heap->Prop}{d:MZ}{K:M1->Gd}(m:l.most=Ga 63)(c:d.params.defaults=[])
  (j:∀(w:Gs)(h:Heap),e w h->(K w.params).In h)
  (F:∀(w:Gs)(mg:Ta->Option Value)(g:Gc)(h:Heap),(K w.params).In h->h.Ns T5 mg->mg d.name=Ga (.ref g)->
   ∃fd:Ts,(∀(s:Gk)(u:Value),L1 s fd ⟨[u],[]⟩ [("_law_script",u)])/\∀base:Heap,(K w.params).In base->base.Ns T5 mg->Qs l.prog w (K w.params) mg base Z4 67 g fd ["_law_script"] (Qnf (K w.params))):
  MF q b i e l.row.toRowW d [] (λf vs=>SM f vs):=
 L2.Qxn (n:=63) (k:=67) (x:="_law_script") (CX:=λ_=>Z4) (sp:=λw=>Qnf (K w.params)) m (by decide) c ⟨Xb,by decide,by decide⟩ j F (λ_ _ a ns hl _ hS=>⟨a,ns,Xb,hS,hl,λ_=>rfl⟩) λ_ _ _ _ _ z=>z
end K05
theorem PySem.Challenge.cw_samebook_k05_equal_unlike_or_open_holds : PySem.Challenge.rw_samebook_k05_equal_unlike_or_open.Holds := by
  exact K05.head λ K f d hd c b e => K05.Q4o (l := PySem.Challenge.rw_samebook_k05_equal_unlike_or_open) rfl c b λ w mg g h KX G a => K05.Qzl KX G (by rw [hd] at a; exact a) (e w)
