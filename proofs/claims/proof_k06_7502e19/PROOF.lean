import PyProof.Rows.All
import KE.BytesK
import KE.KBytesAny
import KE.KDictLaws
import KE.KDictList
import KE.KDictOf
import KE.KDictSum
import KE.KIsAll
import KE.KItem
import KE.KItemsList
import KE.KRevIter
import KE.KxBytes
import Lean
import OpenK.KLine
import PyProof.EqAt
import PyProof.EqKinds
import PyProof.P3Eq
import PyProof.P3In
import PyProof.TupleCall
import PyProof.ZipIter
import Wide.FinOn
import PySem.Challenge.RW_samebook_k06_whole_back_is_back
set_option maxHeartbeats 16000000
abbrev Gs:=@if_neg
abbrev GX:=@if_pos
abbrev Td:=@decide_eq_false
abbrev Tg:=@decide_eq_true
abbrev Do:=@of_decide_eq_true
abbrev Ey:=@if_false
abbrev EH:=@beq_eq_false_iff_ne
abbrev Ls:=@beq_self_eq_true
abbrev FR:=@beq_iff_eq
abbrev FZ:=@or_false
abbrev Mm:=@if_true
abbrev BE:=@and_true
open Option renaming some->Ga,none->Gq,map_some->DZ,isSome_map->Ss,map_eq_some_iff->L4,ne_none_iff_exists'->Md,isSome_iff_exists->Mt,isSome_some->NO,getD_none->RX,none->Hv
open PySem renaming wpAny_bind->Gb,Addr->Ge,Value->Gj,wpAny_pure->Gm,Program->Gn,Shared->Gy,boot_len->GY,World->Tf,sizeLine->TF,sizeLine_eq->TH,Str->TM,model->TR,starEach->T4,Paired->Df,FuncData->Dn,wpAny_call_entry->Dz,wpAny_newObj_type->DA,wpAny_field->DE,PyData->DI,wpAny_callSpecial?_slot->DN,Stmt->DQ,Around->DS,Expr->D0,wpAny_holding->D2,mainGlobals->D4,compareOp->Ed,sysModules->Ee,wpAny_Call_Name_kw->Ef,wpAny_seqItems->Eg,mem_of_lookup->Ek,wpAny_truthy_bool->EE,wpAny_dictEntries->EG,wpAny_mono->EN,wpAny_setField_rec->ES,cLine->ET,wpAny_typeNameOfWhole_keyiter->EW,IsPair->EX,wpAny_typeNameOfWhole_valiter->EY,wpAny_specialOf->E5,backTo->E7,wpAny_passesOwn->Sr,wpAny_typeNameOf_keyiter->SD,wpAny_typeNameOf_valiter->SF,Obj->SR,tupleKind_room_in1->SX,wpAny_dictEpoch->S9,builtinLookup_eq_fast->Lh,wpAny_setField->Lp,DictEntry->Lq,wpAny_isInstance->Lu,ReadsAll->LH,wpAny_notOrdered_dict->Fc,wpAny_isOneOf_valiter->Fe,wpAny_rule->Fg,wpAny_attempt->Fl,NameKind->Fp,wpAny_pyIter_revIter->Fs,wpAny_updateSeq_pair->Fv,wpAny_execs_nil->Fz,wpAny_updateSeq->FD,wpAny_ite_split->FE,typeLookup_type->FF,sizeLine->FK,wpAny_pyIter_tuple->FN,Reads->FX,wpAny_fieldsOf->F0,wpAny_letGo->Mo,wpAny_pyIter_slot->Mq,wpAny_comprehension_free->Mv,wpAny_onRaise->My,wpAny_Call_method0_late->MH,wpAny_Dict_empty->MI,call->ML,wpAny_pyNext_range_end->MQ,wpAny_pyIter_rangeiter->MR,codeAny_mono->MU,wpAny_Call_method_late->MX,call_meetsIn->MZ,Scope->M3,Pos->M4,IsZip->Nb,wpAny_isTrue_Compare1->Nc,wpAny_isOneOf_keyiter->Nf,wpAny_pyNext_rev_item->Nh,IsRangeIter->Nm,isSubtype_stop->Nr,wpAny_pyIter_keyiter->Nu,wpAny_pyNext_rev_end->Nv,evalArgs_none->NB,wpAny_standAt->NF,wpAny_handled->NH,plainId_quiet->NI,wpAny_pyIter_range->NL,IsPart->NM,call_meets->NN,wpAny_getItem_heap->NP,wpAny_setItem_heap->NQ,call_reversed_list->NR,Within->NY,wpAny_assign_Name->NZ,BindsTo->RD,Keyword->RF,list_append->RG,eqIsQuiet_byValue->RI,wpAny_pyIter_enum->RL,wpAny_pyHash_int->RP,wpAny_pyHash_str->RQ,wpAny_execs_cons->RS,wpAny_forIn_list->Ba,wpAny_of_eq->Bi,wpAny_throw->Bj,Env->Bm,wpAny_ret_mkInt->Bp,codeAny_builtin->Bq,wpAny_Name->Bw,ZipApart->BG,wpAny_newTuple->BH,intBits_le_64->B9,evalPart_none->Cr,call_list_seq->Ct,wpAny_in_heap->Cu,DefRec->CU,Params->CV,Result->C0,wpAny_typeOf->C3,seqIndex_neg->C4,seqIndex_of->Hu,HeapKind->Hw,wpAny_call->HZ,typeIs_str->IB,PlainAttrs->IC,Tok->JX,Sem->JY
open List renaming mem_of_getElem?->Gc,getElem?_eq_getElem->Gf,getElem?_eq_some_iff->Gg,mem_append->Gh,length_append->Gk,mem_cons_of_mem->Gr,mem_append_left->Gu,length_map->Gv,length_singleton->GQ,mem_singleton->GV,mem_cons_self->Tc,mem_cons->Ti,size_toArray->Tp,getElem?_map->Tq,map_cons->Tt,take_length->Tw,mem_map->Tx,getElem?_append_left->TB,take_add_one->TD,mem_append_right->TJ,length_cons->TQ,getElem?_append_right->TU,map_congr_left->TY,map_append->TZ,length_take->Db,getElem?_eq_none->De,map_map->Di,mem_iff_getElem?->Dj,mem_of_mem_take->Dm,append_assoc->Dq,nodup_cons->Du,cons_append->DG,getD_eq_getElem?_getD->DL,lookup_cons->DO,nodup_append->DP,getElem?_take_of_lt->DR,append_nil->DU,replicate->DV,find?_cons->DY,getLast?_eq_some_getLast->Eo,mem_flatMap->Ez,getElem?_reverse->EJ,range->EM,not_mem_nil->EO,all_eq_true->ER,length_range->E1,filter_cons_of_pos->E3,idxOf_lt_length_of_mem->E9,length->Sc,mem_range->Se,append_of_mem->Sj,length_replicate->Sk,eq_nil_or_concat->Sm,mem_of_find?_eq_some->So,getLast?_append->Sw,getLast?_concat->Sy,dropLast_concat->Sz,length_reverse->SI,nodup_nil->SK,mem_reverse->SM,getElem?_cons_succ->SO,filter_cons_of_neg->SQ,take_append_of_le_length->SU,filter_append->SY,length_nil->S8,dropLast_concat_getLast->Lc,reverse_cons->Lj,getLastD_eq_getLast?->Lw,getElem?_zip_eq_some->Lx,take_succ_cons->Ly,length_pos_iff->Lz,length_erase_of_mem->LM,drop_eq_getElem?_toList_append->LN,forIn_cons->LP,nil_append->LQ,length_zip->LR,lookup->LV,map_nil->L6,ext_getElem?->L8,length_pos_of_mem->L9,countP_cons->Fi,getElem_mem->Fj,sum_cons->Fo,map_id->Ft,mem_erase_of_ne->Fu,map->Fw,mem_filter->Fy,find?_some->FA,filterMap_cons->FG,mem_filterMap->FP,getElem_idxOf->Ma,take_take->Mb,forIn_nil->Mc,pairwise_iff_getElem->Mh,any_eq_false->Ml,flatMap_cons->Ms,append_cancel_right->Mw,map_take->MA,getElem?_replicate->MF,dropLast_cons_cons->MJ,getElem?_set_self->MO,of_mem_zip->M8,length_filter_le->Ni,getElem?_set_ne->Nl,take_zero->Nw,count_le_length->Nx,flatMap_append->NC,any_cons->NG,getElem?_take->NS,mem_replicate->NT,find?_eq_none->NU,idxOf_append->RK,pairwise_map->RN,length_drop->RW,getLast_mem->Bc,zipIdx_cons->Be,append_inj'->Bf,zipIdx_nil->Bs,map_drop->CF,Nodup->IF
open PySem.W renaming Frag->Gd,findIn->TL,kitOne->T1,isFn->Dc,keepIn->DX,emptyDict->El,fnOf->Et,plainGet->Ew,hasDictIn->ED,plainOver->EZ,instObj->E4,kitAny->Sg,makesIn->Sq,mg_of->Lf,nsIn->LY,methodCall_KW->Fa,plainGet_of->FH,codeIn->FL,lookIn->FQ,callWith_K->FT,methodObj->Mi,cellsFrom_some->MV,takerIn->M7,OpenLaw->M9,callWith_K0->NA,kitx_list->Rs,kitx_dict->RA,handedIn->RT,kdl_call->Bb,KdlSrc->BD,WalkO->Cv,kdl_hint_values->CO,OpenLaw->CT,kdl_hint_dict->He,hideAll_size->Hk,hideAll_none->Hl,truthy_bytes->Hr,looks_findIn->Hs,hideAll_get->Hz,findObj_own->HC,looks_clsIn->HG,kdu_collect->HL,XL->HM,of_hideAll->HQ,kitx_float->HX,kitx_tuple->HY,codeRec_of->Ix,pre_splitW->ID,mg_none_of->IG,len_bytes->IH,get_value->II,method_fn->IJ,set_plain->IK,make_core->IM,specialIn->IP,kitx_none->IQ,kitx_bool->IR,kdx_alive->IU,eq_bytes->IZ,ne_bytes->I1,osa_open->I3,any_some->I6,InitBack->I7,makes_of->JA,kitx_int->JB,kitx_str->JC,kitx_own->JD,kdl_dict->JJ,hideAll->JK,bind_fn->JL,takesIn->JM,kia_one->JN,kia_tup->JP,kIn_of->JQ,InstAt->JS,typeIn->JT,mroIn->JW,KitX->JZ
open Bool renaming true->Gi,false->Gx,false_ne_true->TC,and_eq_true->T5,false_eq_true->DK,and_eq_true_iff->EU,and_true->SE,and_self->LI,eq_iff_iff->LO,eq_false_iff->Mn,and_false->Bx,or_false->Cs,not_true->Cy
open PySem.Heap renaming get?_push_of_some->Gp,lt_size->Tk,get?_push_size->To,get?_update_self->DT,SameBut->Eu,get?_update_other->E8,size_push->Sf,ExtBut->Nq,IsTuple->C9
open PySem.PyData renaming canLayAll0->Gw,canLay0->Tu,depthAll->TW,eqv->TX,depth->Dp,eqvAll->Dx,strOk->DM,int->Eh,list->Fq
open Nat renaming le_refl->Gz,zero_le->Ts,lt_of_lt_of_le->TV,ne_of_lt->T2,lt_or_ge->Dh,le_trans->Dl,ne_of_gt->Dy,le_add_right->DF,lt_irrefl->EC,lt_succ_self->EL,lt_of_le_of_lt->Sd,mul_le_mul_right->Sx,add_lt_add_left->SH,add_mul->SS,le_succ->LW,le_of_eq->LX,min_eq_left->FC,le_of_lt->FI,succ_le_succ->MC,lt_add_of_pos_right->MK,not_lt->NV,le_succ_of_le->NW,add_zero->RJ,lt_succ_of_lt->RM,lt_trichotomy->RO,min_le_right->RV,le_of_not_lt->RZ,succ_ne_self->Bd,one_mul->Bk,le_add_left->Bl,mul_le_mul->BF,add_assoc->Cw,lt_trans->C6,sub_self->Hc,succ->JV
open PySem.Paired renaming length->GJ,snoc->EV
open PyProof.Rows renaming boot_isinstance->Ta,boot_list->T9,boot_tuple->Dg,callWith_type1->EA,boot_str->EK,slot_tuple_getitem->SG,boot_bool->S0,subscriptTail_builtinR->L3,boot_int->Ff,AllBare->Mj,IntsAre->MY,Constant_none->NE,callWith_builtin1->RU,wpAny_notIn_heap->RY,isnot_none_gen->By,slicePart_none->Bz,Subscript_->BA,zipApart_new->B4,boot_reversed->CA,boot_sorted->CJ,isTrue_plain->CY,boot_abs->Hf,boot_min->Hg,is_none_gen->Hm,isTrue_and->HR,boot_range->HS,Call_->JR
open Ne renaming symm->Tb
open PySem.F renaming plainAttrs_list->Te,slot_list_append->Tv,type_list_append->Tz,slot_list_pop->Ep,type_list_pop->Er,plain_extend_loop->EI,plainAttrs_dict->SN,slot_dict_setdefault->La,type_dict_setdefault->Lb,slot_list_extend->LK,type_list_extend->LL,slot_dict_getitem->Me,entry_extend_loop->Mg,slot_dict_values->Mz,slot_dict_get->Nj,type_dict_get->Nk,args_list_append_2->BB,args_dict_values_1->BI,entry_list_append->BW,entry_dict_values->B6,args_list_init_2->CD,args_list_sort_1->CG,type_dict_values->CH,typeCall_list_1->CK,entry_list_init->CL,entry_list_sort->CQ,slot_list_sort->Ha,called_list->HH
open PySem.PassesOwn renaming never->Tj
open PySem.Value renaming ref->Tn,none->DD,type->SV,bool->Lm,int->MD,str->ME,isInt_shape->NX,float->Bh,isStrOf->B8,isInt->Hh,bytes->Hj
open Option.some renaming inj->T3,injEq->IT
open Array renaming getElem?_eq_getElem->T6,length_toList->DC,getElem?_toList->Eb,getElem?_eq_none->Ei,toArray_toList->Su,forIn_toList->LU,append_assoc->NK,size_push->Br,toList->CZ
open PySem.Builtin.SmallTypes renaming nextOf->T8,ownedTupleIsFree->Dk,ownedTupleHandOut->LA
open Int renaming emod_lt_of_pos->Ds,emod_nonneg->DJ,toNat_natCast->Em,toNat->E2,zero_add->Sa,mul_le_mul_of_nonneg_right->Fk,ediv_one->C2,le_of_lt->Hd,pow_pos->Hy
open PySem.NameKind renaming free->Dw,cell->Mu
open List.cons renaming injEq->DB,inj->LJ
open Or renaming inl->DW,inr->Si
open PySem.Heap.SameBut renaming update->D9,refl->IV
open True renaming intro->Ea
open PySem.Builtin.Tuple renaming tupleHashOf->Ej,tupleExact->SA,tupleItemsOf->FW
open Prod.mk renaming injEq->Es
open PySem.Builtin.Dict_items renaming ownsTuple->Ev,newIterator->Bg,dictOf->B5
open PySem.Builtin.List renaming listLengthHint->EB,listExtendWith->Ll,listTooLong->LG,listSameRef->Mx,listItems->M1,listUpdate->CM
open PySem.Str renaming ofString->EF,empty->Le
open ForInStep renaming yield->E6
open PySem.Obj renaming data_mapFields->Sh,mapSeq->Lo,isFreed_of_fields->Fd,mapFields->Fn,cls_mapFields->Mr,data_mapDictKeys->Np
open PySem.Builtin.Slice renaming slicePlaces->Sn,sliceAdjust->Lv,sliceApplied->FU,slicePartIndex->Bn,sliceFields->BV
open PySem.Builtin.Range renaming rangeSize->SJ,small->ND,rangeFitsLong->Bv
open PySem.Calls renaming callWith_builtin->SW,spliced_nil->LZ,Name_function_global->FM,spliced_cons->FS,call_function_entry->Mf,evalArgs_plain->No,call_len_list->Nz
open PySem.Builtin.Dict renaming showsAll->Lg,keyAndDefault->BC,pendingCount->BY,dictSlotNone->BZ,noArgs->HK
open PySem.W.Fast renaming te14364793385576792824->LB,te10274390034422433532->LC,te14082659384304107361->LD,te14289696077712309145->LF,te4187177175401517315->NJ
open Classical renaming choose->Fh,choose_spec->Ng,byContradiction->B7
open Sum renaming inl->FJ,inr->MM
open PyProof renaming noPylong_small->MT
open PySem.Around renaming under_plainId->Ny,under->RB
open PySem.Code renaming isFrame->RC,frames->Ht
open Prod renaming ext->RE
open PySem.AutoSeq1 renaming list_extend_list_list_0->RH
open PySem.SeqAt renaming notIn_list_reads->Bo,compareEq_reads->Bt,compareNe_reads->Bu,in_list_reads->BX,eqAt_reads->C7
open PySem.EqNone renaming eq_none_none->BJ,eq_none_bool->BL,eq_bool_none->BM,ne_none_none->BP,ne_none_bool->BQ,ne_bool_none->BR,eq_none_int->Ca,eq_none_str->Cb,eq_int_none->Cc,eq_str_none->Ce,ne_none_int->Ci,ne_none_str->Ck,ne_int_none->Cm,ne_str_none->Cp
open PySem.EqMixed renaming eq_bool_str->BN,eq_str_bool->BO,ne_bool_str->BS,ne_str_bool->BU,eq_int_str->Cd,eq_str_int->Cf,ne_int_str->Co,ne_str_int->Cq
open Function renaming comp->Cz
open PySem.Shared renaming TypeIs->CC,heap->Hx
open List.Pairwise renaming imp_of_mem->CI,nil->IS
open PySem.MeetsSeq renaming list_pop_last->C5
open Nat.succ renaming inj->C8
open PySem.Data renaming fields->Hn,cell->IY,seq->JU
open PySem.Walks renaming range->Ho
open PySem.IsRange renaming new->Hq
open PySem.SeqAt.EqAt renaming int_str->HN,str_int->HP
open PySem.P renaming truthy_int->HU,truthy_str->HV,add_list->JG
open PySem.W.Looks renaming here->HW
open PySem.Heap.IsSliceOf renaming new->IA
open PySem.W.WShape renaming has->IE
open PySem.Within renaming cons->IL
open PySem.Heap.Ns1 renaming of_empty->IN
open PySem.Heap.IsTuple renaming push->IW
open PySem.W.XL renaming keeps->IX
open PySem.DictEntry renaming refKey->I2
open PyProof.Rows.IsTup renaming new->JE
open PySem.IsL renaming update->JF
open PySem.W.WData renaming int->JH
open PySem.Expr renaming Call->JI
open PySem.Heap.DictOf renaming new->JO
open Sum.inl renaming inj->J4
open Sum.inr renaming inj->J8
open PySem.W.OpenLaw renaming pre->Aa
abbrev Xb:=@rfl
set_option Elab.async false
set_option linter.all false
set_option maxRecDepth 100000
set_option genSizeOf false
set_option bootstrap.genMatcherCode false
set_option hygiene false
open Lean in def sQ(a:Array (TSyntax `term)):MacroM (Array (TSyntax `term)):=a.flatMapM fun x=>do let h<-`(_);let r<-`(Xb);if x.raw.isOfKind `num then return x.raw[0].getAtomVal.toList.toArray.flatMap fun|'0'=>#[h,r]|'1'=>#[r]|'2'=>#[h,h]|'3'=>#[h]|_=>#[] else return#[x]
open Lean in def sQp(n:Nat)(x:TSyntax `term):MacroM (TSyntax `rcasesPat):=match n with|0=>`(rcasesPat|_)|n+1=>match x with
 |`(($x,$y,*))=>do let r<-(#[x]++y.getElems).mapM (sQp n);`(rcasesPat|⟨$[$r:rcasesPat],*⟩)
 |`($x:ident)=>`(rcasesPat|$x:ident)
 |_=>`(rcasesPat|_)
local macro_rules|`(⇑$x)=>`(($x).length)
local macro_rules|`(↑$x)=>`(.ref $x)
local macro_rules|`($a/%$t$b)=>if t.getTrailingSize>0 then Lean.Macro.throwUnsupported else`($a=some $b)
local macro_rules|`(∅)=>`(by ext)
local macro_rules|`(⋯)=>`(by simp)
local macro_rules|`(tactic|have($x,$y,*):=$e)=>do let r<-sQp 9 (<-`(($x,$y,*)));`(tactic|obtain $r:rcasesPat:=$e)
local macro_rules|`(«term{_}»|{$a,*})=>do let v:=a.getElems[0]!.raw[0].getAtomVal;if a.getElems.size=1&&(v.length=1|| !v.startsWith "4")then`(pv $(a.getElems[0]!))else let r<-sQ a;`(⟨$r,*⟩)
local macro_rules|`(tactic|ac_nf)=>`(tactic|refine _root_.Sb.hid fun g_ h_=>?_)
local macro_rules|`(tactic|intros)=>`(tactic|(refine h_ ?_;clear h_))
set_option hygiene true
local macro_rules|`(tactic|ext)=>`(tactic|omega)
local macro_rules|`(tactic|exists $a,*)=>do let r<-sQ a;`(tactic|refine ⟨$r,*, ?_⟩)
local macro_rules|`(tactic|ac_rfl)=>`(tactic|first|with_reducible assumption|exact Gz _|exact Ts _|decide|exact MC (Ts _)|exact DF _ _|exact Bl _ _|exact EL _|exact FI ‹_›|exact Dl ‹_› (by decide)|exact Sd ‹_› (by decide)|exact Dl ‹_› ‹_›|exact TV ‹_› ‹_›|exact Sd ‹_› ‹_›|exact Dl (LX ‹_›) (Dl ‹_› (by decide))|exact Sd (Dl (LX ‹_›) ‹_›) (by decide)|exact NW ‹_›|exact EC _ ‹_›|exact absurd ‹_› (EC _)|fail)
local macro_rules|`(tactic|omega)=>`(tactic|(ac_rfl;done))
local macro_rules|`(tactic|lia)=>`(tactic|(ac_rfl;done))
local macro_rules|`(tactic|infer_instance)=>`(tactic|first|exact .inl rfl|exact .inr rfl|exact .inr (.inl Xb)|exact .inr (.inr Xb)|assumption|exactλ_ _=>rfl)
local macro_rules
 |`(tactic|eq_refl)=>`(tactic|first
  |exact⟨Xb,Xb,Xb,by decide+kernel,Xb,by decide+kernel,by decide+kernel⟩
  |exact⟨by rfl,by decide+kernel,by decide+kernel,by decide+kernel⟩|fail)
theorem Wx:1<=FK:=by decide
theorem Yy:2<=FK:=by decide
theorem Vk:3<=FK:=by decide
theorem nE:4<=FK:=by decide
noncomputable section
namespace L2
open PySem PySem.Spec PyProof.Rows
noncomputable def Yk(s:DQ)(j:Nat):DQ:=match s with
 |.ClassDef _ _ _ a _ _ _ _ _ _ _=>a.getD j (.Pass {(0),(0),(0),(0)})
 |_=>.Pass {(0),(0),(0),(0)}
noncomputable def Vm(s:DQ):Arguments:=match s with
 |.FunctionDef _ a _ _ _ _ _ _ _ _=>a
 |_=>{posonlyargs:=[],args:=[],vararg:=Gq,kwonlyargs:=[],kw_defaults:=[],kwarg:=Gq,defaults:=[]}
def Q9(s:DQ):List DQ:=match s with
 |.FunctionDef _ _ b _ _ _ _ _ _ _=>b
 |_=>[]
def Qo(s:DQ):M3:=match s with
 |.FunctionDef _ _ _ _ _ _ a _ _ _=>a
 |_=>{kind:=.function,names:=[],isGenerator:=Gx,isCoroutine:=Gx}
end L2
section
namespace Sb
open PySem L2
inductive Yx(K:Gd)(x q:TM)(st:DQ)(f:Ge):Prop
 |mk (oc:_) (od:_) (an:_) (sl:_) (kV:_) (dc:_) (pm:_) (cd:_) (ct:_) (h0:K.lookup f=Ga ⟨oc,od,.func (Et x q (Vm st) (Q9 st) (Qo st) .none kV dc pm an cd ct),sl⟩) (h1:FL K cd q=Gi) (h2:DX K ↑f=Gi):Yx K x q st f
abbrev Ra(K:Gd)(x:TM)(f:Ge):Prop:=LY K D4 x=Ga (Ga ↑f)
abbrev hE(K:Gd)(c:Ge)(x:TM)(f:Ge):Prop:=TL K ↑c x=Ga (Ga ↑f)
abbrev ie(K:Gd)(x:TM):Prop:=LY K D4 x=Ga Gq
end Sb
end
section
namespace K06
open PySem L2 Sb
noncomputable def top(i:Nat):DQ:=PySem.Challenge.pw_samebook_k06_whole_back_is_back.main.body.getD i (.Pass {(0),(0),(0),(0)})
abbrev jS:DQ:=top 1
abbrev nR:DQ:=Yk (top 2) 0
abbrev Ie:DQ:=Yk (top 2) 1
abbrev Oo:DQ:=Yk (top 2) 2
abbrev qk:DQ:=Yk (top 2) 3
abbrev rT:DQ:=Yk (top 2) 4
abbrev Wi:DQ:=Yk (top 2) 5
abbrev mz:DQ:=Yk (top 2) 6
abbrev W8:DQ:=Yk (top 2) 7
abbrev md:DQ:=Yk (top 2) 8
abbrev mY:DQ:=Yk (top 2) 9
abbrev jm:DQ:=Yk (top 2) 10
abbrev oh:DQ:=top 4
abbrev Ik:DQ:=top 5
abbrev oe:DQ:=top 6
abbrev qy:DQ:=Yk (top 7) 0
abbrev oY:DQ:=Yk (top 7) 1
abbrev V6:DQ:=Yk (top 7) 2
abbrev nG:DQ:=Yk (top 7) 3
abbrev rD:DQ:=Yk (top 12) 0
abbrev qK:DQ:=Yk (top 12) 1
abbrev nB:DQ:=Yk (top 12) 2
abbrev pL:DQ:=Yk (top 13) 0
abbrev Wb:DQ:=Yk (top 13) 1
abbrev oF:DQ:=top 14
abbrev pQ:DQ:=top 15
abbrev rj:DQ:=top 16
abbrev mX:DQ:=top 19
abbrev Oq:DQ:=top 20
abbrev U6:DQ:=top 21
abbrev rK:DQ:=Yk (top 22) 0
abbrev mq:DQ:=Yk (top 22) 1
abbrev ny:DQ:=Yk (top 22) 2
abbrev jT:DQ:=Yk (top 22) 3
abbrev kr:DQ:=Yk (top 22) 4
abbrev pj:DQ:=Yk (top 22) 5
abbrev ot:DQ:=top 23
abbrev qi:DQ:=top 25
abbrev sAt:DQ:=top 26
abbrev lE:DQ:=top 27
abbrev pV:DQ:=top 28
abbrev Rq:DQ:=top 29
abbrev nz:DQ:=top 30
abbrev iY:DQ:=top 31
abbrev Vy:DQ:=top 32
abbrev pJ:DQ:=top 33
abbrev qP:DQ:=top 34
abbrev Jb:DQ:=top 35
abbrev Ud:DQ:=top 36
abbrev q9:DQ:=top 37
abbrev j9:DQ:=top 38
abbrev kh:DQ:=top 39
abbrev o9:DQ:=top 40
abbrev sSo:DQ:=top 41
abbrev Rm:DQ:=top 42
abbrev jC:DQ:=top 43
end K06
end
section
namespace K06
open PySem L2 Sb
inductive Fx(K:Gd):Prop
 |mk {CP CW CN CS CB f0 f1 f2 f3 f4 f5 f6 f7 f8 f9 f10 f11 f12 f13 f14 f15 f16 f17 f18 f19 f20 f21 f22 f23 f24 f25 f26 f27 f28 f29 f30 f31 f32 f33 f34 f35 f36 f37 f38 f39 f40 f41 f42 f43 f44 f45 f46 f47 f48 f49 f50 f51 f52 f53 f54 f55:Ge} {tkn tfew twal tste:JX}
  (aP:Ra K "Places" CP) (pP:Ew K CP Le=Gi) (dP:ED K CP=Gi) (oP:EZ K CP=Gi) (sP:TL K ↑CP "__setattr__"/Ga (.builtin "object.__setattr__")) (mP:Sq K CP=Gi) (cP:DX K ↑CP=Gi)
  (nPthings:TL K ↑CP "things"/Gq) (nPforms:TL K ↑CP "forms"/Gq) (nPknown:TL K ↑CP "known"/Gq) (aW:Ra K "Walk" CW) (pW:Ew K CW Le=Gi) (dW:ED K CW=Gi) (oW:EZ K CW=Gi)
  (sW:TL K ↑CW "__setattr__"/Ga (.builtin "object.__setattr__")) (mW:Sq K CW=Gi) (cW:DX K ↑CW=Gi) (nWplaces:TL K ↑CW "places"/Gq) (nWsteps:TL K ↑CW "steps"/Gq) (aN:Ra K "Net" CN)
  (pN:Ew K CN Le=Gi) (dN:ED K CN=Gi) (oN:EZ K CN=Gi) (sN:TL K ↑CN "__setattr__"/Ga (.builtin "object.__setattr__")) (mN:Sq K CN=Gi) (cN:DX K ↑CN=Gi) (nNforms:TL K ↑CN "forms"/Gq)
  (nNleads:TL K ↑CN "leads"/Gq) (nNmembers:TL K ↑CN "members"/Gq) (nNusers:TL K ↑CN "users"/Gq) (nNtable:TL K ↑CN "table"/Gq) (nNlinks:TL K ↑CN "links"/Gq) (nNlinkat:TL K ↑CN "link_at"/Gq)
  (nNabove:TL K ↑CN "above"/Gq) (aS:Ra K "Showing" CS) (pS:Ew K CS Le=Gi) (dS:ED K CS=Gi) (oS:EZ K CS=Gi) (sS:TL K ↑CS "__setattr__"/Ga (.builtin "object.__setattr__")) (mS:Sq K CS=Gi)
  (cS:DX K ↑CS=Gi) (nSthings:TL K ↑CS "things"/Gq) (nSnet:TL K ↑CS "net"/Gq) (nSlines:TL K ↑CS "lines"/Gq) (nSnumbers:TL K ↑CS "numbers"/Gq) (aB:Ra K "Book" CB) (pB:Ew K CB Le=Gi)
  (dB:ED K CB=Gi) (oB:EZ K CB=Gi) (sB:TL K ↑CB "__setattr__"/Ga (.builtin "object.__setattr__")) (mB:Sq K CB=Gi) (cB:DX K ↑CB=Gi) (nBplaces:TL K ↑CB "places"/Gq) (nBtold:TL K ↑CB "told"/Gq)
  (nBentries:TL K ↑CB "entries"/Gq) (cfew:LY K D4 "FEW_PARTS"/Ga (.int 4 tfew)) (cwal:LY K D4 "WALKS_ANEW"/Ga (.int 1024 twal)) (cste:LY K D4 "STEPS_ANEW"/Ga (.int 40000 tste)) (anm:LY K D4 "NO_MOMENT"/Ga (.str "no moment" tkn))
  (a0:Ra K "top_words" f0) (h0:Yx K "top_words" "top_words" oF f0) (a1:hE K CP "__init__" f1) (i1:Dc K ↑f1=Gi) (h1:Yx K "__init__" "Places.__init__" rD f1) (a2:hE K CP "place_of" f2) (i2:Dc K ↑f2=Gi)
  (h2:Yx K "place_of" "Places.place_of" qK f2) (a3:hE K CW "__init__" f3) (i3:Dc K ↑f3=Gi) (h3:Yx K "__init__" "Walk.__init__" pL f3) (a4:Ra K "place_among" f4) (h4:Yx K "place_among" "place_among" pQ f4)
  (a5:Ra K "share_of" f5) (h5:Yx K "share_of" "share_of" rj f5) (a6:hE K CW "place_within" f6) (i6:Dc K ↑f6=Gi) (h6:Yx K "place_within" "Walk.place_within" Wb f6) (a7:hE K CP "place_by_form" f7)
  (i7:Dc K ↑f7=Gi) (h7:Yx K "place_by_form" "Places.place_by_form" nB f7) (a8:Ra K "net_of" f8) (h8:Yx K "net_of" "net_of" jS f8) (a9:hE K CN "__init__" f9) (i9:Dc K ↑f9=Gi) (h9:Yx K "__init__" "Net.__init__" nR f9)
  (a10:hE K CN "take_in" f10) (i10:Dc K ↑f10=Gi) (h10:Yx K "take_in" "Net.take_in" Ie f10) (a11:hE K CN "key_of" f11) (i11:Dc K ↑f11=Gi) (h11:Yx K "key_of" "Net.key_of" Oo f11) (a12:hE K CN "equal" f12)
  (i12:Dc K ↑f12=Gi) (h12:Yx K "equal" "Net.equal" qk f12) (a13:hE K CN "merge" f13) (i13:Dc K ↑f13=Gi) (h13:Yx K "merge" "Net.merge" rT f13) (a14:hE K CN "merge_link" f14) (i14:Dc K ↑f14=Gi)
  (h14:Yx K "merge_link" "Net.merge_link" Wi f14) (a15:hE K CN "hang" f15) (i15:Dc K ↑f15=Gi) (h15:Yx K "hang" "Net.hang" mz f15) (a16:hE K CN "give_over" f16) (i16:Dc K ↑f16=Gi) (h16:Yx K "give_over" "Net.give_over" W8 f16)
  (a17:hE K CN "way" f17) (i17:Dc K ↑f17=Gi) (h17:Yx K "way" "Net.way" md f17) (a18:hE K CN "way_up" f18) (i18:Dc K ↑f18=Gi) (h18:Yx K "way_up" "Net.way_up" mY f18) (a19:hE K CN "rows" f19) (i19:Dc K ↑f19=Gi)
  (h19:Yx K "rows" "Net.rows" jm f19) (a20:Ra K "lines_between" f20) (h20:Yx K "lines_between" "lines_between" oh f20) (a21:Ra K "links_needed" f21) (h21:Yx K "links_needed" "links_needed" Ik f21) (a22:Ra K "pairs_below" f22)
  (h22:Yx K "pairs_below" "pairs_below" oe f22) (a23:hE K CS "__init__" f23) (i23:Dc K ↑f23=Gi) (h23:Yx K "__init__" "Showing.__init__" qy f23) (a24:hE K CS "write" f24) (i24:Dc K ↑f24=Gi) (h24:Yx K "write" "Showing.write" oY f24)
  (a25:hE K CS "write_link" f25) (i25:Dc K ↑f25=Gi) (h25:Yx K "write_link" "Showing.write_link" V6 f25) (a26:hE K CS "line_for" f26) (i26:Dc K ↑f26=Gi) (h26:Yx K "line_for" "Showing.line_for" nG f26)
  (a27:Ra K "answers" f27) (h27:Yx K "answers" "answers" mX f27) (a28:hE K CB "__init__" f28) (i28:Dc K ↑f28=Gi) (h28:Yx K "__init__" "Book.__init__" rK f28) (a29:hE K CB "answer" f29) (i29:Dc K ↑f29=Gi)
  (h29:Yx K "answer" "Book.answer" mq f29) (a30:hE K CB "go_back" f30) (i30:Dc K ↑f30=Gi) (h30:Yx K "go_back" "Book.go_back" ny f30) (a31:hE K CB "tell" f31) (i31:Dc K ↑f31=Gi) (h31:Yx K "tell" "Book.tell" jT f31)
  (a32:hE K CB "ask" f32) (i32:Dc K ↑f32=Gi) (h32:Yx K "ask" "Book.ask" kr f32) (a33:hE K CB "lines_for" f33) (i33:Dc K ↑f33=Gi) (h33:Yx K "lines_for" "Book.lines_for" pj f33) (a34:Ra K "least_clash" f34)
  (h34:Yx K "least_clash" "least_clash" ot f34) (a35:Ra K "book_after" f35) (h35:Yx K "book_after" "book_after" U6 f35) (a36:Ra K "told_after" f36) (h36:Yx K "told_after" "told_after" Oq f36) (a37:Ra K "_law_any_word" f37)
  (h37:Yx K "_law_any_word" "_law_any_word" kh f37) (a38:Ra K "_law_so" f38) (h38:Yx K "_law_so" "_law_so" sSo f38) (a39:Ra K "_law_drawn_things" f39) (h39:Yx K "_law_drawn_things" "_law_drawn_things" lE f39) (a40:Ra K "_law_drawn_deeds" f40) (h40:Yx K "_law_drawn_deeds" "_law_drawn_deeds" pV f40)
  (a41:Ra K "_law_any" f41) (h41:Yx K "_law_any" "_law_any" o9 f41) (a42:Ra K "_law_classes" f42) (h42:Yx K "_law_classes" "_law_classes" Ud f42) (a43:Ra K "_law_barred" f43) (h43:Yx K "_law_barred" "_law_barred" q9 f43) (a44:Ra K "_law_whole" f44)
  (h44:Yx K "_law_whole" "_law_whole" qi f44) (a45:Ra K "_law_after" f45) (h45:Yx K "_law_after" "_law_after" j9 f45) (a46:Ra K "_law_at" f46) (h46:Yx K "_law_at" "_law_at" sAt f46) (a47:Ra K "_law_is_thing" f47) (h47:Yx K "_law_is_thing" "_law_is_thing" Rq f47)
  (a48:Ra K "_law_line_follows" f48) (h48:Yx K "_law_line_follows" "_law_line_follows" nz f48) (a49:Ra K "_law_lines_show" f49) (h49:Yx K "_law_lines_show" "_law_lines_show" iY f49) (a50:Ra K "_law_number_in" f50) (h50:Yx K "_law_number_in" "_law_number_in" Vy f50)
  (a51:Ra K "_law_is_world" f51) (h51:Yx K "_law_is_world" "_law_is_world" pJ f51) (a52:Ra K "_law_world_fits" f52) (h52:Yx K "_law_world_fits" "_law_world_fits" qP f52) (a53:Ra K "_law_is_right" f53) (h53:Yx K "_law_is_right" "_law_is_right" Jb f53)
  (a54:Ra K "_law_answered_so" f54) (h54:Yx K "_law_answered_so" "_law_answered_so" Rm f54) (a55:Ra K "law" f55) (h55:Yx K "law" "law" jC f55) (z_len:ie K "len") (z_min:ie K "min") (z_abs:ie K "abs") (z_list:ie K "list") (z_tuple:ie K "tuple") (z_str:ie K "str")
  (z_bool:ie K "bool") (z_int:ie K "int") (z_isinstance:ie K "isinstance") (z_range:ie K "range") (z_reversed:ie K "reversed") (z_enumerate:ie K "enumerate") (z_zip:ie K "zip") (z_sorted:ie K "sorted"):Fx K
end K06
open PySem PySem.W PyProof.Rows
namespace K06
abbrev pw:Gn:=PySem.Challenge.pw_samebook_k06_whole_back_is_back
noncomputable abbrev qv:Gn:=view pw [1,2,4,5,6,7,9,10,11,12,13,14,15,16,18,19,20,21,22,23,25,26,27,28,29,30,31,32,33,34,35,36,37,38,39,40,41,42,43]
theorem once{l:CT}{q:Gn}{d:CU}{a:List (TM×PySem.Expr)}{N:Nat}(H:Hook)(left:LeftO l.row.prog q [] (λs=>xlAt q [] s&&recOk l.row.toRowW.records s) H.obs H.val N)(b:defOf q l.row.name/(d,a))(i:l.row.prog.theDef l.row.name/(d.params,d.body,d.scope))(h:kwWritten? d.params.kwonlyargs d.params.kw_defaults/a)
  (c:(!l.row.writes||l.row.records.isEmpty)=Gi)(j:l.row.wellSaid=Gi)(ok:(chainsOk q&&opensWell l.row.prog&&(frees l.row.toRowW&&l.row.within.isEmpty))=Gi)(g:l.row.prog.bare)(hw:l.row.toRowW.promised)(call:WalkO q [] (HM q []) H.says l.row.toRowW d a λf k=>ML f k):l.row.Holds:=
 holds_open left H.of H.keeps (λs e=>xl_of s (EU.mp e).1) IX b i h (λs e=>recFacts_of (EU.mp e).2) c j ok g hw call
end K06
def PySem.W.Fast.tw9021464836532742150:Gn:=K06.pw
theorem PySem.W.Fast.te9021464836532742150:PySem.Challenge.pw_samebook_k06_whole_back_is_back=PySem.W.Fast.tw9021464836532742150:=rfl
local macro_rules|`(tactic|o_head $H:term)=>`(tactic|refine K06.once (q:=K06.qv) (N:=5824) $H ?hl (by rfl) (by rfl) (by rfl) (by rfl) (by assumption) (by decide+kernel) ⟨Xb,Xb,Xb,Xb,Xb,by decide+kernel⟩ ?hw ?hc)
theorem K06.mp{b d e:Type}{o:Option b}{f:b->d}{g:b->e}{x:d}{y:e}(c:o.map f/x)(h:o.map g/y):o.map (λs=>(f s,g s))/(x,y):=by
 cases o with
 |none=>cases c
 |some a=>cases c;cases h;rfl
set_option maxHeartbeats 0 in
theorem K06.PB(w:Tf):(openEnds treeTable K06.pw w 5824).map (λs=>openSeen K06.qv [] (importedModules K06.pw.main.body) (λs=>xlAt K06.qv [] s&&recOk PySem.Challenge.rw_samebook_k06_whole_back_is_back.row.toRowW.records s) Gi s)/openGood K06.qv []:=by unfold openEnds fencedOpening topFrom K06.pw;rw[LB,LC,LD,LF,NJ,PySem.W.Fast.te9021464836532742150];kernel_rfl
set_option maxHeartbeats 0 in
theorem K06.head(W:∀(K:CV->Frag)(a:Tf->Heap->Prop)(d:CU),d.name="law"->d.params.defaults=[]->(∀(w:Tf)(h:Heap),a w h->(K w.params).In h)->(∀w:Tf,K06.Fx (K w.params))->WalkO K06.qv [] (HM K06.qv []) a PySem.Challenge.rw_samebook_k06_whole_back_is_back.row.toRowW d [] λf b=>ML f b):PySem.Challenge.rw_samebook_k06_whole_back_is_back.Holds:=by
 w_on;o_law;k_head;(case hw=>w_witness2)
 case hl=>
  (show LeftO K06.pw (view K06.pw _) _ _ _ _ _)
  intro w;refine K06.mp (K06.PB w) ?_;unfold openEnds fencedOpening topFrom K06.pw;rw[LB,LC,LD,LF,PySem.W.Fast.te9021464836532742150];kernel_rfl
 case hc=>
  k_fill
  refine W _ _ _ rfl rfl (λw h Y=>JQ Y) λw=>?_;apply K06.Fx.mk;all_goals first|exact⟨_,_,_,_,_,_,_,_,_,by k_is,by k_is,by k_is⟩|(show _=_;k_is)|skip
end
namespace L2
open PySem PySem.Spec PyProof.Rows
variable{us:List Gj}{i t' k n:Nat}{a b C:Ge}{α:Type}{P:Gn}{w:Tf}{o:SR}{N ps:List TM}{x:TM}{M:Model}{A:DS}{E Q:Gj->Gy->Prop}{u:Gj}{e c tg:D0}{s:Gy}{zq:List (Ge×SR)}{pos:M4}{op:CmpOp}{body:List DQ}{fp:List Ge}{pl:JY Bool}{f:Gj->Gj->JY Gj}{kw:List (TM×Gj)}{mg:TM->Option Gj}
abbrev Wg:=Sum Int TM
def jG:Wg->Gj->Bool
 |.inl k,v=>Hh k v
 |.inr x,v=>B8 x v
def Q79(w:Tf):Wg->Int
 |.inl k=>hashInt k
 |.inr x=>hashStr w x
theorem Xl:∀{k:Wg}{v:Gj},jG k v=Gi->(∃i t,k=FJ i/\v=MD i t)\/(∃x t,k=MM x/\v=ME x t)
 |.inl i,v,h=>by have(t,e):=NX (k:=i) (v:=v) h;exact .inl ⟨i,t,Xb,e⟩
 |.inr x,v,h=>by have(t,e):=Value.isStrOf_shape (x:=x) (v:=v) h;exact .inr ⟨x,t,Xb,e⟩
theorem XQ(i:Int)(t:JX):jG (.inl i) (.int i t)=Gi:=by simp[jG,Hh]
theorem VB(x:TM)(t:JX):jG (.inr x) (.str x t)=Gi:=by simp[jG,B8]
theorem Q3j(a b:Int):decide ((FJ a:Wg)=FJ b)=(a==b):=by
 by_cases e:a=b
 .subst e;simp
 .have h:¬(FJ a:Wg)=FJ b:=λq=>e (J4 q);rw[Td h];exact(EH.mpr e).symm
theorem Q37(a b:TM):decide ((MM a:Wg)=MM b)=decide (a=b):=by
 by_cases e:a=b
 .subst e;simp
 .have h:¬(MM a:Wg)=MM b:=λq=>e (J8 q);rw[Td h,Td e]
theorem K9(a:Int)(b:TM):decide ((FJ a:Wg)=MM b)=Gx:=Td (λq=>nomatch q)
theorem Qq(a:TM)(b:Int):decide ((MM a:Wg)=FJ b)=Gx:=Td (λq=>nomatch q)
noncomputable def Y2(prog:Gn)(w:Tf):PySem.KeyKind prog w Wg where
 is:=jG
 hash:=Q79 w
 inj:=λv a b g f=>by
  rcases Xl g with⟨i,t,rfl,rfl⟩|⟨x,t,rfl,rfl⟩
  .rcases Xl f with⟨j,u,rfl,e⟩|⟨y,u,rfl,e⟩
   .injection e with c _;rw[c]
   .exact nomatch e
  .rcases Xl f with⟨j,u,rfl,e⟩|⟨y,u,rfl,e⟩
   .exact nomatch e
   .injection e with c _;rw[c]
 byValue:=λk v h=>by rcases Xl h with⟨i,t,rfl,rfl⟩|⟨x,t,rfl,rfl⟩<;>rfl
 pyHash:=λd h=>by
  rcases Xl d with⟨i,t,rfl,rfl⟩|⟨x,t,rfl,rfl⟩
  .exact RP h
  .exact RQ h
 eqBool:=λl d h=>by
  rcases Xl l with⟨i,t,rfl,rfl⟩|⟨x,t,rfl,rfl⟩
  .rcases Xl d with⟨j,u,rfl,rfl⟩|⟨y,u,rfl,rfl⟩
   .rw[Q3j]at h;exact wpAny_eqBool_int h
   .rw[K9]at h;exact HN i t y u _ _ _ _ h
  .rcases Xl d with⟨j,u,rfl,rfl⟩|⟨y,u,rfl,rfl⟩
   .rw[Qq]at h;exact HP x t j u _ _ _ _ h
   .rw[Q37]at h;exact wpAny_eqBool_str h
 «strs»:=λk x t v h=>by
  rcases Xl h with⟨i,u,rfl,e⟩|⟨y,u,rfl,e⟩
  .exact nomatch e
  .injection e with c _;subst c;cases v<;>rfl
theorem Ph(a:Gn)(w:Tf)(i:Int)(t:JX):(Y2 a w).is (.inl i) (.int i t)=Gi:=XQ i t
theorem YW(a:Gn)(w:Tf)(x:TM)(t:JX):(Y2 a w).is (.inr x) (.str x t)=Gi:=VB x t
inductive V where
 |non|bl (b:Bool)|int (i:Int)|str (x:TM)|byt (b:Array UInt8)|flt (b:UInt64)|ref (a:Ge)|ty (n:String)
 deriving DecidableEq
variable{xs vs:List V}{v:V}
def zu:V->Gj->Prop
 |.non,u=>u=DD
 |.bl b,u=>u=Lm b
 |.int i,u=>∃t,u=MD i t
 |.str x,u=>∃t,u=ME x t
 |.byt b,u=>∃t,u=Hj b t
 |.flt b,u=>∃t,u=Bh b t
 |↑a,u=>u=Tn a
 |.ty n,u=>u=SV n
abbrev Yl:List V->List Gj->Prop:=Df zu
theorem Yl.length{b:List V}{a:List Gj}(r:Yl b a):⇑b=⇑a:=GJ r
theorem Yl.get{x:V}(h:Yl xs us)(e:xs[i]?/x):∃u,us[i]?/u/\zu x u:=by
 induction h generalizing i with
 |nil=>cases e
 |cons r _ a=>cases i with
  |zero=>cases e;exact{0,r}
  |succ=>exact a e
theorem Yl.append{b:List V}{a:List Gj}(h:Yl xs us)(s:Yl b a):Yl (xs++b) (us++a):=by
 induction h with
 |nil=>exact s
 |cons r _ c=>exact .cons r c
theorem Yl.take{b:List V}{a:List Gj}(n:Nat)(h:Yl b a):Yl (b.take n) (a.take n):=by
 induction h generalizing n with
 |nil=>cases n<;>exact .nil
 |cons r _ c=>cases n with
  |zero=>exact .nil
  |succ=>exact .cons r (c _)
theorem Yl.drop{b:List V}{a:List Gj}(n:Nat)(h:Yl b a):Yl (b.drop n) (a.drop n):=by
 induction h generalizing n with
 |nil=>cases n<;>exact .nil
 |cons r t c=>cases n with
  |zero=>exact .cons r t
  |succ=>exact c _
def R5:Option V->Option Gj->Prop
 |some v,Ga u=>zu v u
 |none,Gq=>True
 |_,_=>False
def KV{κ:Type}:List (κ×V)->List (κ×Gj)->Prop:=Df λ(p:κ×V)(q:κ×Gj)=>p.1=q.1/\zu p.2 q.2
def kV:Wg->V
 |.inl i=>.int i
 |.inr x=>.str x
inductive HO where
 |lst (xs:List V)
 |tup (xs:List V)
 |dK (zw:List (Wg×V))|dT (zw:List (List Wg×V))
 |set (S:Int->Bool) (n:Nat)
 |ins (C dx:Ge) (fs:List (TM×V))
 |own (x:Ge)
 |xd (fs:List (TM×V))
 |met (f x:Ge)
 |rng (lo hi:Int)
 |frz (o:SR) (u:HO)
 |tbl (ps:Array Gj)
 |ext (φ:Heap->Prop)
abbrev Hp:=Ge->Option HO
variable{H:Hp}
def zj(H:Hp)(a:Ge)(o:HO):Hp:=λb=>if b=a then Ga o else H b
theorem Qb{H:Hp}{a:Ge}{o:HO}:zj H a o a/o:=by unfold zj;rw[GX rfl]
theorem Qh{o:HO}(h:b≠a):zj H a o b=H b:=by unfold zj;rw[Gs h]
theorem Vb{o u:HO}:zj (zj H a o) a u=zj H a u:=by
 funext b;unfold zj;split<;>rfl
theorem Zt{o u:HO}(h:H a/o)(c:H b/u)(d:o≠u):a≠b:=by intro e;subst e;rw[h]at c;exact d (T3 c)
theorem Qe{o:HO}(h:H a/o)(c:H b=Gq):a≠b:=by intro e;subst e;rw[h]at c;cases c
section
variable(P:Gn)(w:Tf)
def Yq(H:Hp)(h:Heap)(a:Ge):HO->Prop
 |.lst xs=>⇑xs<=TF/\∃(b:List Gj)(n:Nat),Yl xs b/\h.get? a=Ga {cls:=.type "list",data:=.seq b.toArray n}
 |.tup xs=>⇑xs<=TF/\∃b:List Gj,Yl xs b/\IsTup h a b.toArray
 |.dK zw=>⇑zw<=TF/\(a==Ee)=Gx/\∃c,KV zw c/\h.DictOf (Y2 P w) a c
 |.dT zw=>⇑zw<=TF/\(a==Ee)=Gx/\∃xs:List (List Wg×Ge×Gj),
   Df (λ(p:List Wg×V)(q:List Wg×Ge×Gj)=>p.1=q.1/\H q.2.1/.tup (p.1.map kV)/\zu p.2 q.2.2) zw xs/\
   ∃o es ep,h.get? a/o/\o.ExactDict/\o.data=.dict es ep/\es.toList=xs.map (entryOfKey (tupleKind (Y2 P w)))/\(xs.map (·.1)).Nodup
 |.set S n=>h.SetOf (intKind P w) a S n
 |.ins C dx fs=>H dx/.own a/\⇑fs<=1000/\dx≠a/\h.get? a/E4 C dx/\
   ∃mA,h.Ns1 dx mA/\(∀f,R5 (fs.lookup f) (mA f))/\NY mA (fs.map (·.1))
 |.own _=>∃o,h.get? a/o
 |.xd fs=>∃mA,h.Ns1 a mA/\∀f,R5 (fs.lookup f) (mA f)
 |.rng lo hi=>∃t u v,h.get? a=Ga {cls:=.type "range",data:=.fields #[.int lo t,.int hi u,.int 1 v]}
 |.frz o u=>h.get? a/o/\Yq H h a u
 |.tbl ps=>h.get? a=Ga {cls:=.none,data:=.fields ps}
 |.met f x=>h.get? a/Mi ↑f ↑x
 |.ext c=>c h/\(∃o,h.get? a/o)/\∀h1 h2:Heap,c h1->(∀o,h1.get? a/o->h2.get? a/o)->c h2
def O4(H:Hp)(h:Heap):Prop:=∀a o,H a/o->Yq P w H h a o
end
section
variable{P:Gn}{w:Tf}{H H':Hp}{h h':Heap}{a:Ge}{o:HO}
theorem Yq.lt(x:Yq P w H h a o):a<h.objs.size:=by
 cases o with
 |lst d=>have(_,_,_,_,e):=x;exact Tk e
 |tup d=>have(_,_,_,p):=x;exact p.lt
 |dK b=>have(_,_,_,_,o,_,_,e,_):=x;exact Tk e
 |dT b=>have(_,_,_,_,o,_,_,e,_):=x;exact Tk e
 |set S n=>have(o,_,_,_,e,_):=x;exact Tk e
 |ins C f c=>have(_,_,_,e,_):=x;exact Tk e
 |own y=>have(_,e):=x;exact Tk e
 |xd c=>have(_,(_,_,_,e,_),_):=x;exact Tk e
 |rng f hi=>have(_,_,_,e):=x;exact Tk e
 |frz f u=>have(e,_):=x;exact Tk e
 |tbl f=>exact Tk (show h.get? a/_ from x)
 |met f y=>exact Tk (show h.get? a/_ from x)
 |ext f=>have(_,(_,e),_):=x;exact Tk e
theorem Qr{e:Type}{F G:α->e->Prop}{c:List α}{d:List e}(h:Df F c d)(f:∀a b,F a b->G a b):Df G c d:=by
 induction h with
 |nil=>exact .nil
 |cons r _ a=>exact .cons (f _ _ r) a
theorem Yq.jk(x:Yq P w H h a o)(k:∀b u,(b=a\/H b/.own a)->h.get? b/u->h'.get? b/u)
  (E:∀b,H b/.own a->H' b/.own a)(ht:∀b m,H b/.tup m->H' b/.tup m):Yq P w H' h' a o:=by
 induction o with
 |lst m=>have(z,l,n,r,e):=x;exact{z,l,n,r,k _ _ (.inl Xb) e}
 |tup m=>have(z,l,r,g,e,c):=x;exact{z,l,r,g,k _ _ (.inl Xb) e,c}
 |dK s=>have(z,y,f,r,g,j,i,e,c):=x;exact{z,y,f,r,g,j,i,k _ _ (.inl Xb) e,c}
 |dT s=>have(z,y,m,r,g,j,i,e,c):=x;exact{z,y,m,Qr r λp q z=>{z.1,ht _ _ z.2.1,z.2.2},g,j,i,k _ _ (.inl Xb) e,c}
 |set S n=>have(g,j,i,t,e,c):=x;exact{g,j,i,t,k _ _ (.inl Xb) e,c}
 |ins C F D=>have(d,z,v,e,A,(B,j,i,f,c),r):=x;exact{E _ d,z,v,k _ _ (.inl Xb) e,A,{B,j,i,k _ _ (.inr d) f,c},r}
 |own y=>have(g,e):=x;exact{g,k _ _ (.inl Xb) e}
 |xd D=>have(A,(B,j,i,e,c),r):=x;exact{A,{B,j,i,k _ _ (.inl Xb) e,c},r}
 |rng f hi=>have(t,u,v,e):=x;exact{t,u,v,k _ _ (.inl Xb) e}
 |frz g u f=>have(e,q):=x;exact{k _ _ (.inl Xb) e,f q}
 |tbl f=>have e:h.get? a=Ga {cls:=.none,data:=.fields f}:=x;show h'.get? a=Ga {cls:=.none,data:=.fields f};exact k a _ (.inl Xb) e
 |met f y=>have e:h.get? a/Mi ↑f ↑y:=x;show h'.get? a/Mi ↑f ↑y;exact k a _ (.inl Xb) e
 |ext v=>have(p,(o,e),f):=x;exact{f _ _ p λo q=>k _ _ (.inl Xb) q,{o,k _ _ (.inl Xb) e},f}
theorem O4.lt(x:O4 P w H h)(e:H a/o):a<h.objs.size:=(x a o e).lt
theorem O4.fresh(x:O4 P w H h)(e:h.objs.size<=a):H a=Gq:=by
 cases q:H a with
 |none=>rfl
 |some u=>exact absurd (TV (x.lt q) e) (EC _)
theorem O4.kept(x:O4 P w H h)(k:∀b u,h.get? b/u->h'.get? b/u):O4 P w H h':=λa o e=>(x a o e).jk (λb u _ q=>k b u q) (λ_ q=>q) λ_ _ q=>q
theorem O4.laid(x:O4 P w H h)(k:∀b u,h.get? b/u->h'.get? b/u)(i:h.objs.size<=a)(d:Yq P w (zj H a o) h' a o):O4 P w (zj H a o) h':=λb u e=>by
 have g:=x.fresh i;by_cases f:b=a
 .subst f;rw[Qb]at e;cases e;exact d
 .rw[Qh f]at e;exact(x b u e).jk (λc v _ q=>k c v q) (λc q=>by rw[Qh (Qe q g)];exact q) λc j q=>by rw[Qh (Qe q g)];exact q
end
def Rd(H:Hp)(a:Ge)(u:HO):Prop:=H a=Ga u\/∃o,H a/.frz o u
theorem Rd.ok{h:Heap}{u:HO}(r:Rd H a u)(x:O4 P w H h):Yq P w H h a u:=by
 rcases r with r|⟨o,r⟩
 .exact x a u r
 .obtain⟨_,q⟩:=x a _ r;exact q
def lL:Option HO->Prop
 |some (.lst _)=>True
 |some (.dK _)=>True
 |some (.dT _)=>True
 |some (.set _ _)=>True
 |some (.ins _ _ _)=>True
 |some (.ext _)=>True
 |_=>False
section
variable{P:Gn}{w:Tf}{H:Hp}{h h':Heap}{x e:Ge}{o':HO}
theorem O4.write(ok:O4 P w H h)(j:lL (H x))(o:e=x\/H e/.own x)(k:∀b u,b≠e->h.get? b/u->h'.get? b/u)(m:∃u,h'.get? e/u)
  (n:Yq P w (zj H x o') h' x o'):O4 P w (zj H x o') h':=λb u q=>by
 have d:∀c y,H c/.own y->c≠x:=λc y r z=>by subst z;rw[r]at j;exact j
 have f:∀c l,H c/.tup l->c≠x:=λc l r z=>by subst z;rw[r]at j;exact j
 by_cases g:b=x
 .subst g;rw[Qb]at q;cases q;exact n
 .rw[Qh g]at q;by_cases a:b=e
  .have i:H b/.own x:=by
    rcases o with z|z
    .exact absurd (a.trans z) g
    .rw[a];exact z
   rw[q]at i;cases i;have(v,p):=m;exact{v,by rw[a];exact p}
  .refine(ok b u q).jk (λc v i r=>k c v ?_ r) (λc r=>by rw[Qh (d c b r)];exact r) λc l r=>by rw[Qh (f c l r)];exact r
   rcases i with rfl|i
   .exact a
   .rintro rfl;rcases o with z|z
    .exact d c b i z
    .rw[i]at z;cases z;exact g rfl
end
structure Un(fs ex:List Ge)(H H':Hp)(h h':Heap):Prop where
 keep:∀b o,h.get? b/o->H b=Gq->b∉fs->b∉ex->h'.get? b/o
 slot:∀b o,h.get? b/o->H b=Gq->b∈fs->b∉ex->∃sl,h'.get? b=Ga {o with slots:=sl}
 free:∀b o,h.get? b/o->H b=Gq->b∉ex->H' b=Gq
 there:∀b o,h.get? b/o->b∉ex->∃o',h'.get? b/o'
 Qv:∀b xs,H b/.tup xs->H' b/.tup xs
 Qba:∀b o u,H b/.frz o u->H' b/.frz o u
 Qc1:∀b ps,H b/.tbl ps->∃more,H' b/.tbl (ps++more)
section
variable{fs fs' ex ex':List Ge}{H H1 H2:Hp}{h h1 h2 h':Heap}{a x e:Ge}{o:HO}
theorem Un.any(u:Un fs ex H H1 h h1){a:SR}(q:h.get? b/a)(n:H b=Gq)(d:b∉ex):∃e,h1.get? b=Ga {a with slots:=e}:=by
 by_cases c:b∈fs
 .exact u.slot b a q n c d
 .exact{a.slots,u.keep b a q n c d}
theorem Un.trans(a:Un fs ex H H1 h h1)(b:Un fs ex H1 H2 h1 h2):Un fs ex H H2 h h2 where
 keep:=λc e q n g d=>b.keep c e (a.keep c e q n g d) (a.free c e q n d) g d
 slot:=λc e q n g d=>by have(m,f):=a.slot c e q n g d;have(l,j):=b.slot c _ f (a.free c e q n d) g d;exact⟨l,j⟩
 free:=λc e q n d=>by have(k,f):=a.there c e q d;exact b.free c k f (a.free c e q n d) d
 there:=λc e q d=>by have(k,f):=a.there c e q d;exact b.there c k f d
 Qv:=λc i q=>b.Qv c i (a.Qv c i q)
 Qba:=λc e i q=>b.Qba c e i (a.Qba c e i q)
 Qc1:=λc o q=>by have(l,f):=a.Qc1 c o q;have(m,j):=b.Qc1 c _ f;exact{l++m,by rw[j,NK]}
theorem Un.kept(k:∀b u,h.get? b/u->h'.get? b/u):Un fs ex H H h h':=
 {λb a q _ _ _=>k b a q,λb a q _ _ _=>{a.slots,k b a q},λ_ _ _ n _=>n,λb a q _=>{a,k b a q},λ_ _ q=>q,λ_ _ _ q=>q,λ_ c q=>{#[],by rw[q];simp}}
theorem Un.refl:Un fs ex H H h h:=Un.kept λ_ _ q=>q
theorem Un.laid(k:∀b u,h.get? b/u->h'.get? b/u)(d:h.objs.size<=a)(c:H a=Gq):Un fs ex H (zj H a o) h h' where
 keep:=λb u q _ _ _=>k b u q
 slot:=λb u q _ _ _=>{u.slots,k b u q}
 free:=λb u q n _=>by rw[Qh (T2 (TV (Tk q) d))];exact n
 there:=λb u q _=>{u,k b u q}
 Qv:=λb e q=>by rw[Qh (Qe q c)];exact q
 Qba:=λb u e q=>by rw[Qh (Qe q c)];exact q
 Qc1:=λb f q=>{#[],by rw[Qh (Qe q c),q];simp}
theorem Un.write(c:lL (H x))(j:e=x\/H e/.own x)(k:∀b u,b≠e->h.get? b/u->h'.get? b/u)(d:∃u,h'.get? e/u):Un fs ex H (zj H x o) h h':=by
 have i:∀b,H b=Gq->b≠x:=λb n z=>by subst z;rw[n]at c;exact c
 have g:∀b,H b=Gq->b≠e:=λb n z=>by
  subst z;rcases j with r|r
  .exact i b n r
  .rw[n]at r;cases r
 have f:∀b u,H b/u->¬lL (Ga u)->b≠x:=λb u q l z=>by subst z;rw[q]at c;exact l c
 refine⟨λb u q n _ _=>k b u (g b n) q,λb u q n _ _=>{u.slots,k b u (g b n) q},λb u q n _=>by rw[Qh (i b n)];exact n,λb u q _=>?_,
  λb m q=>by rw[Qh (f b _ q λz=>z)];exact q,λb u m q=>by rw[Qh (f b _ q λz=>z)];exact q,λb p q=>{#[],by rw[Qh (f b _ q λz=>z),q];simp}⟩
 by_cases a:b=e
 .subst a;exact d
 .exact{u,k b u a q}
end
noncomputable def trk(h:Heap)(H:Hp):List Ge:=(EM h.objs.size).filter λa=>(H a).isSome
def iZ(h:Heap)(H:Hp):Heap:=JK h (trk h H)
theorem PP(h:Heap)(H:Hp):(iZ h H).objs.size=h.objs.size:=Hk _ _
theorem Qw5{h:Heap}(e:h.get? b/o)(n:H b=Gq):(iZ h H).get? b/o:=
 Hz _ e λa=>by have q:(H b).isSome=Gi:=(Fy.mp a).2;rw[n]at q;simp at q
theorem PH{h:Heap}(e:(iZ h H).get? b/o):h.get? b/o/\H b=Gq:=by
 have a:h.get? b/o:=HQ (trk h H) e;exists a;cases q:H b with
 |none=>rfl
 |some x=>have c:b∈trk h H:=Fy.mpr {Se.mpr (Tk a),by simp[q]};have z:(iZ h H).get? b=Gq:=Hl (trk h H) c;rw[z]at e;cases e
noncomputable def XE(g h:Heap)(L:Ge):List (Ge×SR):=(EM h.objs.size).filterMap λa=>if a=L\/(g.get? a).isSome=Gi then Gq else(h.get? a).map λo=>(a,o)
noncomputable def X6(g h:Heap)(L d:Ge):List (Ge×SR):=(XE g h L).filter λp=>decide (p.1≠d)
structure Mod(K:Gd)(mg:TM->Option Gj)(base:Heap):Prop where
 kin:K.In base
 glob:base.Ns D4 mg
 blt:∃mb,base.Ns builtinsNs mb/\∀x:TM,x≠"__name__"->mb x=bootBuiltins x
 nolimit:base.NoLimit
set_option genInjectivity false in
structure Cx where
 prog:Gn
 w:Tf
 K:Gd
 mg:TM->Option Gj
 base:Heap
 A:DS
 N:List TM
 s₀:Gy
 H₀:Hp
 env:Bm
 outer:List Bm
 stack:List Bm
 ex:List Ge
 fn:TM->Bool
 calm:Bool
 pn:List (Ge×SR)
 xe:Gj->Gy->Prop
variable{X:Cx}
noncomputable def frs(l:List Bm):List Ge:=l.filterMap (·.frame)
abbrev Cx.fs(X:Cx):List Ge:=frs X.outer
def qx(a:M3)(x:TM):Prop:=a.names.lookup x=Ga .local\/a.names.lookup x/.cell\/a.names.lookup x/.free
def Loc(a:M3)(x:TM):Prop:=a.names.lookup x=Ga .local\/a.names.lookup x/.cell
def Look(a:Bm)(h:Heap)(m:TM->Option Gj)(x:TM)(u:Gj):Prop:=
 (a.kindOf x/.local/\m x/u)\/((a.kindOf x/.cell\/a.kindOf x/.free)/\∃c,a.cells.lookup x/c/\h.IsCell c (Ga u))
structure Cx.Ok(X:Cx):Prop where
 mod:Mod X.K X.mg X.base
 kind:X.env.scope.kind=.function
 glob:X.env.globals=D4
 blt:X.env.builtins=builtinsNs
 above:X.s₀.heap.objs.size<=X.env.locals
 inj:∀x y c,X.env.cells.lookup x/c->X.env.cells.lookup y/c->x=y
 has:∀x,(X.env.kindOf x/.cell\/X.env.kindOf x/.free)->∃c,X.env.cells.lookup x/c
 cab:∀x c,X.fn x=Gi->X.env.cells.lookup x/c->X.s₀.heap.objs.size<=c
 hd:X.calm=Gi->X.A.handled=Gq
 frames:X.A.frames/X.stack
 stk:X.stack=X.outer\/(X.stack=X.env::X.outer/\X.env.frame/X.env.locals)
 exf:∀b∈X.ex,b≠X.env.locals/\∀x c,X.env.cells.lookup x/c->c≠b
 bs:∀b o,X.base.get? b/o->X.s₀.heap.get? b/o/\X.H₀ b=Gq
 bsz:X.base.objs.size<=X.s₀.heap.objs.size
 Qv1:∀b o,X.base.get? b/o->b∉X.ex
 Q0b:∀b∈X.ex,b∉X.fs
 iB:X.s₀.heap.FunFrames X.base X.outer
 frf:∀b∈X.fs,X.H₀ b=Gq
structure zv(X:Cx)(zq:List (Ge×SR))(σ:List (Option V))(H:Hp)(s:Gy):Prop where
 ok:X.Ok
 os:s.os=X.s₀.os
 bare:Mj s.gens
 base:Un X.fs X.ex X.H₀ H X.s₀.heap s.heap
 loc:∃m,s.heap.Ns X.env.locals m/\∀(i:Nat)(x:TM)(v:V),X.N[i]?/x->σ[i]?/Ga v->qx X.env.scope x->∃u,zu v u/\Look X.env s.heap m x u
 cell:∀x c,X.env.cells.lookup x/c->∃v,s.heap.IsCell c v
 free:H X.env.locals=Gq
 Iz:∀x c,X.env.cells.lookup x/c->H c=Gq
 pin:∀p∈X.pn++zq,s.heap.get? p.1/p.2/\H p.1=Gq/\p.1≠X.env.locals/\p.1∉X.fs/\∀v,p.2.data≠.cell v
 Ye:O4 X.prog X.w H s.heap
 len:⇑σ=⇑X.N
section
variable{X:Cx}{zq:List (Ge×SR)}{σ:List (Option V)}{H H':Hp}{s:Gy}{h':Heap}
theorem Cx.Ok.VV(ok:X.Ok)(e:X.base.get? b/o):b∉X.fs:=λa=>by have:=(ok.iB.mem a).1;rw[e]at this;cases this
theorem zv.bs(I:zv X zq σ H s):∀b o,X.base.get? b/o->s.heap.get? b/o/\H b=Gq:=λb o e=>{I.base.keep b o (I.ok.bs b o e).1 (I.ok.bs b o e).2 (I.ok.VV e) (I.ok.Qv1 b o e),I.base.free b o (I.ok.bs b o e).1 (I.ok.bs b o e).2 (I.ok.Qv1 b o e)}
theorem zv.bk(I:zv X zq σ H s):∀b o,X.base.get? b/o->s.heap.get? b/o:=λb o e=>(I.bs b o e).1
theorem zv.mod(I:zv X zq σ H s):Mod X.K X.mg X.base:=I.ok.mod
theorem zv.kIn(I:zv X zq σ H s):X.K.In s.heap:=I.ok.mod.kin.keeps I.bk
theorem zv.lt(I:zv X zq σ H s):X.env.locals<s.heap.objs.size:=let⟨_,hn,_⟩:=I.loc;hn.lt
theorem zv.sz(I:zv X zq σ H s):X.s₀.heap.objs.size<=s.heap.objs.size:=Dl I.ok.above (FI I.lt)
theorem zv.Q78(I:zv X zq σ H s)(h:s.heap.objs.size<=a):a∉X.fs:=λb=>by have(_,o,c,_):=I.ok.iB.mem b;exact absurd (TV (Tk c) (Dl I.sz h)) (EC _)
theorem zv.cne(I:zv X zq σ H s):∀x c,X.env.cells.lookup x/c->c≠X.env.locals:=λx c e z=>by have(v,o,f,d):=I.cell x c e;have(m,(i,h,g,b,a,_),_):=I.loc;rw[z,b]at f;cases f;rw[a]at d;cases d
theorem zv.iB(I:zv X zq σ H s):s.heap.FunFrames X.base X.outer:=by
 have all:∀(l:List Bm),(∀b∈frs l,b∈X.fs)->X.s₀.heap.FunFrames X.base l->s.heap.FunFrames X.base l:=by
  intro l;induction l with
  |nil=>intro _ _;trivial
  |cons f r n=>intro hs i;have(h,(L,o,d,j,k,g),m):=i;have a:L∈X.fs:=hs L (by unfold frs;rw[FG,d];exact Tc);have(p,e):=I.base.slot L o k (I.ok.frf L a) a λz=>I.ok.Q0b L z a;exact{h,{L,_,d,j,e,g},n (λb c=>hs b (by unfold frs;rw[FG,d];exact Gr _ c)) m}
 exact all X.outer (λ_ c=>c) I.ok.iB
theorem zv.stack(I:zv X zq σ H s):s.heap.FunFrames X.base X.stack:=by
 rcases I.ok.stk with e|⟨e,a⟩
 .rw[e];exact I.iB
 .rw[e];have(m,b,_):=I.loc;refine .cons (by rw[I.ok.kind];decide) a b ?_ I.iB;exact Heap.get?_none_of_le (Dl I.ok.bsz I.ok.above)
theorem zv.oA(I:zv X zq σ H s):∀b∈frs X.stack,b∈X.env.locals::X.fs:=λb a=>by
 rcases I.ok.stk with e|⟨e,c⟩
 .rw[e]at a;exact Gr _ a
 .rw[e]at a;unfold frs at a;rw[FG,c]at a;exact a
theorem zv.xH(I:zv X zq σ H s):∀b∈frs X.stack,H b=Gq:=λb a=>by
 rcases Ti.mp (I.oA b a)with e|a
 .rw[e];exact I.free
 .obtain⟨_,o,c,_⟩:=I.ok.iB.mem a;exact I.base.free b o c (I.ok.frf b a) λz=>I.ok.Q0b b z a
theorem zv.step{g':Array GenState}{Q:Nat}{d':Drawn}{ch:List Ge}(I:zv X zq σ H s)
  (g:∀b∈ch,(b∈X.ex\/X.s₀.heap.objs.size<=b)/\b≠X.env.locals/\(∀x c,X.env.cells.lookup x/c->c≠b)/\∀p∈X.pn++zq,p.1≠b)
  (keep:∀b o,b≠X.env.locals->b∉X.fs->b∉ch->s.heap.get? b/o->H b=Gq->h'.get? b/o)
  (slot:∀b o,b≠X.env.locals->b∈X.fs->b∉ch->s.heap.get? b/o->H b=Gq->∃G,h'.get? b=Ga {o with slots:=G})(free:∀b o,b∉ch->s.heap.get? b/o->H b=Gq->H' b=Gq)
  (there:∀b o,b∉ch->s.heap.get? b/o->∃D,h'.get? b/D)
  (Qv:∀b w,H b/.tup w->H' b/.tup w)(Qba:∀b o u,H b/.frz o u->H' b/.frz o u)(Qc1:∀b E,H b/.tbl E->∃l,H' b/.tbl (E++l))
  (P:∀m,s.heap.Ns X.env.locals m->h'.Ns X.env.locals m)(K:O4 X.prog X.w H' h')(M:Mj g'):
  zv X zq σ H' {s with heap:=h',gens:=g',drawn:=d',toks:=Q}:=by
 have C:∀b o,X.s₀.heap.get? b/o->b≠X.env.locals:=λb o e=>T2 (TV (Tk e) I.ok.above);have t:∀b o,X.s₀.heap.get? b/o->b∉X.ex->b∉ch:=λb o e a y=>by
  rcases(g b y).1 with z|z
  .exact a z
  .exact absurd (TV (Tk e) z) (EC _)
 have f:∀x c,X.env.cells.lookup x/c->∀v,s.heap.IsCell c v->h'.IsCell c v:=λx c e v⟨o,A,F⟩=>by
  have h:c∉ch:=λz=>(g c z).2.2.1 x c e rfl;by_cases l:c∈X.fs
  .obtain⟨G,q⟩:=slot c o (I.cne x c e) l h A (I.Iz x c e);exact{_,q,F}
  .exact{o,keep c o (I.cne x c e) l h A (I.Iz x c e),F}
 refine{I.ok,I.os,M,{λb o e n y a=>?_,λb o e n y a=>?_,λb o e n a=>?_,λb o e a=>?_,λb w e=>Qv b w (I.base.Qv b w e),λb o w e=>Qba b o w (I.base.Qba b o w e),λb E e=>?_},?_,λx c e=>?_,?_,λx c e=>?_,λp J=>?_,K,I.len}
 .exact keep b o (C b o e) y (t b o e a) (I.base.keep b o e n y a) (I.base.free b o e n a)
 .obtain⟨G,j⟩:=I.base.slot b o e n y a;have(l,B):=slot b _ (C b o e) y (t b o e a) j (I.base.free b o e n a);exact⟨l,B⟩
 .obtain⟨D,j⟩:=I.base.there b o e a;exact free b D (t b o e a) j (I.base.free b o e n a)
 .obtain⟨D,j⟩:=I.base.there b o e a;exact there b D (t b o e a) j
 .obtain⟨l,j⟩:=I.base.Qc1 b E e;have(r,B):=Qc1 b _ j;exact{l++r,by rw[B,NK]}
 .obtain⟨m,O,N⟩:=I.loc;refine{m,P m O,λi x v j B L=>?_};have(u,r,l):=N i x v j B L;exists u,r;rcases l with l|⟨k,c,e,z⟩
  .exact .inl l
  .exact .inr {k,c,e,f x c e _ z}
 .obtain⟨v,z⟩:=I.cell x c e;exact{v,f x c e v z}
 .obtain⟨m,⟨o,_,_,A,_⟩,_⟩:=I.loc;exact free _ o (λz=>(g _ z).2.1 Xb) A I.free
 .obtain⟨v,o,A,F⟩:=I.cell x c e;exact free c o (λz=>(g c z).2.2.1 x c e Xb) A (I.Iz x c e)
 .obtain⟨e,n,l,r,d⟩:=I.pin p J;have h:p.1∉ch:=λz=>(g p.1 z).2.2.2 p J rfl;exact{keep p.1 p.2 l r h e n,free p.1 p.2 h e n,l,r,d}
theorem zv.un(I:zv X zq σ H s)(u:Un X.fs [] H H' s.heap h')(h:O4 X.prog X.w H' h'):zv X zq σ H' {s with heap:=h',toks:=t'}:=by have(m,(o,p,l,g,r),_):=id I.loc;have(v,i):=u.any g I.free ⋯;exact I.step (g':=s.gens) (d':=s.drawn) (ch:=[]) (λ_ z=>nomatch z) (λb o _ f _ e n=>u.keep b o e n f ⋯) (λb o _ f _ e n=>u.slot b o e n f ⋯) (λb o _ e n=>u.free b o e n ⋯) (λb o _ e=>u.there b o e ⋯) u.Qv u.Qba u.Qc1 (λq j=>by have(t,d,c,a,k):=j;rw[g]at a;cases a;exact{_,d,c,i,k}) h I.bare
theorem zv.call{g':Array GenState}{d':Drawn}{ch:List Ge}(I:zv X zq σ H s)(u:Un (frs X.stack) ch H H' s.heap h')(j:O4 X.prog X.w H' h')(k:Mj g')
  (d:∀b∈ch,(b∈X.ex\/X.s₀.heap.objs.size<=b)/\b≠X.env.locals/\(∀x c,X.env.cells.lookup x/c->c≠b)/\∀p∈X.pn++zq,p.1≠b):
  zv X zq σ H' {s with heap:=h',gens:=g',drawn:=d',toks:=t'}:=by
 have(m,(o,f,c,i,r),_):=id I.loc;have(t,h):=u.any i I.free λz=>(d _ z).2.1 rfl;exact I.step (ch:=ch) d (λb o h c a e n=>u.keep b o e n (λz=>(Ti.mp (I.oA b z)).elim h c) a) (λb o _ _ a e n=>u.any e n a) (λb o a e n=>u.free b o e n a) (λb o a e=>u.there b o e a) u.Qv u.Qba u.Qc1 (λq l=>by have(r,g,f,c,m):=l;rw[i]at c;cases c;exact{_,g,f,h,m}) j k
theorem zv.turned{a:Ge}(I:zv X zq σ H s)(k:∀b o,b≠a->s.heap.get? b/o->h'.get? b/o)(A:H a=Gq)(g:a≠X.env.locals)
  (j:a∈X.ex\/X.s₀.heap.objs.size<=a)(l:∀x c,X.env.cells.lookup x/c->c≠a)(t:∀p∈X.pn++zq,p.1≠a):zv X zq σ H {s with heap:=h',toks:=t'}:=by
 have f:∀b u,H b/u->b≠a:=λb u e z=>by rw[z,A]at e;cases e
 refine I.step (g':=s.gens) (d':=s.drawn) (ch:=[a]) (λb w=>?_) (λb o _ _ d e _=>k b o (λz=>d (by simp[z])) e) (λb o _ _ d e _=>{o.slots,k b o (λz=>d (by simp[z])) e}) (λ_ _ _ _ n=>n)
  (λb o d e=>{o,k b o (λz=>d (by simp[z])) e}) (λ_ _ e=>e) (λ_ _ _ e=>e) (λb h e=>{#[],by rw[e];simp}) (λm y=>?_) (λb u e=>?_) I.bare
 .have e:b=a:=by simpa using w
  subst e;exact⟨j,g,l,t⟩
 .obtain⟨o,i,h,v,r⟩:=y;exact{o,i,h,k _ o (Tb g) v,r}
 .refine(I.Ye b u e).jk (λc v d q=>k c v ?_ q) (λ_ q=>q) λ_ _ q=>q;rcases d with z|z
  .rw[z];exact f b u e
  .exact f c _ z
theorem zv.tok(I:zv X zq σ H s)(t:Nat):zv X zq σ H {s with toks:=t}:=I.un (h':=s.heap) (t':=t) Un.refl I.Ye
theorem zv.kept{t':Nat}(I:zv X zq σ H s)(k:∀b u,s.heap.get? b/u->h'.get? b/u):zv X zq σ H {s with heap:=h',toks:=t'}:=I.un (Un.kept k) (I.Ye.kept k)
theorem zv.laid{a:Ge}{o:HO}{t':Nat}(I:zv X zq σ H s)(k:∀b u,s.heap.get? b/u->h'.get? b/u)(c:s.heap.objs.size<=a)(d:Yq X.prog X.w (zj H a o) h' a o):
  zv X zq σ (zj H a o) {s with heap:=h',toks:=t'}:=I.un (Un.laid k c (I.Ye.fresh c)) (I.Ye.laid k c d)
theorem zv.write{x e:Ge}{o:HO}{g:Nat}(I:zv X zq σ H s)(f:lL (H x))(d:e=x\/H e/.own x)(k:∀b u,b≠e->s.heap.get? b/u->h'.get? b/u)(a:∃u,h'.get? e/u)
  (c:Yq X.prog X.w (zj H x o) h' x o):zv X zq σ (zj H x o) {s with heap:=h',toks:=g}:=I.un (Un.write f d k a) (I.Ye.write f d k a c)
theorem zv.z7{a:List (Ge×SR)}(I:zv X zq σ H s)(h:∀p∈a,s.heap.get? p.1/p.2/\H p.1=Gq/\p.1≠X.env.locals/\p.1∉X.fs/\∀v,p.2.data≠.cell v):zv X a σ H s:=
 {I.ok,I.os,I.bare,I.base,I.loc,I.cell,I.free,I.Iz,λp b=>(Gh.mp b).elim (λz=>I.pin p (Gu _ z)) (h p),I.Ye,I.len}
theorem AS(e:N.Nodup){j:Nat}(a:N[i]?/x)(b:N[j]?/x):i=j:=by have(f,c):=Gg.mp a;have(g,d):=Gg.mp b;exact(List.getElem_inj e).mp (c.trans d.symm)
theorem sD{V:Unit->Gy->Prop}(a:zv X zq σ H s)(Y:X.N.Nodup)(hi:X.N[i]?/x)(h:Loc X.env.scope x)(ae:zu v u)
  (W:∀R,zv X zq (σ.set i (Ga v)) H R->(∃r,Eu r s.heap R.heap/\(r=X.env.locals\/X.env.cells.lookup x/r))->V () R)(hf:X.fn x=Gi\/X.env.scope.names.lookup x/.local:=by infer_instance):wpAny M A (storeName X.env x u) V E s:=by
 have(ak,K,hl):=id a.loc;have ag:(X.env.scope.kind==.class||(X.env.scope.kind==.module&&X.env.locals !=X.env.globals))=Gx:=by rw[a.ok.kind];rfl
 have ac:i<⇑σ:=by rw[a.len];exact(Gg.mp hi).1
 have G:=a.cne;have af:∀{r:Ge}{B:Heap},(∃l,s.heap.get? r/l/\H r=Gq)->Eu r s.heap B->O4 X.prog X.w H B:=λ{r B}ha hs c ob b=>by
  have(_,_,ab):=ha;refine(a.Ye c ob b).jk (λe F g q=>(hs.2 e ?_).trans q) (λ_ q=>q) λ_ _ q=>q;rintro rfl;rcases g with rfl|g
  .rw[ab]at b;cases b
  .rw[ab]at g;cases g
 rcases h with t|t
 .refine wpAny_storeName_local t K (λB ah hs=>?_) ag;have(oL,_,_,ai,_):=id K;refine W _ {a.ok,a.os,a.bare,{λc l b n w h=>?_,λc l b n w h=>?_,a.base.free,λc l b h=>?_,a.base.Qv,a.base.Qba,a.base.Qc1},{_,ah,λj y U f o I=>?_},λy e b=>?_,a.free,a.Iz,λp L=>?_,af {oL,ai,a.free} hs,by simpa using a.len} {_,hs,.inl Xb}
  .exact(hs.2 c (T2 (TV (Tk b) a.ok.above))).trans (a.base.keep c l b n w h)
  .obtain⟨S,f⟩:=a.base.slot c l b n w h;exact{S,(hs.2 c (T2 (TV (Tk b) a.ok.above))).trans f}
  .obtain⟨P,f⟩:=a.base.there c l b h;exact{P,(hs.2 c (T2 (TV (Tk b) a.ok.above))).trans f}
  .by_cases z:j=i
   .subst z;rw[hi]at f;cases f;rw[MO ac]at o;cases o;exact{u,ae,.inl {t,by simp}}
   .rw[Nl (Tb z)]at o;have(T,Q,q):=hl j y U f o I;exists T,Q;rcases q with⟨k,b⟩|⟨k,e,b,m⟩
    .refine .inl {k,?_};have:y≠x:=λb=>z (AS Y f (b▸hi));simp[this,b]
    .exact .inr {k,e,b,m.sameBut hs (G y e b)}
  .obtain⟨F,m⟩:=a.cell y e b;exact{F,m.sameBut hs (G y e b)}
  .obtain⟨b,n,D,O,d⟩:=a.pin p L;exact{(hs.2 p.1 D).trans b,n,D,O,d}
 .have J:X.fn x=Gi:=by
   rcases hf with m|m
   .exact m
   .rw[m]at t;cases t
  have(e,g):=a.ok.has x (.inl t);have(F,m):=a.cell x e g;refine wpAny_storeName_cell a.ok.kind t g m (λB Z hs=>?_);have(oc,ad,aj):=id m;refine W {s with heap:=B} {a.ok,a.os,a.bare,{λc l b n w h=>?_,λc l b n w h=>?_,a.base.free,λc l b h=>?_,a.base.Qv,a.base.Qba,a.base.Qc1},{ak,K.sameBut hs (Tb (G x e g)),λj y U f o I=>?_},λy C b=>?_,a.free,a.Iz,λp L=>?_,af {oc,ad,a.Iz x e g} hs,by simpa using a.len} {e,hs,.inr g}
  .exact(hs.2 c (T2 (TV (Tk b) (a.ok.cab x e J g)))).trans (a.base.keep c l b n w h)
  .obtain⟨S,f⟩:=a.base.slot c l b n w h;exact{S,(hs.2 c (T2 (TV (Tk b) (a.ok.cab x e J g)))).trans f}
  .obtain⟨P,f⟩:=a.base.there c l b h;exact{P,(hs.2 c (T2 (TV (Tk b) (a.ok.cab x e J g)))).trans f}
  .by_cases z:j=i
   .subst z;rw[hi]at f;cases f;rw[MO ac]at o;cases o;exact{u,ae,.inr {.inl t,e,g,Z}}
   .rw[Nl (Tb z)]at o;have(T,Q,q):=hl j y U f o I;exists T,Q;rcases q with q|⟨k,C,b,z'⟩
    .exact .inl q
    .refine .inr {k,C,b,z'.sameBut hs ?_};rintro rfl;exact z (AS Y f (a.ok.inj _ _ _ b g▸hi))
  .by_cases aa:C=e
   .subst aa;exact{_,Z}
   .obtain⟨w2,z2⟩:=a.cell y C b;exact{w2,z2.sameBut hs aa}
  .obtain⟨b,n,D,O,d⟩:=a.pin p L;refine{(hs.2 p.1 ?_).trans b,n,D,O,d};intro q;rw[q,ad]at b;have q':oc=p.2:=T3 b;exact d F (by rw[<-q'];exact aj)
theorem vF{Q:Unit->Gy->Prop}(I:zv X zq σ H s)(c:X.N.Nodup)(hi:X.N[i]?/x)(e:Loc X.env.scope x)(r:zu v u)
  (h:∀a,zv X zq (σ.set i (Ga v)) H a->Q () a)(d:X.fn x=Gi\/X.env.scope.names.lookup x/.local:=by infer_instance):wpAny M A (storeName X.env x u) Q E s:=
 sD I c hi e r (λa b _=>h a b) d
theorem zv.WA{a:Gy}{ch:List Ge}(I:zv X zq σ H s)(h:a.os=s.os)(u:Un (frs X.stack) ch H H' s.heap a.heap)(f:O4 X.prog X.w H' a.heap)(g:Mj a.gens)
  (d:∀b∈ch,(b∈X.ex\/X.s₀.heap.objs.size<=b)/\b≠X.env.locals/\(∀x c,X.env.cells.lookup x/c->c≠b)/\∀p∈X.pn++zq,p.1≠b):zv X zq σ H' a:=by
 have(c,g',d',t',i):=a;have e:i=s.os:=h;subst e;exact I.call (g':=g') (t':=t') (d':=d') u f g d
end
abbrev XK:=Gj->Option Ge->Hp->Prop
abbrev St:=List (Option V)
variable{σ:St}
abbrev VK:=V->Hp->Prop
abbrev TE:=St->Hp->VK->Prop
variable{t te:TE}
abbrev TT:=St->Hp->(Bool->Hp->Prop)->Prop
abbrev TA:=St->Hp->(List V->Hp->Prop)->Prop
set_option genInjectivity false in
structure Ends where
 nx:St->Hp->Prop
 rt:VK
 bk:St->Hp->Prop:=λ_ _=>False
 ct:St->Hp->Prop:=λ_ _=>False
variable{D:Ends}
abbrev TS:=Ends->St->Hp->Prop
variable{tb:TS}
inductive EP(X:Cx)(zq:List (Ge×SR))(σ:St)(Q:VK)(u:Gj)(s':Gy):Prop
 |mk (v:_) (H':_) (h0:zv X zq σ H' s') (h1:zu v u) (h2:Q v H'):EP X zq σ Q u s'
def TP(X:Cx)(zq:List (Ge×SR))(σ:St)(Q:Bool->Hp->Prop)(b:Bool)(s':Gy):Prop:=∃H',zv X zq σ H' s'/\Q b H'
inductive AP(X:Cx)(zq:List (Ge×SR))(σ:St)(Q:List V->Hp->Prop)(us:List Gj)(s':Gy):Prop
 |mk (vs:_) (H':_) (h0:zv X zq σ H' s') (h1:Yl vs us) (h2:Q vs H'):AP X zq σ Q us s'
def SP(X:Cx)(zq:List (Ge×SR))(D:Ends)(f:Flow)(s':Gy):Prop:=
 match f with
 |.next=>∃a H',zv X zq a H' s'/\D.nx a H'
 |.brk=>∃a H',zv X zq a H' s'/\D.bk a H'
 |.cont=>∃a H',zv X zq a H' s'/\D.ct a H'
 |.ret u=>∃v a H',zv X zq a H' s'/\zu v u/\D.rt v H'
def PE(X:Cx)(e:D0)(t:TE):Prop:=
 ∀(zq:List (Ge×SR))(s:Gy)(σ:St)(H:Hp)(Q:VK),zv X zq σ H s->t σ H Q->wpAny (TR X.prog X.w) X.A (eval e X.env) (EP X zq σ Q) X.xe s
def PT(X:Cx)(e:D0)(t:TT):Prop:=
 ∀(zq:List (Ge×SR))(s:Gy)(σ:St)(H:Hp)(Q:Bool->Hp->Prop),zv X zq σ H s->t σ H Q->wpAny (TR X.prog X.w) X.A (isTrue e X.env (eval e X.env)) (TP X zq σ Q) X.xe s
def PW(X:Cx)(e:D0)(t:TT):Prop:=
 ∀(a:JY Gj)(zq:List (Ge×SR))(s:Gy)(σ:St)(H:Hp)(Q:Bool->Hp->Prop),zv X zq σ H s->t σ H Q->wpAny (TR X.prog X.w) X.A (isTrue e X.env a) (TP X zq σ Q) X.xe s
theorem PW.pt{t:TT}(h:PW X e t):PT X e t:=h _
def PA(X:Cx)(es:List D0)(t:TA):Prop:=
 ∀(pos:M4)(zq:List (Ge×SR))(s:Gy)(σ:St)(H:Hp)(Q:List V->Hp->Prop),zv X zq σ H s->t σ H Q->wpAny (TR X.prog X.w) X.A (spliced (E7 pos (T4 es X.env))) (AP X zq σ Q) X.xe s
def PS(X:Cx)(st:DQ)(t:TS):Prop:=
 ∀(zq:List (Ge×SR))(s:Gy)(σ:St)(H:Hp)(D:Ends),zv X zq σ H s->t D σ H->wpAny (TR X.prog X.w) X.A (exec st X.env) (SP X zq D) X.xe s
def Xu(X:Cx)(st:List DQ)(t:TS):Prop:=
 ∀(zq:List (Ge×SR))(s:Gy)(σ:St)(H:Hp)(D:Ends),zv X zq σ H s->t D σ H->wpAny (TR X.prog X.w) X.A (execs st X.env) (SP X zq D) X.xe s
theorem Xd{t:JY α}{Q b:α->Gy->Prop}(h:wpAny M A t Q E s)(c:∀a s,Q a s->b a s):wpAny M A t b E s:=EN h c λ_ _ x=>x
section
variable{X:Cx}
theorem bin{a b:D0}{g i:TE}(l:PE X a g)(m:PE X b i){R:V->V->Hp->Prop}(I:zv X zq σ H s)(h:g σ H λx H1=>i σ H1 λy H2=>R x y H2)
  {Q:α->Gy->Prop}{f:Gj->Gj->JY α}
  (n:∀v u e x y H2,zv X zq σ H2 e->zu x v->zu y u->R x y H2->wpAny (TR X.prog X.w) X.A (f v u) Q X.xe e):
  wpAny (TR X.prog X.w) X.A (eval a X.env) (λv c=>wpAny (TR X.prog X.w) X.A (eval b X.env) (λu d=>wpAny (TR X.prog X.w) X.A (f v u) Q X.xe d) X.xe c) X.xe s:=by
 refine Xd (l zq s σ H _ I h) λv t⟨x,H1,j,q,o⟩=>?_;refine Xd (m zq t σ H1 _ j o) λu e⟨y,H2,k,r,p⟩=>?_;exact n v u e x y H2 k q r p
inductive xB(i:Nat)(σ:St)(H:Hp)(Q:VK):Prop
 |mk (v:_) (h0:σ[i]?/Ga v) (h1:Q v H):xB i σ H Q
def Uj(i:Nat):TE:=λσ H Q=>xB i σ H Q
def tC(v:V):TE:=λ_ H Q=>Q v H
theorem Q2b(n:X.N[i]?/x)(t:qx X.env.scope x)(j:(x==("__debug__":TM))=Gx:=by decide)(g:(x==("__classdict__":TM))=Gx:=by decide):PE X (.Name x pos) (Uj i):=by
 intro f s w H Q I h;have(v,e,h):=h;have(m,q,o):=I.loc;have(u,r,l):=o i x v n e t;have b:EP X f w Q u s:=⟨v,H,I,r,h⟩;rcases l with⟨d,p⟩|⟨d,c,k,a⟩
 .exact Bw (wpAny_loadName_local I.ok.kind d q p b) j
 .rcases d with d|d
  .exact Bw (wpAny_loadName_cell I.ok.kind d k a b) j
  .exact Bw (wpAny_loadName_free I.ok.kind d k a b g) j
theorem Qi{i j pos}:PE X (.Constant (.int i) j pos) (tC (.int i)):=λ_ _ _ H _ I h=>wpAny_Constant_int {.int i,H,I.tok _,{40},h}
theorem Z9{b j pos}:PE X (.Constant (.bool b) j pos) (tC (.bl b)):=λ_ _ _ H _ I h=>Constant_bool {.bl b,H,I,1,h}
theorem U9{j pos}:PE X (.Constant .none j pos) (tC .non):=λ_ _ _ H _ I h=>NE {.non,H,I,1,h}
theorem Zi{x j pos}:PE X (.Constant (.str x) j pos) (tC (.str x)):=λ_ _ _ H _ I h=>Calls.Constant_str {.str x,H,I.tok _,{40},h}
def Gl(X:Cx)(x:TM):Prop:=X.env.kindOf x=Ga .globalImplicit
theorem ox(I:zv X zq σ H s)(b:Gl X x)(c:X.mg x/u)(h:Q u s)
  (a:(x==("__debug__":TM))=Gx:=by decide):wpAny (TR X.prog X.w) X.A (eval (.Name x pos) X.env) Q E s:=
 FM I.ok.kind b (Calls.loadGlobal_global (by rw[I.ok.glob];exact I.mod.glob.keeps I.bk) c h) a
theorem Jc(I:zv X zq σ H s)(d:Gl X x)(e:X.mg x=Gq)(g:bootBuiltins x/u)(h:Q u s)
  (f:x≠"__name__":=by decide)(c:(x==("__debug__":TM))=Gx:=by decide):wpAny (TR X.prog X.w) X.A (eval (.Name x pos) X.env) Q E s:=by
 have(i,a,b):=I.mod.blt;exact FM I.ok.kind d (Calls.loadGlobal_builtin (by rw[I.ok.glob];exact I.mod.glob.keeps I.bk) e (by rw[I.ok.blt];exact a.keeps I.bk) ((b x f).trans g) h) c
theorem lD(b:Gl X x)(c:X.mg x/u)(r:zu v u)(a:(x==("__debug__":TM))=Gx:=by decide):PE X (.Name x pos) (tC v):=
 λ_ _ _ H _ I h=>ox I b c ⟨v,H,I,r,h⟩ a
theorem Z8(b:Gl X x)(c:X.mg x=Gq)(e:bootBuiltins x/u)(r:zu v u)(d:x≠"__name__":=by decide)(a:(x==("__debug__":TM))=Gx:=by decide):PE X (.Name x pos) (tC v):=
 λ_ _ _ H _ I h=>Jc I b c e ⟨v,H,I,r,h⟩ d a
variable{a b:D0}{ta tb:TE}{pos:M4}
def PC(X:Cx)(e:CmpOp)(a b:D0)(t:TE):Prop:=
 ∀(zq:List (Ge×SR))(s:Gy)(σ:St)(H:Hp)(Q:VK),zv X zq σ H s->t σ H Q->
  wpAny (TR X.prog X.w) X.A (eval a X.env) (λv c=>wpAny (TR X.prog X.w) X.A (eval b X.env) (λu d=>wpAny (TR X.prog X.w) X.A (Ed e v u) (EP X zq σ Q) X.xe d) X.xe c) X.xe s
theorem vE(b:D0)(h:op≠.In)(d:op≠.NotIn):behindInMarks op b=Gx:=by
 have a:(op==CmpOp.In)=Gx:=by cases op<;>first|rfl|exact absurd rfl h
 have c:(op==CmpOp.NotIn)=Gx:=by cases op<;>first|rfl|exact absurd rfl d
 cases b<;>first|rfl|(show(_&&(op==.In||op==.NotIn)&&_)=Gx;rw[a,c,Bool.or_self,Bx];rfl)
def Q73(ta:TE):TE:=λσ H Q=>ta σ H λx H1=>Q (.bl (decide (x=.non))) H1
def VW(ta:TE):TE:=λσ H Q=>ta σ H λx H1=>Q (.bl (!decide (x=.non))) H1
theorem zu.wD{x:V}{v:Gj}(r:zu x v):(v==DD)=decide (x=.non):=by
 cases x with
 |non=>cases r;rfl
 |bl _=>cases r;rfl
 |int _=>have(t,rfl):=r;rfl
 |str _=>have(t,rfl):=r;rfl
 |byt _=>have(t,rfl):=r;rfl
 |flt _=>have(t,rfl):=r;rfl
 |ref _=>cases r;rfl
 |ty _=>cases r;rfl
theorem Q2m{j pos'}(e:PE X a ta):PC X .Is a (.Constant .none j pos') (Q73 ta):=by intro b s i H Q I h;refine Xd (e b s i H _ I h) λv k⟨x,c,d,g,f⟩=>?_;exact NE (Hm {.bl _,c,d,by rw[g.wD];rfl,f})
theorem sF{j pos'}(e:PE X a ta):PC X .IsNot a (.Constant .none j pos') (VW ta):=by intro b s i H Q I h;refine Xd (e b s i H _ I h) λv k⟨x,c,d,g,f⟩=>?_;exact NE (By {.bl _,c,d,by rw[g.wD];rfl,f})
inductive iTB(Q:Bool->Hp->Prop)(x:V)(H1:Hp):Prop
 |mk (c:_) (h0:x=.bl c) (h1:Q c H1):iTB Q x H1
def tB(t:TE):TT:=λσ H Q=>t σ H λx H1=>iTB Q x H1
theorem Oz(h:PC X op a b t)(f:behindInMarks op b=Gx:=by rfl):PT X (.Compare a [op] [b] pos) (tB t):=by intro e s m H Q I hw;refine Nc (Xd (h e s m H _ I hw) λv n f=>Xd f λu o j=>Xd j λc p⟨x,g,i,l,k⟩=>?_) f;have(d,rfl,q):=k;cases l;exact EE ⟨g,i,q⟩
theorem Zz(h:PE X e t)(f:∀a,isTrue e X.env a=(do let v<-a;standAt e.pos;holding [v] (truthy v)):=by intro _;rfl):PT X e (tB t):=by intro a s j H Q I hw;refine CY (Xd (h a s j H _ I hw) λv k⟨x,b,c,i,g⟩=>?_) (f _);have(d,rfl,q):=g;cases i;exact EE ⟨b,c,q⟩
variable{tA tB':TT}{X6:List D0}
def Q8q(t u:TT):TT:=λσ H Q=>t σ H λc H1=>if c=Gi then u σ H1 Q else Q Gx H1
def tOr(t u:TT):TT:=λσ H Q=>t σ H λc H1=>if c=Gi then Q Gi H1 else u σ H1 Q
def ZZ(t:TT):TT:=λσ H Q=>t σ H λc H1=>Q (!c) H1
theorem Jn(d:PT X a tA):PW X (.BoolOp .And [a] pos) tA:=by
 intro i b s f H Q I h;refine HR (Xd (d b s f H Q I h) λc g e=>?_);cases c with
 |true=>exact isTrue_and_nil e
 |false=>exact e
theorem Xe(d:PT X a tA):PW X (.BoolOp .Or [a] pos) tA:=by
 intro i b s f H Q I h;refine isTrue_or (Xd (d b s f H Q I h) λc g e=>?_);cases c with
 |false=>exact isTrue_or_nil e
 |true=>exact e
theorem Iu(j:PT X a tA)(k:PW X (.BoolOp .And (b::X6) pos) tB'):PW X (.BoolOp .And (a::b::X6) pos) (Q8q tA tB'):=by
 intro m d s i H Q I h;refine HR (Xd (j d s i H _ I h) λc l⟨e,f,g⟩=>?_);cases c with
 |true=>exact k m d l i e Q f g
 |false=>exact⟨e,f,g⟩
theorem Yu(j:PT X a tA)(k:PW X (.BoolOp .Or (b::X6) pos) tB'):PW X (.BoolOp .Or (a::b::X6) pos) (tOr tA tB'):=by
 intro m d s i H Q I h;refine isTrue_or (Xd (j d s i H _ I h) λc l⟨e,f,g⟩=>?_);cases c with
 |true=>exact⟨e,f,g⟩
 |false=>exact k m d l i e Q f g
theorem Yi(e:PT X a tA):PT X (.UnaryOp .Not a pos) (ZZ tA):=by intro b s f H Q I h;exact isTrue_not (e b s f H (λc d=>Q (!c) d) I h)
inductive tX(tb:TE)(σ:St)(Q:VK)(x:V)(H1:Hp):Prop
 |mk (c:_) (h0:x=.bl c) (h1:if c=Gi then tb σ H1 Q else Q (.bl Gx) H1):tX tb σ Q x H1
def Q6v(ta tb:TE):TE:=λσ H Q=>ta σ H λx H1=>tX tb σ Q x H1
inductive uZ(Q:VK)(x:V)(H1:Hp):Prop
 |mk (c:_) (h0:x=.bl c) (h1:Q (.bl (!c)) H1):uZ Q x H1
def Kr(ta:TE):TE:=λσ H Q=>ta σ H λx H1=>uZ Q x H1
theorem jR{c}(h:PE X a t):PE X (.BoolOp c [a] pos) t:=λb s d H Q I hw=>BoolOp_one (h b s d H Q I hw)
theorem lO(j:PE X a ta)(k:PE X (.BoolOp .And (b::X6) pos) tb):PE X (.BoolOp .And (a::b::X6) pos) (Q6v ta tb):=by
 intro d s i H Q I h;refine BoolOp_and (Xd (j d s i H _ I h) λv m⟨x,f,g,l,e⟩=>?_);have(c,rfl,e):=e;cases l;refine EE ?_;cases c with
 |true=>exact k d m i f Q g e
 |false=>exact{.bl Gx,f,g,1,e}
theorem K1(g:PE X a ta):PE X (.UnaryOp .Not a pos) (Kr ta):=by intro b s j H Q I h;refine UnaryOp_ (Xd (g b s j H _ I h) λv k⟨x,e,f,i,d⟩=>?_);have(c,rfl,d):=d;cases i;exact not_of (EE {.bl (!c),e,f,1,d})
def tIf(t:TT)(ta tb:TE):TE:=λσ H Q=>t σ H λc H1=>if c=Gi then ta σ H1 Q else tb σ H1 Q
theorem Qw9(n:PT X c tA)(l:PE X a ta)(m:PE X b tb):PE X (.IfExp c a b pos) (tIf tA ta tb):=by
 intro e s f H Q I h;refine wpAny_IfExp (Xd (n e s f H _ I h) λd k⟨g,i,j⟩=>?_);cases d with
 |true=>exact l e k f g Q i j
 |false=>exact m e k f g Q i j
end
def Jf(K:Gd)(H:Hp)(a:Ge)(xs:List V):Prop:=
 Rd H a (.lst xs)\/
  ∃(o:SR)(b:Array Gj)(n:Nat),K.lookup a/o/\o.cls=.type "list"/\o.dict=Gq/\o.data=.seq b n/\b.size<=TF/\Yl xs b.toList
def hB(K:Gd)(H:Hp)(a:Ge)(xs:List V):Prop:=
 Rd H a (.tup xs)\/
  ∃(o:SR)(b:Array Gj)(n:Nat),K.lookup a/o/\o.cls=.type "tuple"/\o.data=.seq b n/\b.size<=TF/\Yl xs b.toList
noncomputable def PQ:Gj->Option V
 |.none=>Ga .non
 |.bool b=>Ga (.bl b)
 |.int i _=>Ga (.int i)
 |.str x _=>Ga (.str x)
 |.bytes b _=>Ga (.byt b)
 |.float b _=>Ga (.flt b)
 |.ref a=>Ga ↑a
 |.type n=>Ga (.ty n)
 |_=>Gq
theorem zu.abs{x:V}(r:zu x u):PQ u/x:=by
 cases x with
 |non=>cases r;rfl
 |bl _=>cases r;rfl
 |int _=>have(t,rfl):=r;rfl
 |str _=>have(t,rfl):=r;rfl
 |byt _=>have(t,rfl):=r;rfl
 |flt _=>have(t,rfl):=r;rfl
 |ref _=>cases r;rfl
 |ty _=>cases r;rfl
theorem zu.inj{x y:V}{u:Gj}(r:zu x u)(q:zu y u):x=y:=T3 (r.abs.symm.trans q.abs)
theorem Yl.inj{c a:List V}{b:List Gj}(h:Yl c b)(k:Yl a b):c=a:=by
 induction h generalizing a with
 |nil=>cases k;rfl
 |cons r _ d=>cases k with|cons e f=>rw[r.inj e,d f]
section
variable{X:Cx}{zq:List (Ge×SR)}{σ:St}{H:Hp}{s:Gy}{a:Ge}{xs ys:List V}
theorem Qk{K:Gd}(h:H a/.lst xs):Jf K H a xs:=.inl (.inl h)
theorem Qj{K:Gd}(h:H a/.tup xs):hB K H a xs:=.inl (.inl h)
theorem zv.list(I:zv X zq σ H s)(h:Jf X.K H a xs):∃b:List Gj,Yl xs b/\PlainL s.heap a b.toArray/\⇑xs<=TF:=by
 rcases h with h|⟨o,b,n,f,c,d,hs,g,r⟩
 .obtain⟨z,b,n,r,e⟩:=h.ok I.Ye;exact{b,r,{_,n,e,111},z}
 .exists b.toList,r,{o,n,I.kIn a o f,c,d,by simpa using hs};have e:=⇑r;simp only[DC]at e;ext
theorem zv.tuple(I:zv X zq σ H s)(h:hB X.K H a xs):∃b:List Gj,Yl xs b/\IsTup s.heap a b.toArray/\⇑xs<=TF:=by
 rcases h with h|⟨o,b,n,d,c,hs,f,r⟩
 .obtain⟨z,b,r,p⟩:=h.ok I.Ye;exact⟨b,r,p,z⟩
 .exists b.toList,r,{o,I.kIn a o d,c,n,by simpa using hs};have e:=⇑r;simp only[DC]at e;ext
theorem zv.qC(I:zv X zq σ H s)(h:Jf X.K H a xs)(j:Jf X.K H a ys):xs=ys:=by
 have(c,r,(o,n,e,_,_,d),_):=I.list h;have(b,k,(m,l,g,_,_,f),_):=I.list j;rw[e]at g;cases g;rw[d]at f;injection f with i _;have:c=b:=by simpa using congrArg CZ i
 subst this;exact r.inj k
theorem zv.YB(I:zv X zq σ H s)(h:hB X.K H a xs)(j:hB X.K H a ys):xs=ys:=by
 have(c,r,(o,e,_,n,d),_):=I.tuple h;have(b,k,(m,g,_,l,f),_):=I.tuple j;rw[e]at g;cases g;rw[d]at f;injection f with i _;have:c=b:=by simpa using congrArg CZ i
 subst this;exact r.inj k
end
noncomputable abbrev Cx.iU(X:Cx)(E:Gj->Gy->Prop):Cx:={X with xe:=E}
noncomputable abbrev Cx.nox(X:Cx):Cx:=X.iU λ_ _=>False
theorem Cx.Ok.iU{X:Cx}(ok:X.Ok)(E:Gj->Gy->Prop):(X.iU E).Ok:=
 {ok.mod,ok.kind,ok.glob,ok.blt,ok.above,ok.inj,ok.has,ok.cab,ok.hd,ok.frames,ok.stk,ok.exf,ok.bs,ok.bsz,ok.Qv1,ok.Q0b,ok.iB,ok.frf}
theorem Cx.Ok.R3(ok:(X.iU E).Ok):X.Ok:=
 {ok.mod,ok.kind,ok.glob,ok.blt,ok.above,ok.inj,ok.has,ok.cab,ok.hd,ok.frames,ok.stk,ok.exf,ok.bs,ok.bsz,ok.Qv1,ok.Q0b,ok.iB,ok.frf}
section
variable{X:Cx}{zq:List (Ge×SR)}{σ:St}{H:Hp}{s:Gy}{E:Gj->Gy->Prop}
theorem zv.iU(I:zv X zq σ H s)(E:Gj->Gy->Prop):zv (X.iU E) zq σ H s:={I.ok.iU E,I.os,I.bare,I.base,I.loc,I.cell,I.free,I.Iz,I.pin,I.Ye,I.len}
theorem zv.R3(I:zv (X.iU E) zq σ H s):zv X zq σ H s:={I.ok.R3,I.os,I.bare,I.base,I.loc,I.cell,I.free,I.Iz,I.pin,I.Ye,I.len}
theorem SP.R3{D:Ends}{f:Flow}{c:Gy}(h:SP (X.iU E) zq D f c):SP X zq D f c:=by
 cases f with
 |next=>have(a,b,I,q):=h;exact⟨a,b,I.R3,q⟩
 |brk=>have(a,b,I,q):=h;exact{a,b,I.R3,q}
 |cont=>have(a,b,I,q):=h;exact{a,b,I.R3,q}
 |ret u=>have(v,a,b,I,r,q):=h;exact{v,a,b,I.R3,r,q}
theorem Xu.nox{b:List DQ}{t:TS}(h:Xu X.nox b t):Xu X b t:=λa s c H D I hw=>EN (h a s c H D (I.iU _) hw) (λ_ _ q=>q.R3) λ_ _ z=>False.elim z
end
section
variable{X:Cx}{st:DQ}{X6:List DQ}{t u:TS}{e:D0}{te:TE}{pos:M4}
def PD:TS:=λD σ H=>D.nx σ H
def YH(t u:TS):TS:=λD σ H=>t {D with nx:=u D} σ H
theorem Qw:Xu X [] PD:=λ_ _ a H _ I h=>Fz ⟨a,H,I,h⟩
theorem Qc(e:PS X st t)(g:Xu X X6 u):Xu X (st::X6) (YH t u):=by
 intro a s j H D I h;refine RS (Xd (e a s j H {D with nx:=u D} I h) λf i q=>?_);cases f with
 |next=>have(b,c,d,q):=q;exact g a i b c D d q
 |ret v=>exact q
 |brk=>exact q
 |cont=>exact q
theorem Qg(b:PS X st t):Xu X [st] t:=by
 intro a s c H D I h;refine RS (Xd (b a s c H D I h) λf d q=>?_);cases f with
 |next=>exact Fz q
 |ret v=>exact q
 |brk=>exact q
 |cont=>exact q
def Py:TS:=λD σ H=>D.ct σ H
theorem P3:PS X (.Continue pos) Py:=λ_ _ a H _ I h=>wpAny_Continue ⟨a,H,I,h⟩
theorem zv.quiet(I:zv X zq σ H s):interactive X.env=Gx:=by simp[interactive,I.ok.kind]
def PZ(te:TE):TS:=λD σ H=>te σ H λ_ H1=>D.nx σ H1
theorem Zn(f:PE X e te)(hs:swapsWith e Gq pos.line X.env=pure Gx:=by rfl):PS X (.Expr e pos) (PZ te):=by intro a s b H D I h;exact wpAny_Expr_any (Xd (f a s b H _ I h) λv j⟨x,c,d,i,g⟩=>⟨b,c,d,g⟩) I.quiet hs
def WE(te:TE):TS:=λD σ H=>te σ H D.rt
theorem Qt(f:PE X e te):PS X (.Return (Ga e) pos) (WE te):=by intro a s b H D I h;exact wpAny_Return_some (Xd (f a s b H _ I h) λv j⟨x,c,d,i,g⟩=>⟨x,b,c,d,i,g⟩)
def KA:TS:=λD _ H=>D.rt .non H
theorem Qz7:PS X (.Return Gq pos) KA:=λ_ _ a H _ I h=>wpAny_Return_none {.non,a,H,I,1,h}
def YZ(c:TT)(t u:TS):TS:=λD σ H=>c σ H λb H1=>if b=Gi then t D σ H1 else u D σ H1
theorem Zc{a b:List DQ}{l:TT}(o:PT X c l)(m:Xu X a t)(n:Xu X b u):PS X (.If c a b pos) (YZ l t u):=by
 intro e s f H D I h;refine wpAny_If (Xd (o e s f H _ I h) λd k⟨g,i,j⟩=>?_);cases d with
 |true=>exact m e k f g D i j
 |false=>exact n e k f g D i j
end
abbrev TG:=V->St->Hp->(St->Hp->Prop)->Prop
variable{g:TG}
abbrev ja:=List V->St->Hp->(St->Hp->Prop)->Prop
def PG(X:Cx)(a:D0)(t:TG):Prop:=
 ∀(zq:List (Ge×SR))(s:Gy)(σ:St)(H:Hp)(v:V)(u:Gj)(Q:St->Hp->Prop),zv X zq σ H s->zu v u->t v σ H Q->
  wpAny (TR X.prog X.w) X.A (assign a X.env u) (λ_ s'=>∃b H',zv X zq b H' s'/\Q b H') X.xe s
def nU(X:Cx)(ts:List D0)(t:ja):Prop:=
 ∀(zq:List (Ge×SR))(s:Gy)(σ:St)(H:Hp)(c:List V)(b:List Gj)(Q:St->Hp->Prop),zv X zq σ H s->Yl c b->t c σ H Q->
  wpAny (TR X.prog X.w) X.A (assignInOrder ((assignEach ts X.env).map (·.2)) b) (λ_ s'=>∃a H',zv X zq a H' s'/\Q a H') X.xe s
abbrev nq:=V->V->V->Hp->(Hp->Prop)->Prop
def wW(X:Cx)(t:nq):Prop:=
 ∀(zq:List (Ge×SR))(s:Gy)(σ:St)(H:Hp)(o i v:V)(ov a u:Gj)(Q:Hp->Prop),zv X zq σ H s->zu o ov->zu i a->zu v u->t o i v H Q->
  wpAny (TR X.prog X.w) X.A (setItem ov a u) (λ_ s'=>∃H',zv X zq σ H' s'/\Q H') X.xe s
section
variable{X:Cx}{pos:M4}
def Ui(i:Nat):TG:=λv σ H Q=>Q (σ.set i (Ga v)) H
theorem Yz(c:X.N.Nodup)(hi:X.N[i]?/x)(e:Loc X.env.scope x)(d:X.fn x=Gi\/X.env.scope.names.lookup x/.local:=by infer_instance):PG X (.Name x pos) (Ui i):=by intro a s g H v u Q I r h;exact NZ (vF I c hi e r (λf b=>{_,H,b,h}) d)
theorem Z7(i:Nat)(a:X.N.Nodup)(hi:X.N[i]?/x:=by rfl)(c:Loc X.env.scope x:=by exact DW Xb)(b:X.fn x=Gi\/X.env.scope.names.lookup x/.local:=by infer_instance):PG X (.Name x pos) (Ui i):=Yz a hi c b
def rE:ja:=λa σ H Q=>a=[]/\Q σ H
inductive vT(t:TG)(u:ja)(vs:List V)(σ:St)(H:Hp)(Q:St->Hp->Prop):Prop
 |mk (v:_) (r:_) (h0:vs=v::r) (h1:t v σ H λσ' H'=>u r σ' H' Q):vT t u vs σ H Q
def mo(t:TG)(u:ja):ja:=λa σ H Q=>vT t u a σ H Q
theorem Wp:nU X [] rE:=by intro a s b H d c Q I r h;have(e,h):=h;subst e;cases r;exact assignInOrder_nil ⟨b,H,I,h⟩
theorem Zr{b:List D0}{t:TG}{u:ja}(i:PG X e t)(j:nU X b u)
  (hs:(assignEach (e::b) X.env).map (·.2)=assign e X.env::(assignEach b X.env).map (·.2):=by rfl):nU X (e::b) (mo t u):=by
 intro a s n H d c Q I r h;have(v,o,g,h):=h;subst g;cases r with
 |cons r l=>rw[hs];refine assignInOrder_cons (Xd (i a s n H _ _ _ I r h) λ_ m⟨c,d,f,k⟩=>?_);exact j a m c d _ _ Q f l k
inductive uR(K:Gd)(n:Nat)(t:ja)(v:V)(σ:St)(H:Hp)(Q:St->Hp->Prop):Prop
 |mk (a:_) (xs:_) (h0:v=↑a) (h1:hB K H a xs) (h2:⇑xs=n) (h3:t xs σ H Q):uR K n t v σ H Q
def qr(K:Gd)(n:Nat)(t:ja):TG:=λv σ H Q=>uR K n t v σ H Q
theorem V8{d:List D0}{t:ja}(p:X.calm=Gi)(h:nU X d t)
  (w:⇑(assignEach d X.env)=n:=by rfl)(f:(assignEach d X.env).findIdx? (·.1)=Gq:=by rfl):PG X (.Tuple d k pos) (qr X.K n t):=by
 intro c s i H v u Q I r hw;have(a,A,l,x,q,hw):=hw;subst l;cases r;have(z,g,ht,B):=I.tuple x;refine assign_Tuple_tuple (I.ok.hd p) ht (by simp[w,<-q,⇑g]) f λm y=>?_;have j:zv X c i H {s with heap:=m}:=I.kept (t':=s.toks) λb o e=>y b o (T2 (Tk e)) e;exact h c _ i H A _ Q j (by simpa using g) hw
def XZ(to b:TE)(t:nq):TG:=λv σ H Q=>to σ H λo H1=>b σ H1 λi H2=>t o i v H2 λa=>Q σ a
theorem jY{o i:D0}{e d:TE}{t:nq}(p:PE X o e)(hi:PE X i d)(hs:wW X t)
  (n:∀v,assign (.Subscript o i pos) X.env v=(do
   let ov<-holding [v] (eval o X.env)
   let b<-holding [v,ov] (eval i X.env)
   standAt pos
   holding [v,ov,b] (setItem ov b v)
   release [v,ov,b] []):=by intro _;rfl):PG X (.Subscript o i pos) (XZ e d t):=by
 intro a s c H v u Q I r h;rw[n];refine Gb (D2 (Xd (p a s c H _ I h) λov C⟨x,f,k,A,q⟩=>?_));refine Gb (D2 (Xd (hi a C c f _ k q) λb D⟨y,g,l,B,w⟩=>?_));refine Gb (NF (Gb (D2 (Xd (hs a D c g x y v ov b u _ l A B r w) λ_ E⟨j,m,z⟩=>?_))));exact wpAny_release ⟨c,j,m,z⟩
def n9(te:TE)(g:TG):TS:=λD σ H=>te σ H λx H1=>g x σ H1 D.nx
theorem Rw(i:PE X e te)(j:PG X tg g)(hs:swapsWithSole [tg] e pos.line X.env=pure Gx:=by rfl)(hw:swappedStores [tg] e X.env=pure Gq:=by rfl)
  (f:(assignEach [tg] X.env).map (·.2)=[assign tg X.env]:=by rfl):PS X (.Assign [tg] e pos) (n9 te g):=by
 intro a s b H D I h;refine wpAny_Assign_stores (Xd (i a s b H _ I h) λv m⟨x,c,d,l,k⟩=>?_) hs hw;rw[f];exact Xd (j a m b c x v _ d l k) λ_ n q=>q
theorem V3{a:M4}(g:X.N.Nodup)(hi:X.N[i]?/x)(l:Loc X.env.scope x)(j:PE X e te)(hs:swapsWith e (Ga (.Name x a)) pos.line X.env=pure Gx:=by rfl)(k:X.fn x=Gi\/X.env.scope.names.lookup x/.local:=by infer_instance):
  PS X (.Assign [.Name x a] e pos) (n9 te (Ui i)):=by
 intro b s o H D I h;refine wpAny_Assign_Name (Xd (j b s o H _ I h) λv p⟨y,c,d,n,m⟩=>?_) hs;exact vF d g hi l n (λr f=>{_,c,f,m}) k
theorem Qz(i:Nat){a:M4}(b:X.N.Nodup)(c:PE X e te)(hi:X.N[i]?/x:=by rfl)(f:Loc X.env.scope x:=by exact DW Xb)(hs:swapsWith e (Ga (.Name x a)) pos.line X.env=pure Gx:=by rfl)(d:X.fn x=Gi\/X.env.scope.names.lookup x/.local:=by infer_instance):PS X (.Assign [.Name x a] e pos) (n9 te (Ui i)):=V3 b hi f c hs d
def Ao(c:TT)(tb:TS):TS:=λD σ H=>∃W:Nat->St->Hp->Prop,(∃m,W m σ H)/\∀m σ H,W m σ H->
 c σ H λb H1=>if b=Gi then∃N:St->Hp->Prop,(∀a H',N a H'->∃d,d<m/\W d a H')/\tb {D with nx:=N,ct:=N,bk:=D.nx} σ H1 else D.nx σ H1
theorem Wu{y:TT}(x:PassesOwn (TR X.prog X.w) X.A X.env X.xe)(B:PT X c y)(A:Xu X body tb):PS X (.While c body [] pos) (Ao y tb):=by
 intro a s L H D I h;have(W,(C,J),turn):=h;refine wpAny_While (codeAny_whileLoop (λn E=>∃i q,zv X a i q E/\W n i q) ?_ C ⟨L,H,I,J⟩);rintro n F ⟨e,r,z,K⟩;refine Sr x (Xd (B a F e r _ z (turn n e r K)) λb G⟨t,u,j⟩=>?_);cases b with
 |true=>
  have(N,w,j):=j;rw[GX rfl];refine Sr x (Xd (A a G e t _ u j) λf M k=>?_);cases f with
  |next=>have(d,g,l,n3):=k;have(o,m,p):=w d g n3;exact⟨o,m,d,g,l,p⟩
  |cont=>have(d,g,l,n3):=k;have(o,m,p):=w d g n3;exact⟨o,m,d,g,l,p⟩
  |brk=>exact k
  |ret v=>exact k
 |false=>rw[Gs TC];exact Fz ⟨e,t,u,j⟩
end
set_option genInjectivity false in
structure It where
 go:Nat->Hp->Prop
 yld:Nat->Hp->V->Hp->Prop
 stop:Nat->Hp->Prop
def ix(X:Cx)(zq:List (Ge×SR))(H:Hp)(b:Ge):Prop:=
 H b=Gq/\b≠X.env.locals/\b∉X.fs/\(b∈X.ex\/X.s₀.heap.objs.size<=b)/\(∀x c,X.env.cells.lookup x/c->c≠b)/\∀p∈X.pn++zq,p.1≠b
theorem zv.jh{d:Hp}(I:zv X zq σ H s)(a:s.heap.objs.size<=b)(f:d b=Gq):ix X zq d b:=by
 refine{f,Dy (TV I.lt a),I.Q78 a,.inr (Dl I.sz a),λx c e z=>?_,λp g z=>?_}
 .obtain⟨v,q⟩:=I.cell x c e;exact absurd (TV q.lt (by rw[z];exact a)) (EC _)
 .exact absurd (TV (Tk (I.pin p g).1) (by rw[z];exact a)) (EC _)
structure jc(P:Gn)(w:Tf)(K:Gd)(tg:D0)(J:It)(fp:List Ge)(it:Ge)(tn:Nat->Heap->Prop):Prop where
 mem:it∈fp
 obj:∀i h,tn i h->∀b∈fp,∃o,h.get? b/o/\∀v,o.data≠.cell v
 keep:∀i h h',tn i h->(∀b∈fp,∀o,h.get? b/o->h'.get? b/o)->tn i h'
 item:∀(X:Cx),X.prog=P->X.w=w->X.K=K->X.calm=Gi->∀(i:Nat)(zq:List (Ge×SR))(s:Gy)(σ:St)(H:Hp)(E:Gj->Gy->Prop),zv X zq σ H s->(∀b∈fp,ix X zq H b)->tn i s.heap->J.go i H->
  wpAny (TR P w) X.A (pyNext ↑it) (λr s1=>∃u,r/u/\
   wpAny (TR P w) X.A (letOwnedTupleGo tg ↑it u) (λ_ s2=>∃x H',zv X zq σ H' s2/\zu x u/\J.yld i H x H'/\tn (i+1) s2.heap/\∀b∈fp,H' b=Gq) E s1) E s
 done:∀(X:Cx),X.prog=P->X.w=w->X.K=K->X.calm=Gi->∀(i:Nat)(zq:List (Ge×SR))(s:Gy)(σ:St)(H:Hp)(E:Gj->Gy->Prop),zv X zq σ H s->(∀b∈fp,ix X zq H b)->tn i s.heap->J.stop i H->
  wpAny (TR P w) X.A (pyNext ↑it) (λr s1=>r=Gq/\zv X zq σ H s1) E s
 self:∀(A:DS)(i:Nat)(s:Gy)(Q:Gj->Gy->Prop)(E:Gj->Gy->Prop),tn i s.heap->Q ↑it s->wpAny (TR P w) A (pyIter ↑it) Q E s
abbrev TI:=St->Hp->(It->Hp->Prop)->Prop
def ui(X:Cx)(zq:List (Ge×SR))(σ:St)(tg:D0)(R:It->Hp->Prop)(a:Gj)(d:Gy):Prop:=
 ∃(c:Ge)(fp:List Ge)(e:Nat->Heap->Prop)(J:It)(H':Hp),a=.ref c/\zv X zq σ H' d/\jc X.prog X.w X.K tg J fp c e/\e 0 d.heap/\(∀b∈fp,ix X zq H' b)/\R J H'
def PI(X:Cx)(tg iter:D0)(wi:TI):Prop:=
 ∀(zq:List (Ge×SR))(s:Gy)(σ:St)(H:Hp)(R:It->Hp->Prop),zv X zq σ H s->wi σ H R->
  wpAny (TR X.prog X.w) X.A (eval iter X.env) (λv a=>wpAny (TR X.prog X.w) X.A (pyIter v) (ui X zq σ tg R) X.xe a) X.xe s
theorem kq      {b : Ge}   {n : String} {c : Array Gj} {Q : Unit -> Gy -> Prop} (g : s.heap.get? b = Ga o) (d : o.cls = .type n) (e : o.data = .fields c)
    (f : ["enumerate", "zip", "dict_itemiterator", "dict_reverseitemiterator", "odict_iterator", "itertools.zip_longest", "itertools.pairwise"].contains n = Gx) (a : Q () s) : wpAny M A (letOwnedTupleGo tg ↑b u) Q E s := by
  unfold letOwnedTupleGo
  cases tg <;> first
    | exact Gm a
    | (cases u <;> first
        | exact Gm a
        | (refine Gb (wpAny_load g ?_)
           rw [d, e]
           show wpAny M A (if (["enumerate", "zip", "dict_itemiterator", "dict_reverseitemiterator", "odict_iterator", "itertools.zip_longest", "itertools.pairwise"].contains n && c[0]? == Ga (rawInt _)) = Gi then _ else _) Q E s
           rw [Gs (by intro h; rw [f, Bool.false_and] at h; cases h)]
           exact Gm a))
def iP(K:Gd)(a:Ge):It:=
 {λi H=>∃xs x,Jf K H a xs/\xs[i]?/x,λi H x H'=>H'=H/\∀xs,Jf K H a xs->xs[i]?/x,λi H=>∃xs,Jf K H a xs/\⇑xs<=i}
def jo(K:Gd)(a:Ge):It:=
 {λi H=>∃xs x,hB K H a xs/\xs[i]?/x,λi H x H'=>H'=H/\∀xs,hB K H a xs->xs[i]?/x,λi H=>∃xs,hB K H a xs/\⇑xs<=i}
def j6(lo:Int)(n:Nat):It:={λi _=>i<n,λi H x H'=>H'=H/\x=.int (lo+i),λi _=>n<=i}
theorem QF{K:Gd}(a l:Ge):jc P w K tg (iP K a) [l] l (λi h=>h.IsListIter l a i) where
 mem:=by simp
 obj:=λi h f b j=>by
  have e:b=l:=by simpa using j
  subst e;have(o,e,c,d):=f;exact{o,e,λv z=>by rw[d]at z;cases z}
 keep:=λi h n f k=>f.at λo e=>k l ⋯ o e
 item:=by intro X F hw D N i g s O H E I q f G;subst F hw D;have(V,x,r,J):=G;have(L,M,p,S):=I.list r;have(u,z,T):=M.get J;have(t,y,Q,A,B,C):=q l ⋯;refine wpAny_pyNext_list_item f p.isList (x:=u) (by simpa using z) λn m U=>?_;have v:zv X g O H {s with heap:=n}:=I.turned (t':=s.toks) (λb o j e=>(U.2 b j).trans e) t y A B C;have(o,e,c,d):=id m;exact{u,1,kq (s:={s with heap:=n}) e c d (by decide) {x,H,v,T,{1,λW R=>by rw[I.qC R r];exact J},m,λb j=>(q b j).1}}
 done:=by intro X F hw D N i g s O H E I q f G;subst F hw D;have(V,r,J):=G;have(L,M,p,S):=I.list r;have(t,y,Q,A,B,C):=q l ⋯;have v:=⇑M;exact wpAny_pyNext_list_end (I.ok.hd N) f p.isList (by simp;lia) λn m=>{1,I.turned (t':=s.toks) (λb o j e=>m b o j e) t y A B C}
 self:=λ_ _ _ _ _ f h=>wpAny_pyIter_listiter f h
theorem Kn{K:Gd}(a l:Ge):jc P w K tg (jo K a) [l] l (λi h=>h.IsTupleIter l a i) where
 mem:=by simp
 obj:=λi h f b j=>by
  have e:b=l:=by simpa using j
  subst e;have(o,e,c,d):=f;exact{o,e,λv z=>by rw[d]at z;cases z}
 keep:=λi h q f k=>f.at λo e=>k l ⋯ o e
 item:=by intro X G hw F N i g s O H E I r f J;subst G hw F;have(V,x,t,L):=J;have(m,M,p,S):=I.tuple t;have(u,z,T):=M.get L;have(y,A,Q,B,C,D):=r l ⋯;refine wpAny_pyNext_tuple_item f (show s.heap.IsTuple a m.toArray from p) (x:=u) (by simpa using z) λq n U=>?_;have v:zv X g O H {s with heap:=q}:=I.turned (t':=s.toks) (λb o j e=>(U.2 b j).trans e) y A B C D;have(o,e,c,d):=id n;exact{u,1,kq (s:={s with heap:=q}) e c d (by decide) {x,H,v,T,{1,λW R=>by rw[I.YB R t];exact L},n,λb j=>(r b j).1}}
 done:=by intro X G hw F N i g s O H E I r f J;subst G hw F;have(V,t,L):=J;have(m,M,p,S):=I.tuple t;have(y,A,Q,B,C,D):=r l ⋯;have v:=⇑M;exact wpAny_pyNext_tuple_end (I.ok.hd N) f (show s.heap.IsTuple a m.toArray from p) (by simp;ext) λq n=>{1,I.turned (t':=s.toks) (λb o j e=>n b o j e) y A B C D}
 self:=λ_ _ _ _ _ f h=>wpAny_pyIter_tupleiter f h
theorem Ko{K:Gd}(c:Ge)(m:Int)(n:Nat):jc P w K tg (j6 m n) [c] c (λi h=>Nm h c (m+(i:Nat)*1) ((n:Int) - (i:Nat)) 1) where
 mem:=by simp
 obj:=λi h a b f=>by
  have e:b=c:=by simpa using f
  subst e;exact{_,a,λv z=>by have g:Hn _=IY v:=z;cases g}
 keep:=λi h j a k=>k c ⋯ _ a
 item:=by intro X A hw y B i d s D H E I l a C;subst A hw y;have(p,q,G,r,u,x):=l c ⋯;have W:=Ho (prog:=X.prog) (w:=X.w) (I.ok.hd B) c m 1 n;refine W.item i s _ _ C a λv j z J g L=>?_;have(t,rfl):=J;have F:zv X d D H {s with heap:=j,toks:=z}:=I.turned (λb o f e=>L b o (by simpa using f) e) p q r u x;refine{0,kq (s:={s with heap:=j,toks:=z}) (n:="range_iterator") g rfl rfl (by decide) {.int (m+i),H,F,{t,?_},⟨Xb,Xb⟩,g,λb f=>(l b f).1}};rw[Int.mul_one]
 done:=by intro X A hw y B i d s D H E I l a C;subst A hw y;have(p,q,G,r,u,x):=l c ⋯;exact MQ (I.ok.hd B) a (by have:n<=i:=C;lia) λj g=>{1,I.turned (t':=s.toks) (λb o f e=>g b o f e) p q r u x}
 self:=λ_ _ _ _ _ a h=>MR a h
section
variable{X:Cx}{tg:D0}
inductive sT(K:Gd)(R:It->Hp->Prop)(x:V)(H1:Hp):Prop
 |mk (a:_) (h0:x=↑a) (h1:(∃xs,Jf K H1 a xs)) (h2:R (iP K a) H1):sT K R x H1
def OC(K:Gd)(tl:TE):TI:=λσ H R=>tl σ H λx H1=>sT K R x H1
inductive xa(K:Gd)(R:It->Hp->Prop)(x:V)(H1:Hp):Prop
 |mk (a:_) (h0:x=↑a) (h1:(∃xs,hB K H1 a xs)) (h2:R (jo K a) H1):xa K R x H1
def YL(K:Gd)(tl:TE):TI:=λσ H R=>tl σ H λx H1=>xa K R x H1
theorem Yh{l:D0}{g:TE}(k:PE X l g):PI X tg l (OC X.K g):=by
 intro c s u H R I h;refine Xd (k c s u H _ I h) λv f⟨x,i,d,t,r⟩=>?_;have(a,e,(z,m),q):=r;subst e;cases t;have(n,y,p,w):=d.list m;refine wpAny_pyIter_list p.isList ?_;refine{f.heap.objs.size,[f.heap.objs.size],2,i,1,d.kept (t':=f.toks) λb o e=>Gp _ e,QF a _,{_,To _ Xb,11},λb j=>?_,q};have e:b=f.heap.objs.size:=by simpa using j
 subst e;exact d.jh (Gz _) (d.Ye.fresh (Gz _))
theorem Uy{l:D0}{i:TE}(m:PE X l i):PI X tg l (YL X.K i):=by
 intro c s u H R I h;refine Xd (m c s u H _ I h) λv d⟨x,j,f,t,r⟩=>?_;have(a,e,(z,n),q):=r;subst e;cases t;have(g,y,p,w):=f.tuple n;refine FN (show d.heap.IsTuple a g.toArray from p) ?_;refine{d.heap.objs.size,[d.heap.objs.size],2,j,1,f.kept (t':=d.toks) λb o e=>Gp _ e,Kn a _,{_,To _ Xb,11},λb k=>?_,q};have e:b=d.heap.objs.size:=by simpa using k
 subst e;exact f.jh (Gz _) (f.Ye.fresh (Gz _))
theorem XX{R:It->Hp->Prop}{a hi:Int}{t u v:JX}{d:Nat}(I:zv X zq σ H s)(h: -(2^62)<=a)(i:a<2^62)(j: -(2^62)<=hi)(k:hi<2^62)
  (q:R (j6 a (hi - a).toNat) H):wpAny (TR X.prog X.w) X.A (pyIter ↑s.heap.objs.size) (ui X zq σ tg R) E {s with heap:=s.heap.push {cls:=.type "range",data:=.fields #[.int a t,.int hi u,.int 1 v]},toks:=d}:=by
 refine NL (Hq ..) (small_one h i j k) ?_;have c:zv X zq σ H {s with heap:=s.heap.push {cls:=.type "range",data:=.fields #[.int a t,.int hi u,.int 1 v]},toks:=d}:=I.kept λb o e=>Gp _ e;refine⟨(s.heap.push {cls:=.type "range",data:=.fields #[.int a t,.int hi u,.int 1 v]}).objs.size,[(s.heap.push {cls:=.type "range",data:=.fields #[.int a t,.int hi u,.int 1 v]}).objs.size],_,_,H,Xb,
  c.kept (t':=d) λb o e=>Gp _ e,Ko _ a (hi - a).toNat,?_,λb l=>?_,q⟩
 .have f:a+((0:Nat):Int)*1=a:=by simp
  have g:(((hi - a).toNat:Nat):Int) - ((0:Nat):Int)=SJ a hi 1:=by rw[rangeSize_one];split<;>lia
  show Nm _ _ (a+((0:Nat):Int)*1) ((((hi - a).toNat:Nat):Int) - ((0:Nat):Int)) 1;rw[f,g];exact To _ rfl
 .have e:b=(s.heap.push {cls:=.type "range",data:=.fields #[.int a t,.int hi u,.int 1 v]}).objs.size:=by simpa using l
  subst e;exact c.jh (Gz _) (c.Ye.fresh (Gz _))
inductive Ae(R:It->Hp->Prop)(vs:List V)(H1:Hp):Prop
 |mk (j:Int) (h0:vs=[.int j]) (h1: -(2^62)<=j) (h2:j<2^62) (h3:R (j6 0 j.toNat) H1):Ae R vs H1
def Q62(ta:TA):TI:=λσ H R=>ta σ H λa H1=>Ae R a H1
theorem Vw{a:D0}{d:TA}{p:M4}(i:Gl X "range")(k:X.mg "range"=Gq)(g:PA X [a] d)(hs:T4 [a] X.env=[(Gx,eval a X.env)]:=by rfl):PI X tg (.Call (.Name "range" p) [a] [] pos) (Q62 d):=by
 intro b s o H R I h;refine JR (Jc I i k HS (EA (Xd (g pos b s o H _ I h) λw v⟨x,u,f,m,c⟩=>?_) hs Xb));have(j,e,c,l,q):=c;subst e;cases m with
 |cons r n=>cases n;have(t,rfl):=r;exact call_range_1 (XX f ∅ ∅ c l (by simpa using q))
def WT(wi:TI)(g:TG)(tb:TS):TS:=λD σ H=>wi σ H λJ H1=>∃W:Nat->Nat->St->Hp->Prop,(∃m,W 0 m σ H1)/\∀i m σ H,W i m σ H->
 (J.stop i H/\D.nx σ H)\/(J.go i H/\∃N:St->Hp->Prop,(∀a H',N a H'->∃c,c<m/\W (i+1) c a H')/\∀x H',J.yld i H x H'->g x σ H' λb H2=>tb {D with nx:=N,ct:=N,bk:=D.nx} b H2)
def lV(fp:List Ge)(h:Heap):List (Ge×SR):=fp.filterMap λb=>(h.get? b).map λo=>(b,o)
theorem Ip{h:Heap}(a:b∈fp)(e:h.get? b/o):(b,o)∈lV fp h:=FP.mpr {b,a,by rw[e];rfl}
theorem WN{h:Heap}{p:Ge×SR}(d:p∈lV fp h):p.1∈fp/\h.get? p.1/p.2:=by
 have(b,c,e):=FP.mp d;cases q:h.get? b with
 |none=>rw[q]at e;cases e
 |some o=>rw[q]at e;have a:(b,o)=p:=T3 e;subst a;exact⟨c,q⟩
theorem zv.pinned(I:zv X zq σ H s)(i:∀b∈fp,ix X zq H b)(j:∀b∈fp,∃o,s.heap.get? b/o/\∀v,o.data≠.cell v):zv X (zq++lV fp s.heap) σ H s:=
 I.z7 λp k=>(Gh.mp k).elim (λz=>I.pin p (TJ _ z)) λz=>by have(c,e):=WN z;have(f,g,h,_):=i p.1 c;have(o,a,d):=j p.1 c;rw[e]at a;cases a;exact⟨e,f,g,h,d⟩
theorem zv.om{b:List (Ge×SR)}(I:zv X (zq++b) σ H s):zv X zq σ H s:=I.z7 λp a=>I.pin p (TJ _ (Gu _ a))
theorem Yb{iter:D0}{N:TI}(p:PassesOwn (TR X.prog X.w) X.A X.env X.xe)(G:X.calm=Gi)(hi:PI X tg iter N)(hg:PG X tg g)(e:Xu X body tb)
  (hs:∀x,foldedSetIterable iter X.env x=pure x:=by intro _;rfl):PS X (.For tg iter body [] pos) (WT N g tb):=by
 intro k s O P ai S ad;refine wpAny_For (Xd (hi k s O P _ S ad) λag s1 h1=>Xd h1 λak s2 h2=>?_) hs;have(it,o,M,aj,Q,m,T,l,af,E,W,(m0,w0),turn):=h2;subst m;have B:∀{h:Hp},(∀a∈o,h a=Gq)->∀a∈o,ix X k h a:=λhn a e=>{hn a e,(E a e).2};refine codeAny_forLoop_any (λn I=>∃i r h,zv X k r h I/\M i I.heap/\(∀a∈o,h a=Gq)/\W i n r h) ?_ m0 {(0),O,Q,T,af,λa e=>(E a e).1,w0};rintro n J ⟨i,t,v,D,L,F,w3⟩;rcases turn i n t v w3 with⟨stop,qn⟩|⟨go,aa,hN,step⟩
 .refine Sr p (Xd (l.done X rfl rfl rfl G i k J t v X.xe D (B F) L stop) λae s4⟨w,U⟩=>?_);subst w;exact Fz ⟨t,v,U,qn⟩
 .refine Sr p (Xd (l.item X rfl rfl rfl G i k J t v X.xe D (B F) L go) λae s4⟨u,w,h4⟩=>?_);subst w;refine Sr p (Xd h4 λ_ K⟨x,C,V,r5,y5,A,ac⟩=>?_);have Y:=V.pinned (B ac) (l.obj _ _ A);refine Sr p (Xd (hg _ K t C x u _ Y r5 (step x C y5)) λ_ s6⟨ah,R,Z,q6⟩=>?_);refine Sr p (Xd (e _ s6 ah R _ Z q6) λab z j=>?_);have again:∀{f:St}{b:Hp},zv X (k++lV o K.heap) f b z->aa f b->∃H,H<n/\∃i r h,zv X k r h z/\M i z.heap/\(∀a∈o,h a=Gq)/\W i H r h:=λ{f b}c q=>by have(m',hm,w7):=hN f b q;refine{m',hm,i+1,f,b,c.om,l.keep _ _ _ A λa e y m=>(c.pin (a,y) (TJ _ (TJ _ (Ip e m)))).1,λa e=>?_,w7};have(y,m,d):=l.obj _ _ A a e;exact(c.pin (a,y) (TJ _ (TJ _ (Ip e m)))).2.1
  cases ab with
  |next=>have(f,b,c,q):=j;exact again c q
  |cont=>have(f,b,c,q):=j;exact again c q
  |brk=>have(f,b,c,j):=j;exact{f,b,c.om,j}
  |ret ag=>have(x7,f,b,c,r7,j):=j;exact{x7,f,b,c.om,r7,j}
end
theorem Yw{K:Gd}(b:Nat->St->Hp->Prop)(k:b 0 σ H)(n:∀i σ H,i<=⇑xs->b i σ H->Jf K H a xs)
  (hs:∀i x σ H,xs[i]?/x->b i σ H->g x σ H λf H2=>tb {D with nx:=b (i+1),ct:=b (i+1),bk:=D.nx} f H2)(l:∀σ H,b ⇑xs σ H->D.nx σ H):
  ∃W:Nat->Nat->St->Hp->Prop,(∃m,W 0 m σ H)/\∀i m σ H,W i m σ H->
   ((iP K a).stop i H/\D.nx σ H)\/((iP K a).go i H/\∃N:St->Hp->Prop,(∀d c,N d c->∃j,j<m/\W (i+1) j d c)/\∀x c,(iP K a).yld i H x c->g x σ c λf H2=>tb {D with nx:=N,ct:=N,bk:=D.nx} f H2):=by
 exists λi m σ H=>m=⇑xs - i/\i<=⇑xs/\b i σ H,{⇑xs,by simp,Ts _,k};rintro i m σ H ⟨rfl,hi,p⟩;have q:=n i σ H hi p;by_cases h:i<⇑xs
 .refine .inr {{xs,xs[i],q,by simp[h]},b (i+1),λd c j=>{⇑xs - (i+1),by ext,1,h,j},λx c y=>?_};have(e,y):=y;subst e;exact hs i x σ _ (y xs q) p
 .have e:i=⇑xs:=by ext
  subst e;exact .inl {{xs,q,Gz _},l σ H p}
theorem qg{K:Gd}(b:Nat->St->Hp->Prop)(k:b 0 σ H)(n:∀i σ H,i<=⇑xs->b i σ H->hB K H a xs)
  (hs:∀i x σ H,xs[i]?/x->b i σ H->g x σ H λf H2=>tb {D with nx:=b (i+1),ct:=b (i+1),bk:=D.nx} f H2)(l:∀σ H,b ⇑xs σ H->D.nx σ H):
  ∃W:Nat->Nat->St->Hp->Prop,(∃m,W 0 m σ H)/\∀i m σ H,W i m σ H->
   ((jo K a).stop i H/\D.nx σ H)\/((jo K a).go i H/\∃N:St->Hp->Prop,(∀d c,N d c->∃j,j<m/\W (i+1) j d c)/\∀x c,(jo K a).yld i H x c->g x σ c λf H2=>tb {D with nx:=N,ct:=N,bk:=D.nx} f H2):=by
 exists λi m σ H=>m=⇑xs - i/\i<=⇑xs/\b i σ H,{⇑xs,by simp,Ts _,k};rintro i m σ H ⟨rfl,hi,p⟩;have q:=n i σ H hi p;by_cases h:i<⇑xs
 .refine .inr {{xs,xs[i],q,by simp[h]},b (i+1),λd c j=>{⇑xs - (i+1),by ext,1,h,j},λx c y=>?_};have(e,y):=y;subst e;exact hs i x σ _ (y xs q) p
 .have e:i=⇑xs:=by ext
  subst e;exact .inl {{xs,q,Gz _},l σ H p}
theorem V1{lo:Int}(b:Nat->St->Hp->Prop)(j:b 0 σ H)
  (hs:∀i σ H,i<n->b i σ H->g (.int (lo+i)) σ H λf H2=>tb {D with nx:=b (i+1),ct:=b (i+1),bk:=D.nx} f H2)(k:∀σ H,b n σ H->D.nx σ H):
  ∃W:Nat->Nat->St->Hp->Prop,(∃m,W 0 m σ H)/\∀i m σ H,W i m σ H->
   ((j6 lo n).stop i H/\D.nx σ H)\/((j6 lo n).go i H/\∃N:St->Hp->Prop,(∀d a,N d a->∃h,h<m/\W (i+1) h d a)/\∀x a,(j6 lo n).yld i H x a->g x σ a λf H2=>tb {D with nx:=N,ct:=N,bk:=D.nx} f H2):=by
 exists λi m σ H=>m=n - i/\i<=n/\b i σ H,{n,by simp,Ts _,j};rintro i m σ H ⟨rfl,hi,p⟩;by_cases c:i<n
 .refine .inr {c,b (i+1),λd a h=>{n - (i+1),by ext,1,c,h},λx a y=>?_};have(e,y):=y;subst e y;exact hs i σ _ c p
 .have e:i=n:=by ext
  subst e;exact .inl {Gz _,k σ H p}
abbrev R2:=V->V->Hp->VK->Prop
variable{r:R2}
def hA(X:Cx)(f:Gj->Gj->JY Gj)(r:R2):Prop:=
 ∀(zq:List (Ge×SR))(s:Gy)(σ:St)(H:Hp)(x y:V)(v u:Gj)(Q:VK),zv X zq σ H s->zu x v->zu y u->r x y H Q->
  wpAny (TR X.prog X.w) X.A (f v u) (EP X zq σ Q) X.xe s
def p8(X:Cx)(f:Gj->JY Gj)(r:V->Hp->VK->Prop):Prop:=
 ∀(zq:List (Ge×SR))(s:Gy)(σ:St)(H:Hp)(x:V)(v:Gj)(Q:VK),zv X zq σ H s->zu x v->r x H Q->
  wpAny (TR X.prog X.w) X.A (f v) (EP X zq σ Q) X.xe s
def Up(X:Cx)(f:Gj)(r:List V->Hp->VK->Prop):Prop:=
 ∀(zq:List (Ge×SR))(s:Gy)(σ:St)(H:Hp)(xs:List V)(a:List Gj)(Q:VK),zv X zq σ H s->Yl xs a->r xs H Q->
  wpAny (TR X.prog X.w) X.A (call f a) (EP X zq σ Q) X.xe s
def OW(X:Cx)(r:V->Hp->(Bool->Hp->Prop)->Prop):Prop:=
 ∀(zq:List (Ge×SR))(s:Gy)(σ:St)(H:Hp)(x:V)(v:Gj)(Q:Bool->Hp->Prop),zv X zq σ H s->zu x v->r x H Q->
  wpAny (TR X.prog X.w) X.A (truthy v) (TP X zq σ Q) X.xe s
def tOp(r:R2)(ta tb:TE):TE:=λσ H Q=>ta σ H λx H1=>tb σ H1 λy H2=>r x y H2 Q
def tUn(r:V->Hp->VK->Prop)(ta:TE):TE:=λσ H Q=>ta σ H λx H1=>r x H1 Q
inductive iRI(C:Int->Int->Prop)(g:Int->Int->V)(x:V)(y:V)(H:Hp)(Q:VK):Prop
 |mk (i:_) (j:_) (h0:x=.int i) (h1:y=.int j) (h2:C i j) (h3:Q (g i j) H):iRI C g x y H Q
def rI(C:Int->Int->Prop)(g:Int->Int->V):R2:=λx y H Q=>iRI C g x y H Q
inductive As(g:Int->Int->V)(x:V)(y:V)(H:Hp)(Q:VK):Prop
 |mk (i:_) (j:_) (h0:x=.int i) (h1:y=.int j) (h2:Q (g i j) H):As g x y H Q
def rI0(g:Int->Int->V):R2:=λx y H Q=>As g x y H Q
inductive iRU(g:Int->V)(x:V)(H:Hp)(Q:VK):Prop
 |mk (i:_) (h0:x=.int i) (h1:Q (g i) H):iRU g x H Q
def rU(g:Int->V):V->Hp->VK->Prop:=λx H Q=>iRU g x H Q
section
variable{X:Cx}{a b c:D0}{ta tb tc:TE}{pos:M4}
theorem oK(j:PE X a ta)(k:PE X b tb){R:V->V->Hp->Prop}(I:zv X zq σ H s)
  (h:ta σ H λx H1=>tb σ H1 λy H2=>R x y H2)
  (l:∀v u e x y H2,zv X zq σ H2 e->zu x v->zu y u->R x y H2->wpAny (TR X.prog X.w) X.A (f v u) Q X.xe e):
  wpAny (TR X.prog X.w) X.A (eval a X.env) (λv c=>wpAny (TR X.prog X.w) X.A (eval b X.env) (λu d=>wpAny (TR X.prog X.w) X.A (f v u) Q X.xe d) X.xe c) X.xe s:=by
 refine Xd (j zq s σ H _ I h) λv q⟨x,H1,g,o,m⟩=>?_;refine Xd (k zq q σ H1 _ g m) λu e⟨y,H2,i,p,n⟩=>?_;exact l v u e x y H2 i o p n
theorem Zg{d:Operator}(j:hA X (binaryOp d) r)(g:PE X a ta)(i:PE X b tb):PE X (.BinOp a d b pos) (tOp r ta tb):=by intro c s n H Q I h;exact wpAny_BinOp (oK g i I h λv u m x y e f k l q=>j c m n e x y v u Q f k l q)
theorem Jz{c:UnaryOp}{r:V->Hp->VK->Prop}(i:p8 X (unaryOp c) r)(g:PE X a ta):PE X (.UnaryOp c a pos) (tUn r ta):=by intro b s d H Q I h;exact UnaryOp_ (Xd (g b s d H _ I h) λv l⟨x,e,f,k,j⟩=>i b l d e x v Q f k j)
theorem opI{C:Int->Int->Prop}{g:Int->Int->Int}
  (rule:∀(i j:Int)(t u:JX)(s:Gy)(Q:Gj->Gy->Prop)(E:Gj->Gy->Prop),C i j->Q (.int (g i j) s.toks) {s with toks:=s.toks+1}->wpAny (TR X.prog X.w) X.A (f (.int i t) (.int j u)) Q E s):
  hA X f (rI C λi j=>.int (g i j)):=by
 intro a s k H x y v u Q I c d h;have(i,j,rfl,rfl,b,q):=h;have(t,rfl):=c;have(e,rfl):=d;exact rule i j t e s _ _ b {.int (g i j),H,I.tok _,{40},q}
theorem AY{g:Int->Int->Int}
  (rule:∀(i j:Int)(t u:JX)(s:Gy)(Q:Gj->Gy->Prop)(E:Gj->Gy->Prop),Q (.int (g i j) s.toks) {s with toks:=s.toks+1}->wpAny (TR X.prog X.w) X.A (f (.int i t) (.int j u)) Q E s):
  hA X f (rI0 λi j=>.int (g i j)):=by
 intro a s e H x y v u Q I b c h;have(i,j,rfl,rfl,q):=h;have(t,rfl):=b;have(d,rfl):=c;exact rule i j t d s _ _ {.int (g i j),H,I.tok _,{40},q}
theorem nV{g:Int->Int->Bool}
  (rule:∀(i j:Int)(t u:JX)(s:Gy)(Q:Gj->Gy->Prop)(E:Gj->Gy->Prop),Q (.bool (g i j)) s->wpAny (TR X.prog X.w) X.A (f (.int i t) (.int j u)) Q E s):
  hA X f (rI0 λi j=>.bl (g i j)):=by
 intro a s e H x y v u Q I b c h;have(i,j,rfl,rfl,q):=h;have(t,rfl):=b;have(d,rfl):=c;exact rule i j t d s _ _ {.bl (g i j),H,I,1,q}
def tN(i j:Int):Prop:=0<j/\j<1073741824
def PL(i j:Int):Prop:=0<=j/\j<=1000000/\i.natAbs<2^64
def pE(i j:Int):Prop:=(-(2^64)<i/\i<2^64)\/(-(2^64)<j/\j<2^64)
theorem pE.ok{i j:Int}(h:pE i j):IntMulOk i j:=by
 rcases h with⟨a,b⟩|⟨a,b⟩
 .exact .of_left (B9 a b)
 .exact .of_right (B9 a b)
theorem Vf:hA X (binaryOp .Add) (rI0 λi j=>.int (i+j)):=AY λ_ _ _ _ _ _ _ q=>add_int q
theorem Ru:hA X (binaryOp .Sub) (rI0 λi j=>.int (i - j)):=AY λ_ _ _ _ _ _ _ q=>sub_int q
theorem yV:hA X (binaryOp .Mult) (rI pE λi j=>.int (i*j)):=opI λ_ _ _ _ _ _ _ a q=>mul_int q a.ok
theorem Wo:hA X (binaryOp .FloorDiv) (rI tN λi j=>.int (i / j)):=opI λi j _ _ _ _ _ a q=>by have b:(0:Int)<j:=a.1;have c:j<1073741824:=a.2;exact floordiv_int ∅ (by rw[Int.fdiv_eq_ediv_of_nonneg i ∅];exact q) (.inl (MT ∅))
theorem Wm:hA X (binaryOp .Mod) (rI (λ_ j=>0<j) λi j=>.int (i % j)):=opI λi j _ _ _ _ _ a q=>by have b:(0:Int)<j:=a;exact mod_int' ∅ (by rw[Int.fmod_eq_emod_of_nonneg i ∅];exact q)
theorem vO:hA X (binaryOp .Pow) (rI PL λi j=>.int (i^j.toNat)):=opI λ_ _ _ _ _ _ _ a q=>pow_int_small a.1 a.2.1 a.2.2 q
theorem unI{f:Gj->JY Gj}{g:Int->Int}
  (rule:∀(i:Int)(t:JX)(s:Gy)(Q:Gj->Gy->Prop)(E:Gj->Gy->Prop),Q (.int (g i) s.toks) {s with toks:=s.toks+1}->wpAny (TR X.prog X.w) X.A (f (.int i t)) Q E s):
  p8 X f (rU λi=>.int (g i)):=by
 intro a s c H x v Q I b h;have(i,rfl,q):=h;have(t,rfl):=b;exact rule i t s _ _ {.int (g i),H,I.tok _,{40},q}
theorem V4:p8 X (unaryOp .USub) (rU λi=>.int (-i)):=unI λ_ _ _ _ _ q=>neg_int q
end
noncomputable def sM:V->V->Bool
 |.non,.non=>Gi|.non,.int _=>Gi|.int _,.non=>Gi|.non,.bl _=>Gi|.bl _,.non=>Gi|.non,.str _=>Gi|.str _,.non=>Gi
 |.int _,.int _=>Gi|.bl _,.bl _=>Gi|.str _,.str _=>Gi|.byt _,.byt _=>Gi
 |.int _,.str _=>Gi|.str _,.int _=>Gi|.bl _,.str _=>Gi|.str _,.bl _=>Gi
 |_,_=>Gx
def rEq:R2:=λx y H Q=>sM x y=Gi/\Q (.bl (decide (x=y))) H
def rNe:R2:=λx y H Q=>sM x y=Gi/\Q (.bl (!decide (x=y))) H
theorem Jm{i j:Int}:decide (V.int i=V.int j)=(i==j):=by rw[LO];simp
theorem sq{i j:Bool}:decide (V.bl i=V.bl j)=(i==j):=by rw[LO];simp
theorem Zh{i j:TM}:decide (V.str i=V.str j)=(i==j):=by rw[LO];simp
theorem xk{i j:Array UInt8}:decide (V.byt i=V.byt j)=(i.toList==j.toList):=by rw[LO];cases i;cases j;simp
section
variable{X:Cx}{a b c:D0}{ta tb tc:TE}{pos:M4}
theorem Yn{Q:VK}{k a:Bool}(I:zv X zq σ H s)(q:Q (.bl k) H)(e:k=a):EP X zq σ Q (.bool a) s:=by subst e;exact{.bl k,H,I,1,q}
theorem Xs:hA X (Ed .Eq) rEq:=by
 intro d s e H x y v u Q I c a h;have(hs,q):=h;cases x with
 |non=>
  cases c;cases y with
  |non=>cases a;exact BJ (Yn I q ⋯)
  |bl j=>cases a;exact BL (Yn I q ⋯)
  |int j=>have(b,rfl):=a;exact Ca (Yn I q ⋯)
  |str j=>have(b,rfl):=a;exact Cb (Yn I q ⋯)
  |_=>exact absurd (show Gx=Gi from hs) TC
 |bl i=>
  cases c;cases y with
  |non=>cases a;exact BM (Yn I q ⋯)
  |bl j=>cases a;exact eq_bool (Yn I q sq)
  |str j=>have(b,rfl):=a;exact BN (Yn I q ⋯)
  |_=>exact absurd (show Gx=Gi from hs) TC
 |int i=>
  have(t,rfl):=c;cases y with
  |non=>cases a;exact Cc (Yn I q ⋯)
  |int j=>have(b,rfl):=a;exact eq_int (Yn I q Jm)
  |str j=>have(b,rfl):=a;exact Cd (Yn I q ⋯)
  |_=>exact absurd (show Gx=Gi from hs) TC
 |str i=>
  have(t,rfl):=c;cases y with
  |non=>cases a;exact Ce (Yn I q ⋯)
  |bl j=>cases a;exact BO (Yn I q ⋯)
  |int j=>have(b,rfl):=a;exact Cf (Yn I q ⋯)
  |str j=>have(b,rfl):=a;exact eq_str (Yn I q Zh)
  |_=>exact absurd (show Gx=Gi from hs) TC
 |byt i=>
  have(t,rfl):=c;cases y with
  |byt j=>have(b,rfl):=a;exact IZ (Yn I q xk)
  |_=>exact absurd (show Gx=Gi from hs) TC
 |_=>cases y<;>exact absurd (show Gx=Gi from hs) TC
theorem Wf:hA X (Ed .NotEq) rNe:=by
 intro d s e H x y v u Q I c a h;have(hs,q):=h;cases x with
 |non=>
  cases c;cases y with
  |non=>cases a;exact BP (Yn I q ⋯)
  |bl j=>cases a;exact BQ (Yn I q ⋯)
  |int j=>have(b,rfl):=a;exact Ci (Yn I q ⋯)
  |str j=>have(b,rfl):=a;exact Ck (Yn I q ⋯)
  |_=>exact absurd (show Gx=Gi from hs) TC
 |bl i=>
  cases c;cases y with
  |non=>cases a;exact BR (Yn I q ⋯)
  |bl j=>cases a;exact ne_bool (Yn I q (congrArg not sq))
  |str j=>have(b,rfl):=a;exact BS (Yn I q ⋯)
  |_=>exact absurd (show Gx=Gi from hs) TC
 |int i=>
  have(t,rfl):=c;cases y with
  |non=>cases a;exact Cm (Yn I q ⋯)
  |int j=>have(b,rfl):=a;exact ne_int (Yn I q (congrArg not Jm))
  |str j=>have(b,rfl):=a;exact Co (Yn I q ⋯)
  |_=>exact absurd (show Gx=Gi from hs) TC
 |str i=>
  have(t,rfl):=c;cases y with
  |non=>cases a;exact Cp (Yn I q ⋯)
  |bl j=>cases a;exact BU (Yn I q ⋯)
  |int j=>have(b,rfl):=a;exact Cq (Yn I q ⋯)
  |str j=>have(b,rfl):=a;exact ne_str (Yn I q (congrArg not Zh))
  |_=>exact absurd (show Gx=Gi from hs) TC
 |byt i=>
  have(t,rfl):=c;cases y with
  |byt j=>have(b,rfl):=a;exact I1 (Yn I q (congrArg not xk))
  |_=>exact absurd (show Gx=Gi from hs) TC
 |_=>cases y<;>exact absurd (show Gx=Gi from hs) TC
theorem Vh:hA X (Ed .Lt) (rI0 λi j=>.bl (decide (i<j))):=nV λ_ _ _ _ _ _ _ q=>lt_int q
theorem j7:hA X (Ed .LtE) (rI0 λi j=>.bl (decide (i<=j))):=nV λ_ _ _ _ _ _ _ q=>le_int q
theorem oi:hA X (Ed .Gt) (rI0 λi j=>.bl (decide (j<i))):=nV λ_ _ _ _ _ _ _ q=>gt_int q
theorem kP:hA X (Ed .GtE) (rI0 λi j=>.bl (decide (j<=i))):=nV λ_ _ _ _ _ _ _ q=>ge_int q
theorem Q3h:hA X (Ed .Is) (λx y H Q=>y=.non/\Q (.bl (decide (x=.non))) H):=by
 intro a s d H x y v u Q I b c h;have(rfl,q):=h;cases c;refine Hm (Yn I q ?_);cases x<;>first
  |(cases b;rfl)
  |(have(t,rfl):=b;rfl)
theorem kX:hA X (Ed .IsNot) (λx y H Q=>y=.non/\Q (.bl (!decide (x=.non))) H):=by
 intro a s d H x y v u Q I b c h;have(rfl,q):=h;cases c;refine By (Yn I q ?_);cases x<;>first
  |(cases b;rfl)
  |(have(t,rfl):=b;rfl)
theorem Qu(b:D0)(h:op≠.In:=by decide)(a:op≠.NotIn:=by decide):behindInMarks op b=Gx:=vE b h a
theorem Ve(j:hA X (Ed op) r)(f:PE X a ta)(g:PE X b tb)(i:behindInMarks op b=Gx):PE X (.Compare a [op] [b] pos) (tOp r ta tb):=by intro c s n H Q I h;exact wpAny_Compare1 (oK f g I h λv u m x y d e k l q=>j c m n d x y v u Q e k l q) i
inductive uQ(Q:Bool->Hp->Prop)(x:V)(H':Hp):Prop
 |mk (k:_) (h0:x=.bl k) (h1:Q k H'):uQ Q x H'
def wa(t:TE):TT:=λσ H Q=>t σ H λx H'=>uQ Q x H'
theorem Qp(t:hA X (Ed op) r)(o:PE X a ta)(p:PE X b tb)(q:behindInMarks op b=Gx):PT X (.Compare a [op] [b] pos) (wa (tOp r ta tb)):=by
 intro d s f H Q I h;refine Nc (Xd (o d s f H _ I h) λv F⟨x,g,l,C,w⟩=>Xd (p d F f g _ l w) λu G⟨y,i,m,D,A⟩=>Xd (t d G f i x y v u _ m C D A) λc J⟨z,j,n,E,k,e,B⟩=>?_) q
 subst e;cases E;exact EE ⟨j,n,B⟩
inductive xV(r':R2)(tc:TE)(σ:St)(Q:VK)(y:V)(z:V)(H3:Hp):Prop
 |mk (k:_) (h0:z=.bl k) (h1:(if k=Gi then tc σ H3 λw' H4=>r' y w' H4 Q else Q (.bl Gx) H3)):xV r' tc σ Q y z H3
def KR(r b:R2)(ta tb tc:TE):TE:=λσ H Q=>ta σ H λx H1=>tb σ H1 λy H2=>r x y H2 λz a=>xV b tc σ Q y z a
theorem uM{g:CmpOp}{l:R2}(J:hA X (Ed op) r)(K:hA X (Ed g) l)(F:PE X a ta)(G:PE X b tb)(H:PE X c tc)
  (I:lastMarks [op,g] [b,c]=Gx:=by with_unfolding_all rfl):PT X (.Compare a [op,g] [b,c] pos) (wa (KR r l ta tb tc)):=by
 intro e s f n q v E;refine isTrue_chain (Xd (F e s f n _ v E) λW T⟨x,o,w,P,L⟩=>test_link (Xd (G e T f o _ w L) λu U⟨y,p,z,m,M⟩=>Xd (J e U f p x y W u _ z P m M) λd V⟨aa,h,i,Q,k,C,j⟩=>?_)) I
 subst C;cases Q;refine EE ?_;cases k with
 |false=>have(A,q,t):=j;cases q;exact ite_ff ⟨h,i,t⟩
 |true=>refine ite_tt (test_last (Xd (H e V f h _ i j) λY s4⟨Z,q,A,R,N⟩=>Xd (K e s4 f q y Z u Y _ A m R N) λd' s5⟨z2,t,B,S,k2,D,O⟩=>?_));subst D;cases S;exact EE ⟨t,B,O⟩
def wj(K:Gd)(x:V)(H:Hp)(k:Bool):Prop:=
 match x with
 |.non=>k=Gx
 |.bl b=>k=b
 |.int i=>k=(i !=0)
 |.str y=>⇑y<=TF/\k=((⇑y:Int) !=0)
 |.byt y=>y.size<=TF/\k=((y.size:Int) !=0)
 |.ref p=>(∃xs,Jf K H p xs/\k= !xs.isEmpty)\/(∃xs,hB K H p xs/\k= !xs.isEmpty)\/∃zw,H p/.dK zw/\k= !zw.isEmpty
 |_=>False
theorem Kh{c:Type}{a:List (c×V)}{b:List (c×Gj)}(r:KV a b):(!b.isEmpty)= !a.isEmpty:=by cases r<;>rfl
theorem yI{a:List Gj}(r:Yl xs a):(!a.toArray.isEmpty)= !xs.isEmpty:=by cases r<;>simp
theorem jD:(TF:Nat)<2^63:=by rw[TH];decide
theorem xU:OW X (λx H Q=>∃k,wj X.K x H k/\Q k H):=by
 intro u s B H x v Q I f h;have(k,e,q):=h;have A:=jD;have hs:TF=16777216:=TH;cases x with
 |non=>cases f;have a:k=Gx:=e;subst a;exact truthy_none ⟨H,I,q⟩
 |bl b=>cases f;have a:k=b:=e;subst a;exact EE ⟨H,I,q⟩
 |int i=>have(t,rfl):=f;have a:k=(i !=0):=e;subst a;exact HU ⟨H,I,q⟩
 |str y=>have(t,rfl):=f;obtain⟨z,a⟩:⇑y<=TF/\k=((⇑y:Int) !=0):=e;subst a;exact HV (by lia) {H,I.tok _,q}
 |byt y=>have(t,rfl):=f;obtain⟨z,a⟩:y.size<=TF/\k=((y.size:Int) !=0):=e;subst a;exact Hr (by lia) {H,I.tok _,q}
 |ref p=>
  cases f;have a:(∃d,Jf X.K H p d/\k= !d.isEmpty)\/(∃d,hB X.K H p d/\k= !d.isEmpty)\/∃b,H p/.dK b/\k= !b.isEmpty:=e;rcases a with⟨d,g,a⟩|⟨d,g,a⟩|⟨b,g,a⟩
  .subst a;have(l,r,n,o):=I.list g;have c:=⇑r;exact wpAny_truthy_list n.isList (by simp only[Tp];lia) {H,I.tok _,by rw[yI r];exact q}
  .subst a;have(l,r,n,o):=I.tuple g;have c:=⇑r;exact truthy_tuple n (by simp only[Tp];lia) {H,I.tok _,by rw[yI r];exact q}
  .subst a;obtain⟨o,w,j,r,m⟩:⇑b<=TF/\(p==Ee)=Gx/\∃j,KV b j/\s.heap.DictOf (Y2 X.prog X.w) p j:=I.Ye p _ g;have c:⇑b=⇑j:=GJ r;exact wpAny_truthy_dict w m (by lia) {H,I.tok _,by rw[Kh r];exact q}
 |_=>exact(show False from e).elim
theorem vM(e:PE X a ta)(f:∀b,isTrue a X.env b=(do let v<-b;standAt a.pos;holding [v] (truthy v))):
  PT X a (λσ H Q=>ta σ H λx H'=>∃k,wj X.K x H' k/\Q k H'):=by
 intro c s σ H Q I h;exact CY (Xd (e c s σ H _ I h) λv j⟨x,b,d,i,g⟩=>xU c j σ b x v Q d i g) (f _)
theorem Qnd:hA X (binaryOp .Add) (λx y H Q=>∃i j,x=.str i/\y=.str j/\⇑i+⇑j<=TF/\Q (.str (i++j)) H):=by intro a s g H x y v u Q I c d h;have(i,j,rfl,rfl,b,q):=h;have(t,rfl):=c;have(e,rfl):=d;exact add_str (λe f=>{.str (i++j),H,I.tok _,{40},q}) b
theorem vals1{x:V}(r:Yl [x] us):∃u,us=[u]/\zu x u:=by
 cases r with
 |cons a b=>cases b;exact{0,a}
theorem vals2{x y:V}(r:Yl [x,y] us):∃u a,us=[u,a]/\zu x u/\zu y a:=by
 cases r with
 |cons b c=>
  cases c with
  |cons d e=>cases e;exact{30,b,d}
theorem UM:Up X (.builtin "abs") (λxs H Q=>∃i,xs=[.int i]/\Q (.int (if i<0 then -i else i)) H):=by intro a s d H xs c Q I r h;have(i,rfl,q):=h;have(u,rfl,t,rfl):=vals1 r;exact call_abs_int λu b=>{.int (if i<0 then -i else i),H,I.tok _,{40},q}
theorem UJ(c:X.calm=Gi):Up X (.builtin "min") (λxs H Q=>∃i j,xs=[.int i,.int j]/\Q (.int (if j<i then j else i)) H):=by
 intro b s m H xs g Q I r h;have(i,j,rfl,q):=h;have(u,l,rfl,(t,rfl),(e,rfl)):=vals2 r;refine min_two_ints (I.ok.hd c) λd f k=>{_,H,I.kept k,?_,q};by_cases a:j<i
 .rw[GX a,GX a];exact{40}
 .rw[Gs a,Gs a];exact{40}
theorem WV:Up X (.type "int") (λxs H Q=>(∃i,xs=[.int i]/\Q (.int i) H)\/∃k,xs=[.bl k]/\Q (.int (if k then 1 else 0)) H):=by
 intro a s d H xs c Q I r h;rcases h with⟨i,rfl,q⟩|⟨k,rfl,q⟩
 .obtain⟨u,rfl,t,rfl⟩:=vals1 r;exact call_int_int {.int i,H,I,{40},q}
 .obtain⟨u,rfl,b⟩:=vals1 r;cases b;exact call_int_bool {.int (if k then 1 else 0),H,I.tok _,{40},q}
def VH(K:Gd)(x:V)(H:Hp)(n:Nat):Prop:=
 match x with
 |.str y=>⇑y<=TF/\n=⇑y
 |.byt y=>y.size<=TF/\n=y.size
 |.ref p=>(∃xs,Jf K H p xs/\n=⇑xs)\/∃xs,hB K H p xs/\n=⇑xs
 |_=>False
theorem Zd:Up X (.builtin "len") (λxs H Q=>∃x n,xs=[x]/\VH X.K x H n/\Q (.int n) H):=by
 intro j s v H xs o Q I r h;have(x,n,rfl,e,q):=h;have(u,rfl,i):=vals1 r;have m:=jD;have hs:TF=16777216:=TH;cases x with
 |str y=>have(t,rfl):=i;obtain⟨k,b⟩:⇑y<=TF/\n=⇑y:=e;subst b;exact len_str ∅ {.int _,H,I.tok _,{40},q}
 |byt y=>have(t,rfl):=i;obtain⟨k,b⟩:y.size<=TF/\n=y.size:=e;subst b;exact IH ∅ {.int _,H,I.tok _,{40},q}
 |ref p=>
  cases i;have b:(∃xs,Jf X.K H p xs/\n=⇑xs)\/∃xs,hB X.K H p xs/\n=⇑xs:=e;rcases b with⟨xs,c,b⟩|⟨xs,c,b⟩
  .subst b;have(d,g,f,l):=I.list c;have a:=⇑g;exact Nz f.isList (by simp only[Tp];ext) {.int ⇑xs,H,I.tok _,{_,by simp only[Tp];rw[a]},q}
  .subst b;have(d,g,f,l):=I.tuple c;have a:=⇑g;exact len_tuple f (by simp only[Tp];ext) {.int ⇑xs,H,I.tok _,{_,by simp only[Tp];rw[a]},q}
 |_=>exact(show False from e).elim
end
structure jJ(h:Heap)(x dx C:Ge)(mA:TM->Option Gj):Prop where
 obj:h.get? x/E4 C dx
 ns:h.Ns1 dx mA
 ne:dx≠x
theorem Qql{h:Heap}{d:Ge}{g:TM->Option Gj}(n:h.Ns1 d g):∃i,h.get? d/i/\∀b,FQ b i/g b:=by
 have(o,f,s,p,k,l,_,m):=n;refine{o,p,λb=>?_};have e:=m b;unfold nsFind findBy at e;rw[<-Array.find?_toList]at e;unfold FQ;rw[k];dsimp only;split
 .rename_i y q
  rw[q]at e;exact congrArg Ga e
 .rename_i q
  rw[q]at e;have a:f.toList.any (·.refKey)=Gx:=by rw[Ml];intro y r;have(z,t,c):=l y (Array.mem_toList_iff.mp r);simp[I2,c]
  have j:¬f.toList.any (·.refKey)=Gi:=by rw[a];exact TC
  rw[Gs j];exact congrArg Ga e
theorem jJ.look{h:Heap}{x c:Ge}{d:TM->Option Gj}(I:jJ h x c C d):∃b,JS h x (E4 C c) C (Ga b)/\∀a,FQ a b/d a:=
 let⟨b,ho,hl⟩:=Qql I.ns
 {b,{I.obj,11,ho},hl}
section
variable{prog:Gn}{w:Tf}{A:DS}{E:Gj->Gy->Prop}{s:Gy}{K:Gd}{x dx C f:Ge}{mA:TM->Option Gj}{name:TM}{v:Gj}
theorem Qy1{a:Bool}(X:K.In s.heap)(I:jJ s.heap x dx C mA)(d:Ew K C name=Gi)(e:ED K C=Gi)
  (c:TL K ↑C name/Gq)(g:mA name/v)(b:RT v=Gi)(h:Q v {s with toks:=s.toks+1}):
  wpAny (TR prog w) A (getAttr ↑x name a) Q E s:=by
 have(i,J,f):=I.look;exact II X J (FH d).1 (HC e c rfl (by rw[f,g])) b h
theorem QD{Q:Gj×List Gj->Gy->Prop}(X:K.In s.heap)(I:jJ s.heap x dx C mA)(a:Ew K C name=Gi)
  (b:TL K ↑C name/Ga ↑f)(ht:Dc K ↑f=Gi)(d:mA name=Gq)(h:Q (.ref f,[↑x]) s):
  wpAny (TR prog w) A (getMethod ↑x name pl) Q E s:=by
 have(e,J,c):=I.look;exact IJ X J (FH a).1 (FH a).2 b (FR.mp ht) (by show(FQ name e).map (·.isSome)/Gx;rw[c,d];rfl) h
theorem WJ{j:List TM}{Q:Unit->Gy->Prop}(X:K.In s.heap)(I:jJ s.heap x dx C mA)
  (hs:TL K ↑C "__setattr__"/Ga (.builtin "object.__setattr__"))(o:EZ K C=Gi)(ht:M7 K C name/Gq)(n:ED K C=Gi)
  (hw:NY mA j)(p:⇑j<=TF)
  (h:∀d,jJ d x dx C (λy=>if y=name then Ga v else mA y)->Eu dx s.heap d->Q () {s with heap:=d,toks:=s.toks+2}):
  wpAny (TR prog w) A (setAttr ↑x name v) Q E s:=by
 have(u,J,p):=I.look;refine IK X J hs (I3 (s:={s with toks:=s.toks+1}) (r:=Gq) X J o ht λb=>?_);have(r,m,f):=I6 n;have q:s.heap.get? x=Ga {↑C,Ga dx,.plain,#[]}:=I.obj;refine Gb (Gm (Gb (Gb (wpAny_loadPart q (Gb (HW (s:={s with toks:=s.toks+1}) (HG X m) ?_))))));rw[f];refine Gm (a:=Ga dx) (Gb (Gm (Gb ?_)));refine wpAny_nsSet1 (s:={s with toks:=s.toks+1}) I.ns λd a c=>?_;have(t,l,k,i,g,e):=a.count (IL name v hw);refine Gb (wpAny_lookBehind i (by rw[g];exact pastItsLine_dict (Dl e (by rw[TQ];ext))) ?_);exact Gm (h _ {(c.2 _ (Tb I.ne)).trans I.obj,a,I.ne} c)
theorem OA{R:C0->Gy->Prop}{b:List Gj}(X:K.In s.heap)(e:Sq K C=Gi)
  (hi:TL K ↑C "__init__"/Ga ↑f)(c:JT K ↑f/.type "function")
  (h:codeAny (TR prog w) (A.under (.builtin "type.__call__" {.ref C::b,kw})) (.call ↑f {.ref (s.heap.objs.size+1)::b,kw}) (I7 (s.heap.objs.size+1) R)
   {s with heap:=(s.heap.push El).push (E4 C s.heap.objs.size)}):
  codeAny (TR prog w) A (.call ↑C ⟨b,kw⟩) R s:=by
 have(a,g,d,t,os):=s;exact IM (JA X e) (Hs X hi) (λa=>JL X a c) (.inl Xb) h
end
noncomputable def Y0(f:TM)(v:V):List (TM×V)->List (TM×V)
 |[]=>[(f,v)]
 |(g,x)::r=>if g=f then(g,v)::r else(g,x)::Y0 f v r
theorem yl(f g:TM)(v:V):∀c:List (TM×V),(Y0 f v c).lookup g=if g=f then Ga v else c.lookup g
 |[]=>by
  show LV g [(f,v)]=_;by_cases h:g=f
  .have a:(g==f)=Gi:=FR.mpr h;simp only[LV,a,GX h]
  .have a:(g==f)=Gx:=EH.mpr h;simp only[LV,a,Gs h]
 |(k,x)::r=>by
  have d:=yl f g v r;rw[show Y0 f v ((k,x)::r)=(if k=f then(k,v)::r else(k,x)::Y0 f v r)from rfl];by_cases b:k=f
  .rw[GX b];by_cases h:g=k
   .have a:(g==k)=Gi:=FR.mpr h;simp only[LV,a,GX (h.trans b)]
   .have a:(g==k)=Gx:=EH.mpr h;simp only[LV,a,Gs (λe:g=f=>h (e.trans b.symm))]
  .rw[Gs b];by_cases h:g=k
   .have a:(g==k)=Gi:=FR.mpr h;simp only[LV,a,Gs (λe:g=f=>b (h.symm.trans e))]
   .have a:(g==k)=Gx:=EH.mpr h;simp only[LV,a];exact d
theorem qe(f:TM)(v:V):∀a:List (TM×V),f∈(Y0 f v a).map (·.1)/\∀g,g∈a.map (·.1)->g∈(Y0 f v a).map (·.1)
 |[]=>{by simp[Y0],λg h=>by simp at h}
 |(k,x)::r=>by
  have(c,d):=qe f v r;rw[show Y0 f v ((k,x)::r)=(if k=f then(k,v)::r else(k,x)::Y0 f v r)from rfl];by_cases b:k=f
  .rw[GX b];subst b;exact{by simp,λg h=>by simpa using h}
  .rw[Gs b];refine{?_,λg h=>?_}
   .rw[Tt];exact Gr _ c
   .rw[Tt]at h⊢;rcases Ti.mp h with e|e
    .exact Ti.mpr (.inl e)
    .exact Gr _ (d g e)
theorem uk(f:TM)(v:V):∀a:List (TM×V),⇑(Y0 f v a)<=⇑a+1
 |[]=>by simp[Y0]
 |(k,x)::r=>by
  have c:=uk f v r;rw[show Y0 f v ((k,x)::r)=(if k=f then(k,v)::r else(k,x)::Y0 f v r)from rfl];by_cases b:k=f
  .rw[GX b,TQ,TQ];lia
  .rw[Gs b,TQ,TQ];lia
theorem R5.some_of{o:Option Gj}(r:R5 (Ga v) o):∃u,o/u/\zu v u:=by
 cases o with
 |none=>exact(show False from r).elim
 |some u=>exact⟨u,Xb,r⟩
theorem R5.none_of{o:Option Gj}(r:R5 Gq o):o=Gq:=by
 cases o with
 |none=>rfl
 |some u=>exact(show False from r).elim
theorem Qqu(r:zu v u):RT u=Gi:=by
 cases v with
 |non=>cases(show u=DD from r);rfl
 |bl b=>cases(show u=Lm b from r);rfl
 |int i=>have(t,e):=(show∃t,u=MD i t from r);cases e;rfl
 |str x=>have(t,e):=(show∃t,u=ME x t from r);cases e;rfl
 |byt b=>have(t,e):=(show∃t,u=Hj b t from r);cases e;rfl
 |flt b=>have(t,e):=(show∃t,u=Bh b t from r);cases e;rfl
 |ref a=>cases(show u=Tn a from r);rfl
 |ty n=>cases(show u=SV n from r);rfl
section
variable{P:Gn}{w:Tf}{H H':Hp}{h h':Heap}{a C dx:Ge}{fs fs':List (TM×V)}
theorem nK(c:O4 P w H h)(e:H a/.ins C dx fs):∃b,jJ h a dx C b/\(∀f,R5 (fs.lookup f) (b f))/\NY b (fs.map (·.1))/\⇑fs<=1000/\H dx/.own a:=by have(d,z,f,g,b,n,r,q):=(show Yq P w H h a (.ins C dx fs)from c a _ e);exact{b,⟨g,n,f⟩,r,q,z,d}
end
structure hZ(K:Gd)(C:Ge):Prop where
 pg:Ew K C Le=Gi
 hd:ED K C=Gi
 po:EZ K C=Gi
 sa:TL K ↑C "__setattr__"/Ga (.builtin "object.__setattr__")
theorem hZ.get{K:Gd}(c:hZ K C)(f:TM):Ew K C f=Gi:=c.pg
def Xg(K:Gd)(C:Ge)(f:TM):Prop:=TL K ↑C f=Ga Gq
theorem Xg.K4{K:Gd}{f:TM}(n:Xg K C f):M7 K C f/Gq:=by unfold M7;rw[show TL K ↑C f/Gq from n];rfl
structure Yp(K:Gd)(C:Ge)(m:TM)(f:Ge):Prop where
 at_:TL K ↑C m/Ga ↑f
 fn:Dc K ↑f=Gi
 kp:DX K ↑f=Gi
section
variable{X:Cx}{zq:List (Ge×SR)}{σ:St}{H:Hp}{s:Gy}{a C dx:Ge}{fs:List (TM×V)}{f:TM}{v:V}{A:DS}{E:Gj->Gy->Prop}
theorem Qne{b:Bool}(I:zv X zq σ H s)(e:H a/.ins C dx fs)(c:hZ X.K C)(n:Xg X.K C f)(l:fs.lookup f/v)
  (h:∀u g,zv X zq σ H g->zu v u->Q u g):wpAny (TR X.prog X.w) A (getAttr ↑a f b) Q E s:=by
 have(j,O,r,_,_,_):=nK I.Ye e;have(u,i,d):=R5.some_of (v:=v) (o:=j f) (by rw[<-l];exact r f);exact Qy1 I.kIn O (c.get f) c.hd n i (Qqu d) (h u _ (I.tok _) d)
theorem O8{m:TM}{g:Ge}{Q:Gj×List Gj->Gy->Prop}(I:zv X zq σ H s)(e:H a/.ins C dx fs)(c:hZ X.K C)(k:Yp X.K C m g)(l:fs.lookup m=Gq)
  (h:Q (.ref g,[↑a]) s):wpAny (TR X.prog X.w) A (getMethod ↑a m pl) Q E s:=by
 have(d,O,r,_,_,_):=nK I.Ye e;have b:d m=Gq:=R5.none_of (by rw[<-l];exact r m);exact QD I.kIn O (c.get m) k.at_ k.fn b h
theorem Qmc{y:V}{Q:Unit->Gy->Prop}(I:zv X zq σ H s)(e:H a/.ins C dx fs)(c:hZ X.K C)(n:Xg X.K C f)(b:⇑fs<1000)(w:zu y u)
  (h:∀b,zv X zq σ (zj H a (.ins C dx (Y0 f y fs))) b->Q () b):wpAny (TR X.prog X.w) A (setAttr ↑a f u) Q E s:=by
 have(j,O,r,k,_,i):=nK I.Ye e;have v:⇑(fs.map (·.1))<=TF:=by rw[Gv,TH];ext
 refine WJ I.kIn O c.sa c.po n.K4 c.hd k v λl d x=>h _ ?_;have p:∃o,l.get? dx/o:=let⟨o,_,_,e',_⟩:=d.ns;⟨o,e'⟩;refine I.write (x:=a) (e:=dx) (by rw[e];exact Ea) (.inr i) (λb q m z=>(x.2 b m).trans z) p ?_;refine{by rw[Qh O.ne];exact i,?_,O.ne,d.obj,_,d.ns,λg=>?_,λg t=>?_}
 .have:=uk f y fs;ext
 .show R5 ((Y0 f y fs).lookup g) (if g=f then Ga u else j g);rw[yl];by_cases q:g=f
  .rw[GX q,GX q];exact w
  .rw[Gs q,Gs q];exact r g
 .by_cases q:g=f
  .rw[q];exact(qe f y fs).1
  .refine(qe f y fs).2 g (k g λz=>t ?_);show(if g=f then Ga u else j g)=Gq;rw[Gs q];exact z
theorem zv.made(I:zv X zq σ H s):zv X zq σ (zj (zj H s.heap.objs.size (.own (s.heap.objs.size+1))) (s.heap.objs.size+1) (.ins C s.heap.objs.size []))
  {s with heap:=(s.heap.push El).push (E4 C s.heap.objs.size)}:=by
 have a:(s.heap.push El).get? s.heap.objs.size/El:=To s.heap rfl;have f:((s.heap.push El).push (E4 C s.heap.objs.size)).get? (s.heap.objs.size+1)/E4 C s.heap.objs.size:=by have:=To (s.heap.push El) (o:=E4 C s.heap.objs.size) rfl;rwa[Sf]at this
 have g:(s.heap.push El).Ns s.heap.objs.size (λ_=>Gq):={El,#[],_,a,1,(λe h=>absurd h ⋯),λ_=>rfl};have d:=I.laid (a:=s.heap.objs.size) (o:=.own (s.heap.objs.size+1)) (h':=s.heap.push El) (t':=s.toks) (λb u q=>Gp _ q) (Gz _) {_,a};refine d.laid (a:=s.heap.objs.size+1) (o:=.ins C s.heap.objs.size []) (t':=s.toks) (λb u q=>Gp _ q) (LX (Sf _ _)) ?_;have c:s.heap.objs.size≠s.heap.objs.size+1:=T2 (EL _);refine{by rw[Qh c,Qb],Ts _,c,f,λ_=>Gq,(IN g).at λo q=>Gp _ q,λ_=>Ea,λy i=>absurd rfl i}
theorem Q0g{b:Gn}{a:Bm}{f:TM}{s:Gy}(d:attributeBase e f a (eval e a)=eval e a)
  (h:wpAny (TR b w) A (eval e a) (λo c=>wpAny (TR b w) A (getAttr o f Gi) Q E c) E s):wpAny (TR b w) A (eval (.Attribute e f pos) a) Q E s:=
 Attribute_any_ h (by rw[arm_eval_Attribute,d])
end
inductive yj(K:Gd)(f:TM)(Q:VK)(x:V)(H1:Hp):Prop
 |mk (a:_) (C:_) (dx:_) (fs:_) (v:_) (h0:x=↑a) (h1:H1 a/.ins C dx fs) (h2:hZ K C) (h3:Xg K C f) (h4:fs.lookup f/v) (h5:Q v H1):yj K f Q x H1
def mw(K:Gd)(ta:TE)(f:TM):TE:=λσ H Q=>ta σ H λx H1=>yj K f Q x H1
inductive tE(K:Gd)(f:TM)(D:Ends)(σ:St)(y:V)(x:V)(H2:Hp):Prop
 |mk (a:_) (C:_) (dx:_) (fs:_) (h0:x=↑a) (h1:H2 a/.ins C dx fs) (h2:hZ K C) (h3:Xg K C f) (h4:⇑fs<1000) (h5:D.nx σ (zj H2 a (.ins C dx (Y0 f y fs)))):tE K f D σ y x H2
def KG(K:Gd)(ta tv:TE)(f:TM):TS:=λD σ H=>tv σ H λy H1=>ta σ H1 λx H2=>tE K f D σ y x H2
section
variable{X:Cx}{o e value:D0}{f:TM}{pos pos' tpos:M4}{ta tv:TE}
theorem Qx(o:PE X e ta)(m:attributeBase e f X.env (eval e X.env)=eval e X.env:=by rfl):PE X (.Attribute e f pos) (mw X.K ta f):=by intro b s t H Q I h;refine Q0g m (Xd (o b s t H _ I h) λu z⟨x,d,g,r,a,C,w,y,v,k,j,c,n,l,q⟩=>?_);subst k;obtain rfl:u=Tn a:=r;exact Qne g j c n l λB A i p=>⟨v,d,i,p,q⟩
theorem Xk(p:PE X o ta)(r:PE X value tv)(hs:swapsWith value (Ga (.Attribute o f pos')) pos.line X.env=pure Gx):PS X (.Assign [.Attribute o f pos'] value pos) (KG X.K ta tv f):=by intro b s d H D I h;refine plainObj_wpAny_Assign_Attribute (Xd (r b s d H _ I h) λu z⟨y,e,g,w,q⟩=>Xd (p b z d e _ g q) λov F⟨x,A,i,v,a,C,B,E,m,k,c,n,l,t⟩=>?_) hs;subst m;obtain rfl:ov=Tn a:=v;exact Qmc i k c n l w λG j=>{d,_,j,t}
theorem Q1r{m:TM}{b:M4}{args:List D0}(r:PE X e te)(I:zv X zq σ H s)
  (h:te σ H λx H1=>∃a C n i g,x=.ref a/\H1 a/.ins C n i/\hZ X.K C/\Yp X.K C m g/\i.lookup m=Gq/\
   ∀d,zv X zq σ H1 d->wpAny (TR X.prog X.w) X.A (callWith pos ↑g [↑a] (E7 pos (T4 args X.env)) (backToKw pos (keywordEach [] X.env))) Q X.xe d)
  (ht:eval (.Call (.Attribute e m b) args [] pos) X.env=(do
   let ov<-eval e X.env
   standAt b.atName
   let(f,first)<-holding [ov] (getMethod ov m pl)
   callWith pos f first (E7 pos (T4 args X.env)) (backToKw pos (keywordEach [] X.env)))):
  wpAny (TR X.prog X.w) X.A (eval (.Call (.Attribute e m b) args [] pos) X.env) Q X.xe s:=by
 refine Fa (pl:=pl) (Xd (r zq s σ H _ I h) λu d z=>?_) ht;have(x,H1,j,t,a,C,n,i,g,p,o,c,k,l,q):=z;subst p;obtain rfl:u=Tn a:=t;exact O8 j o c k l (q d j)
end
section
variable{X:Cx}{zq:List (Ge×SR)}{σ:St}{H:Hp}{s:Gy}{A:DS}{E:Gj->Gy->Prop}{Q:Gj->Gy->Prop}{c:Gj}{b:Bool}
inductive Rk(K:Gd)(H:Hp):V->Gj->Prop where
 |non:Rk K H .non (.type "NoneType")
 |bl (x:Bool):Rk K H (.bl x) (.type "bool")
 |int (i:Int):Rk K H (.int i) (.type "int")
 |str (x:TM):Rk K H (.str x) (.type "str")
 |flt (x:UInt64):Rk K H (.flt x) (.type "float")
 |lst {a:Ge} {xs:List V} (e:H a/.lst xs):Rk K H ↑a (.type "list")
 |frz {a:Ge} {o:SR} {xs:List V} (e:H a/.frz o (.lst xs)):Rk K H ↑a (.type "list")
 |tup {a:Ge} {xs:List V} (e:H a/.tup xs):Rk K H ↑a (.type "tuple")
 |dK {a:Ge} {zw:List (Wg×V)} (e:H a/.dK zw):Rk K H ↑a (.type "dict")
 |dT {a:Ge} {zw:List (List Wg×V)} (e:H a/.dT zw):Rk K H ↑a (.type "dict")
 |ins {a C dx:Ge} {fs:List (TM×V)} (e:H a/.ins C dx fs) (cl:hZ K C) (ha:TL K ↑C "__class__"/Ga (.builtin "object.__class__"))
   (hn:IP K (.builtin "object.__class__") "__get__"/Ga (.builtin "getset_descriptor.__get__")) (htk:JM K (.builtin "object.__class__")/Gi)
   (hm:JW K C (.type "object")/Gi):Rk K H ↑a ↑C
theorem sL{x:V}{t:Gj}(I:zv X zq σ H s)(c:zu x u)(ty:Rk X.K H x t):∃G,JZ X.K u t G/\G s.heap/\u≠.builtin "__main__.__loader__#opaque":=by
 cases ty with
 |non=>cases(show u=DD from c);exact{_,IQ,Ea,nofun}
 |bl y=>cases(show u=Lm y from c);exact{_,IR,Ea,nofun}
 |int i=>have(t,q):=(show∃t,u=MD i t from c);cases q;exact{_,JB,Ea,nofun}
 |str y=>have(t,q):=(show∃t,u=ME y t from c);cases q;exact{_,JC,Ea,nofun}
 |flt y=>have(t,q):=(show∃t,u=Bh y t from c);cases q;exact{_,HX,Ea,nofun}
 |@lst a f b=>cases(show u=Tn a from c);have(_,_,n,_,d):=(show Yq X.prog X.w H s.heap a (.lst f)from I.Ye a _ b);exact{_,Rs,{_,d,1},nofun}
 |@frz a h f b=>cases(show u=Tn a from c);have(_,_,_,n,_,d):=(show Yq X.prog X.w H s.heap a (.frz h (.lst f))from I.Ye a _ b);exact{_,Rs,{_,d,1},nofun}
 |@tup a f b=>cases(show u=Tn a from c);have(_,_,_,p):=(show Yq X.prog X.w H s.heap a (.tup f)from I.Ye a _ b);have(o,d,g,_):=p;exact{_,HY,⟨o,d,g⟩,nofun}
 |@dK a e b=>cases(show u=Tn a from c);have(_,_,h,_,p):=(show Yq X.prog X.w H s.heap a (.dK e)from I.Ye a _ b);have(o,l,k,d,g,_):=p;exact{_,RA,{o,d,g.1},nofun}
 |@dT a e b=>cases(show u=Tn a from c);have(_,_,f,_,o,l,k,d,g,_):=(show Yq X.prog X.w H s.heap a (.dT e)from I.Ye a _ b);exact{_,RA,{o,d,g.1},nofun}
 |@ins a C w z b j m v h r=>cases(show u=Tn a from c);have(A,O,_):=nK I.Ye b;have(B,J,_):=O.look;exact{_,JD (j.get _) j.hd m v h r,J,nofun}
theorem Qra{x:V}{t:Gj}(I:zv X zq σ H s)(g:zu x u)(ty:Rk X.K H x t)(e:T1 X.K t c/b)(h:∀i,Q (.bool b) {s with toks:=i}):
  wpAny (TR X.prog X.w) A (call (.builtin "isinstance") [u,c]) Q E s:=by
 have(_,a,d,f):=sL I g ty;exact JN a I.kIn d e f h
end
structure Yj(k:Nat)(A:DS):Prop where
 hd:A.handled=Gq
 dp:A.depth+3*k+5<recursionLimit
 un:A.units+16*k+200<ET
variable{Q:VK}
theorem Yj.mono{j:Nat}(r:Yj k A)(h:j<=k):Yj j A:={r.hd,by have:=r.dp;lia,by have:=r.un;lia}
theorem Yj.deeper{k:Nat}{A:DS}(r:Yj (k+1) A)(a:Bm):Yj k (A.deeper a):=
 {r.hd,by have:=r.dp;show A.depth+1+3*k+5<_;lia,by have:=r.un;show A.units+3+16*k+200<_;lia}
theorem Qmp:(A.under (.builtin "type.__call__" {.ref C::us,kw})).depth=A.depth+1:=by first|rfl|simp[RB,Code.weight,Code.isCreation,Code.isGuard,Code.isCaller,Ht,RC,guardIds]
theorem Ks:(A.under (.builtin "type.__call__" {.ref C::us,kw})).units=A.units+1:=by first|rfl|simp[RB,Code.cUnits,Ht,RC]
theorem Yj.make(r:Yj (k+1) A)(C:Ge)(b:List Gj)(a:List (TM×Gj)):Yj k (A.under (.builtin "type.__call__" {.ref C::b,a})):=
 {r.hd,by have:=r.dp;rw[Qmp];ext,by have:=r.un;rw[Ks];ext}
theorem Yj.depth{k:Nat}{A:DS}(r:Yj k A):A.depth<recursionLimit:=by have:=r.dp;ext
theorem Yj.units{k:Nat}{A:DS}(r:Yj k A):A.units+64<ET:=by have:=r.un;lia
def jB:TA:=λ_ H Q=>Q [] H
def jg(ta:TE)(a:TA):TA:=λσ H Q=>ta σ H λx H1=>a σ H1 λxs H2=>Q (x::xs) H2
section
variable{X:Cx}{e:D0}{es:List D0}{te:TE}{t:TA}{pos:M4}
theorem Qd:PA X [] jB:=λ_ _ _ _ H Q I h=>LZ {[],H,I,.nil,h}
theorem Qa(j:PE X e te)(k:PA X es t)(hs:T4 (e::es) X.env=(Gx,eval e X.env)::T4 es X.env:=by rfl):PA X (e::es) (jg te t):=by intro b a s c H Q I h;rw[hs];show wpAny _ _ (spliced ((Gx,eval e X.env)::E7 b (T4 es X.env))) _ _ s;refine FS (Xd (j a s c H _ I h) λu p⟨x,d,g,n,l⟩=>?_);exact Xd (k b a p c d _ g l) λv r⟨q,f,i,o,m⟩=>{x::q,f,i,.cons n o,m}
def OE(t:TA):TE:=λσ H Q=>t σ H λxs H1=>⇑xs<=TF/\∀p,H1 p=Gq->Q ↑p (zj H1 p (.tup xs))
def Pb(t:TA):TE:=λσ H Q=>t σ H λxs H1=>⇑xs<=TF/\∀p,H1 p=Gq->Q ↑p (zj H1 p (.lst xs))
theorem Zf{k}(h:PA X es t):PE X (.Tuple es k pos) (OE t):=by intro a s m H Q I i;refine wpAny_Tuple_spliced (Xd (h pos a s m H _ I i) λj c⟨l,d,f,r,z,q⟩=>{by rw[<-⇑r];exact z,?_});have g:d c.heap.objs.size=Gq:=f.Ye.fresh (Gz _);refine{↑c.heap.objs.size,zj d c.heap.objs.size (.tup l),f.laid (t':=c.toks) (λb u e=>Gp _ e) (Gz _) ?_,1,q _ g};exact{z,j,r,{_,To _ Xb,10}}
theorem Zu(h:PA X es t):PE X (.List es pos) (Pb t):=by intro a s l H Q I i;refine wpAny_List_spliced (Xd (h pos a s l H _ I i) λj c⟨k,d,f,r,z,q⟩=>{by rw[<-⇑r];exact z,?_});have g:d c.heap.objs.size=Gq:=f.Ye.fresh (Gz _);refine{↑c.heap.objs.size,zj d c.heap.objs.size (.lst k),f.laid (t':=c.toks) (λb u e=>Gp _ e) (Gz _) ?_,1,q _ g};exact{z,j,(0),r,To _ Xb}
end
abbrev Sp:=List V->Hp->VK->XK->Prop
abbrev iQ:=List Bm->Hp->Gy->XK->Gj->Gy->Prop
structure jM(P:Gn)(w:Tf)(K:Gd)(mg:TM->Option Gj)(base:Heap)(A:DS)(outer:List Bm)(s:Gy)(H:Hp):Prop where
 frames:A.frames/outer
 mod:Mod K mg base
 bs:∀b o,base.get? b/o->s.heap.get? b/o/\H b=Gq
 bsz:base.objs.size<=s.heap.objs.size
 iB:s.heap.FunFrames base outer
 frf:∀b∈frs outer,H b=Gq
 Ye:O4 P w H s.heap
 bare:Mj s.gens
def CE(outer:List Bm)(P:Gn)(w:Tf)(H:Hp)(s:Gy)(Q:VK)(u:Gj)(s':Gy):Prop:=
 ∃v H',s'.os=s.os/\Mj s'.gens/\Un (frs outer) [] H H' s.heap s'.heap/\O4 P w H' s'.heap/\zu v u/\Q v H'
def CR(CX:iQ)(outer:List Bm)(P:Gn)(w:Tf)(H:Hp)(s:Gy)(Q:VK)(E:XK)(r:C0)(s':Gy):Prop:=
 match r with
 |.ok (.ret u)=>CE outer P w H s Q u s'
 |.ok _=>False
 |.error e=>CX outer H s E e s'
structure Q3(P:Gn)(w:Tf)(K:Gd)(mg:TM->Option Gj)(base:Heap)(CX:iQ)(k:Nat)(f:Ge)(fd:Dn)(ps:List TM)(sp:Sp):Prop where
 len:∀vs H Q E,sp vs H Q E->⇑vs=⇑ps
 run:∀(A:DS)(outer:List Bm)(s:Gy)(H:Hp)(args:Args)(us:List Gj)(vs:List V)(Q:VK)(E:XK),Yj k A->jM P w K mg base A outer s H->RD s fd args (ps.zip us)->Yl vs us->sp vs H Q E->
  codeAny (TR P w) A (.call ↑f args) (CR CX outer P w H s Q E) s
theorem jM.make{K:Gd}{b:Heap}{a:List Bm}(e:jM P w K mg b A a s H)(C:Ge)(d:List Gj)(c:List (TM×Gj)):
  jM P w K mg b (A.under (.builtin "type.__call__" {.ref C::d,c})) a s H:={by first|exact e.frames|(simpa[RB,Code.envs,RC,pushEnvs]using e.frames),e.mod,e.bs,e.bsz,e.iB,e.frf,e.Ye,e.bare}
section
variable{X:Cx}{zq:List (Ge×SR)}{σ:St}{H:Hp}{s s':Gy}
theorem zv.wR(I:zv X zq σ H s):jM X.prog X.w X.K X.mg X.base X.A X.stack s H:=
 {I.ok.frames,I.ok.mod,I.bs,Dl I.ok.bsz I.sz,I.stack,I.xH,I.Ye,I.bare}
theorem zv.after(I:zv X zq σ H s)(h:CE X.stack X.prog X.w H s Q u s'):EP X zq σ Q u s':=by have(v,e,os,a,un,f,r,q):=h;have(i,g,d,t,c):=s';obtain rfl:c=s.os:=os;exact{v,e,I.call (h':=i) (g':=g) (d':=d) (t':=t) (ch:=[]) un f a (λb z=>absurd z ⋯),r,q}
end
def Kt(sp:Sp)(dvs:List V)(E:XK)(t:TA):TE:=λσ H Q=>t σ H λa H1=>sp (a++dvs) H1 Q E
inductive ze(C:Ge)(m:TM)(sp:Sp)(dvs:List V)(E:XK)(t:TA)(σ:St)(Q:VK)(x:V)(H1:Hp):Prop
 |mk (a:_) (dx:_) (fs:_) (h0:x=↑a) (h1:H1 a/.ins C dx fs) (h2:fs.lookup m=Gq) (h3:t σ H1 λvs H2=>sp (x::(vs++dvs)) H2 Q E):ze C m sp dvs E t σ Q x H1
def lX(C:Ge)(m:TM)(sp:Sp)(dvs:List V)(E:XK)(ta:TE)(t:TA):TE:=λσ H Q=>ta σ H λx H1=>ze C m sp dvs E t σ Q x H1
def tR(C:Ge)(sp:Sp)(dvs:List V)(E:XK)(t:TA):TE:=λσ H Q=>t σ H λa H1=>∀x dx,H1 x=Gq->H1 dx=Gq->dx≠x->
 sp (.ref x::(a++dvs)) (zj (zj H1 dx (.own x)) x (.ins C dx [])) (λv H2=>v=.non/\Q ↑x H2) E
def zk(K:Gd)(fd:Dn)(ps:List TM)(ds:List Gj):Prop:=
 ∀(s:Gy)(a:List Gj),K.In s.heap->⇑(a++ds)=⇑ps->RD s fd {a,[]} (ps.zip (a++ds))
theorem zk.all{K:Gd}{b:Dn}(h:∀a:List Gj,⇑a=⇑ps->bindArgs b {a,[]}=pure (ps.zip a)):zk K b ps []:=λs a _ c=>by rw[DU]at c⊢;exact .of_eq (h a c)
def Rc(CX:iQ)(X:Cx)(E:XK):Prop:=∀(zq:List (Ge×SR))(σ:St)(H:Hp)(s:Gy)(e:Gj)(s':Gy),zv X zq σ H s->CX X.stack H s E e s'->X.xe e s'
section
variable{X:Cx}{CX:iQ}{k:Nat}{f C:Ge}{fd:Dn}{ps:List TM}{sp:Sp}{dvs:List V}{ds:List Gj}{E:XK}{x m:TM}{p pos apos:M4}{e o:D0}{es:List D0}{ta:TE}{t:TA}
theorem qV(F:Q3 X.prog X.w X.K X.mg X.base CX k f fd ps sp)(j:Yj k X.A)(d:zk X.K fd ps ds)(g:Yl dvs ds)(l:Rc CX X E)
  (I:zv X zq σ H s)(r:Yl vs us)(h:sp (vs++dvs) H Q E):wpAny (TR X.prog X.w) X.A (call ↑f us) (EP X zq σ Q) X.xe s:=by
 have b:Yl (vs++dvs) (us++ds):=r.append g;have i:⇑(us++ds)=⇑ps:=by rw[<-⇑b];exact F.len _ _ _ _ h
 refine HZ (MU (F.run X.A X.stack s H {us,[]} (us++ds) (vs++dvs) Q E j I.wR (d s us I.kIn i) b h) λr m a=>?_);cases r with
 |error e=>exact l zq σ H s e m I a
 |ok c=>
  cases c with
  |ret u=>exact I.after a
  |next=>exact False.elim a
  |brk=>exact False.elim a
  |cont=>exact False.elim a
theorem Zb(F:Q3 X.prog X.w X.K X.mg X.base CX k f fd ps sp)(u:Yj k X.A)(m:Gl X x)(o:X.mg x/↑f)(n:DX X.K ↑f=Gi)(i:zk X.K fd ps ds)(j:Yl dvs ds)(v:Rc CX X E)
  (g:PA X (e::es) t)(b:(x==("__debug__":TM))=Gx:=by decide)(l:T4 (e::es) X.env=(Gx,eval e X.env)::T4 es X.env:=by rfl)(c:(E7 pos (T4 es X.env)).any (·.1)=Gx:=by rfl):
  PE X (.Call (.Name x p) (e::es) [] pos) (Kt sp dvs E t):=by
 intro a s w H Q I h;refine Ef (ox I m o ?_ b);refine FT (h₀:=X.base) I.ok.mod.kin n (Xd (g pos a s w H _ I h) λA z⟨B,y,d,r,q⟩=>{d.kIn,?_}) l c;exact qV F u i j v d r q
theorem Zm(D:PE X o ta)(c:hZ X.K C)(n:Yp X.K C m f)(F:Q3 X.prog X.w X.K X.mg X.base CX k f fd ps sp)(G:Yj k X.A)(A:zk X.K fd ps ds)(B:Yl dvs ds)(J:Rc CX X E)(z:PA X (e::es) t)
  (g:T4 (e::es) X.env=(Gx,eval e X.env)::T4 es X.env:=by rfl)(d:(E7 pos (T4 es X.env)).any (·.1)=Gx:=by rfl)
  (ht:eval (.Call (.Attribute o m apos) (e::es) [] pos) X.env=(do
   let ov<-eval o X.env
   standAt apos.atName
   let(f,first)<-holding [ov] (getMethod ov m pl)
   callWith pos f first (E7 pos (T4 (e::es) X.env)) (backToKw pos (keywordEach [] X.env))):=by rfl):
  PE X (.Call (.Attribute o m apos) (e::es) [] pos) (lX C m sp dvs E ta t):=by
 intro b s p H Q I h;refine Fa (pl:=pl) (Xd (D b s p H _ I h) λu M⟨x,v,i,L,a,O,P,y,w,l,q⟩=>?_) ht;subst y;obtain rfl:u=Tn a:=L;refine O8 i w c n l ?_;refine FT (first:=[↑a]) (h₀:=X.base) I.ok.mod.kin n.kp (Xd (z pos b M p v _ i q) λus R⟨vs,N,j,r,K⟩=>{j.kIn,?_}) g d;exact qV (us:=.ref a::us) (vs:=.ref a::vs) F G A B J j (.cons rfl r) K
theorem AW(p:PE X o ta)(c:hZ X.K C)(e:Yp X.K C m f)(F:Q3 X.prog X.w X.K X.mg X.base CX k f fd ps sp)(r:Yj k X.A)(j:zk X.K fd ps ds)(n:Yl dvs ds)(t:Rc CX X E)
  (ht:eval (.Call (.Attribute o m apos) [] [] pos) X.env=(do
   let ov<-eval o X.env
   standAt apos.atName
   let(f,first)<-holding [ov] (getMethod ov m pl)
   callWith pos f first (E7 pos (T4 [] X.env)) (backToKw pos (keywordEach [] X.env))):=by rfl):
  PE X (.Call (.Attribute o m apos) [] [] pos) (lX C m sp dvs E ta jB):=by
 intro b s w H Q I h;refine Fa (pl:=pl) (Xd (p b s w H _ I h) λu B⟨x,y,d,v,a,z,A,i,g,l,q⟩=>?_) ht;subst i;obtain rfl:u=Tn a:=v;refine O8 d g c e l ?_;exact NA (first:=[↑a]) d.kIn e.kp (qV (us:=[↑a]) (vs:=[↑a]) F r j n t d (.cons rfl .nil) q)
structure Mk(K:Gd)(C f:Ge):Prop where
 makes:Sq K C=Gi
 init:TL K ↑C "__init__"/Ga ↑f
 fn:Dc K ↑f=Gi
 kp:DX K ↑C=Gi
theorem yp(M:Mk X.K C f)(F:Q3 X.prog X.w X.K X.mg X.base CX k f fd ps sp)(p:Yj (k+1) X.A)(m:zk X.K fd ps ds)(n:Yl dvs ds)
  (q:Rc CX X E)(I:zv X zq σ H s)(r:Yl vs us)
  (h:∀x c,H x=Gq->H c=Gq->c≠x->sp (.ref x::(vs++dvs)) (zj (zj H c (.own x)) x (.ins C c [])) (λv H2=>v=.non/\Q ↑x H2) E):
  wpAny (TR X.prog X.w) X.A (call ↑C us) (EP X zq σ Q) X.xe s:=by
 have d:=h (s.heap.objs.size+1) s.heap.objs.size (I.Ye.fresh (LW _)) (I.Ye.fresh (Gz _)) (T2 (EL _));have b:=zv.made (C:=C) I;have g:Yl (V.ref (s.heap.objs.size+1)::(vs++dvs)) (Tn (s.heap.objs.size+1)::(us++ds)):=.cons rfl (r.append n);have o:⇑(Tn (s.heap.objs.size+1)::us++ds)=⇑ps:=by have e:=⇑g;rw[F.len _ _ _ _ d]at e;exact e.symm
 refine HZ (OA (f:=f) I.kIn M.makes M.init (FR.mp M.fn) (MU (F.run _ X.stack _ _ {Tn (s.heap.objs.size+1)::us,[]} (Tn (s.heap.objs.size+1)::(us++ds)) _ _ E (p.make C us [])
  (b.wR.make C us []) (m _ (Tn (s.heap.objs.size+1)::us) b.kIn o) g d) λr y a=>?_))
 cases r with
 |error e=>exact q zq σ _ _ e y b a
 |ok l=>
  cases l with
  |ret u=>have(v,i,j,w,ev,t):=b.after a;subst ev;exact{w,{V.ref (s.heap.objs.size+1),i,j,1,t}}
  |next=>exact False.elim a
  |brk=>exact False.elim a
  |cont=>exact False.elim a
theorem rL(M:Mk X.K C f)(F:Q3 X.prog X.w X.K X.mg X.base CX k f fd ps sp)(o:Yj (k+1) X.A)(m:Gl X x)(n:X.mg x/↑C)(i:zk X.K fd ps ds)(j:Yl dvs ds)(u:Rc CX X E)
  (g:PA X (e::es) t)(b:(x==("__debug__":TM))=Gx:=by decide)(l:T4 (e::es) X.env=(Gx,eval e X.env)::T4 es X.env:=by rfl)(c:(E7 pos (T4 es X.env)).any (·.1)=Gx:=by rfl):
  PE X (.Call (.Name x p) (e::es) [] pos) (tR C sp dvs E t):=by
 intro a s v H Q I h;refine Ef (ox I m n ?_ b);refine FT (h₀:=X.base) I.ok.mod.kin M.kp (Xd (g pos a s v H _ I h) λz y⟨A,w,d,r,q⟩=>{d.kIn,?_}) l c;exact yp M F o i j u d r q
theorem pX(M:Mk X.K C f)(F:Q3 X.prog X.w X.K X.mg X.base CX k f fd ps sp)(i:Yj (k+1) X.A)(e:Gl X x)(g:X.mg x/↑C)(c:zk X.K fd ps ds)(d:Yl dvs ds)(j:Rc CX X E)
  (a:(x==("__debug__":TM))=Gx:=by decide):PE X (.Call (.Name x p) [] [] pos) (tR C sp dvs E jB):=by
 intro b s l H Q I h;refine Ef (ox I e g ?_ a);exact NA I.kIn M.kp (yp (us:=[]) M F i c d j I .nil h)
end
structure Q7(N P:List TM)(sc:M3):Prop where
 kind:sc.kind=.function
 co:sc.isCoroutine=Gx
 gen:sc.isGenerator=Gx
 nd:N.Nodup
 pre:N.take ⇑P=P
 par:∀x∈P,sc.names.lookup x/.local\/sc.names.lookup x/.cell
 Q4a:∀y∈sc.names,y.2≠.free
theorem AM{kindOf:TM->Option Fp}{x:TM}:∀{a:List (TM×Gj)}{m:TM->Option Gj},(∀v,(x,v)∉a)->bindL kindOf a m x=m x
 |[],_,_=>rfl
 |(n,v)::r,m,h=>by
  unfold bindL;rw[AM λw hw=>h w (Gr _ hw)];split
  .have:x≠n:=by rintro rfl;exact h v Tc
   simp[this]
  .rfl
theorem vS{kindOf:TM->Option Fp}{x:TM}:∀{a:List (TM×Gj)}{m:TM->Option Gj},(∀v,(x,v)∉a)->bindC kindOf a m x=m x
 |[],_,_=>rfl
 |(n,v)::r,m,h=>by
  unfold bindC;rw[vS λw hw=>h w (Gr _ hw)];split
  .rfl
  .have:x≠n:=by rintro rfl;exact h v Tc
   simp[this]
theorem xy{kindOf:TM->Option Fp}{x:TM}{v:Gj}:∀{P:List TM}{a:List Gj}{i:Nat}{m:TM->Option Gj},P.Nodup->P[i]?/x->a[i]?/v->kindOf x/.local->
  bindL kindOf (P.zip a) m x/v
 |[],_,_,_,_,h,_,_=>by simp at h
 |_::_,[],_,_,_,_,h,_=>by simp at h
 |p::P,w::a,0,m,e,b,c,d=>by simp at b c;subst b;subst c;show bindL kindOf ((p,w)::P.zip a) m p=_;unfold bindL;rw[AM λv f=>(Du.mp e).1 (M8 f).1,GX d];simp
 |p::P,w::a,i+1,m,e,b,c,d=>by show bindL kindOf ((p,w)::P.zip a) m x=_;unfold bindL;exact xy (i:=i) (Du.mp e).2 (by simpa using b) (by simpa using c) d
theorem AR{kindOf:TM->Option Fp}{x:TM}{v:Gj}:∀{P:List TM}{a:List Gj}{i:Nat}{m:TM->Option Gj},P.Nodup->P[i]?/x->a[i]?/v->kindOf x≠Ga .local->
  bindC kindOf (P.zip a) m x/v
 |[],_,_,_,_,h,_,_=>by simp at h
 |_::_,[],_,_,_,_,h,_=>by simp at h
 |p::P,w::a,0,m,e,b,c,d=>by simp at b c;subst b;subst c;show bindC kindOf ((p,w)::P.zip a) m p=_;unfold bindC;rw[vS λv f=>(Du.mp e).1 (M8 f).1,Gs d];simp
 |p::P,w::a,i+1,m,e,b,c,d=>by show bindC kindOf ((p,w)::P.zip a) m x=_;unfold bindC;exact AR (i:=i) (Du.mp e).2 (by simpa using b) (by simpa using c) d
noncomputable def start(N:List TM)(a:List V):St:=a.map Ga++DV (⇑N - ⇑a) Gq
noncomputable def jF(CX:iQ)(P:Gn)(w:Tf)(K:Gd)(mg:TM->Option Gj)(base:Heap)(N:List TM)(qual:TM)(scope:M3)(f:Ge)(b:Gj)(A:DS)(outer:List Bm)(s:Gy)(H:Hp)(E:XK):Cx where
 prog:=P
 w:=w
 K:=K
 mg:=mg
 base:=base
 A:=A.deeper (envOfC qual scope s.heap.objs.size f b)
 N:=N
 s₀:=s
 H₀:=H
 env:=envOfC qual scope s.heap.objs.size f b
 outer:=outer
 stack:=envOfC qual scope s.heap.objs.size f b::outer
 ex:=[]
 calm:=Gi
 fn:=λ_=>Gi
 pn:=[]
 xe:=λe s'=>wpAny (TR P w) (A.deeper (envOfC qual scope s.heap.objs.size f b)) (leaving (envOfC qual scope s.heap.objs.size f b) e) (λ_ a=>CX outer H s E e a) (λc a=>CX outer H s E c a) s'
theorem wG{a:M3}(h:a.names.lookup x/.cell):∃c,(cellsFrom n a.names []).lookup x/c:=by have q:=MV a.names n [] (.inl h);exact Mt.mp q
theorem QN{F:iQ}{K:Gd}{l:Heap}{g:TM}{scope:M3}{f:Ge}{C:Gj}{d:List Bm}{J:Gy}{E:XK}
  (S:Q7 N ps scope)(M:A.handled=Gq)(m:jM P w K mg l A d s H)(a:⇑vs=⇑ps)(r:Yl vs us)
  (x:InCallC s s.heap.objs.size (bindL (envOfC g scope s.heap.objs.size f C).kindOf (ps.zip us) λ_=>Gq) (cellsFrom (s.heap.objs.size+1) scope.names []) (bindC (envOfC g scope s.heap.objs.size f C).kindOf (ps.zip us) λ_=>Gq) J):
  zv (jF F P w K mg l N g scope f C A d s H E) [] (start N vs) H J:=by
 have a:⇑ps<=⇑N:=by have:=congrArg Sc S.pre;rw[Db]at this;lia
 have(D,R,rfl,G):=x.done;have o:∀b:Ge,b∉(jF F P w K mg l N g scope f C A d s H E).ex:=λb z=>absurd (show b∈([]:List Ge)from z) ⋯;exists {m.mod,S.kind,11,Gz _,λy z c D j=>?_,λy n=>?_,λy c _ h=>?_,λ_=>M,Around.frames_deeper m.frames,.inr ⟨Xb,Xb⟩,λb z=>absurd z (o b),m.bs,m.bsz,λb _ _=>o b,λb z=>absurd z (o b),m.iB,m.frf},
  Xb,m.bare,Un.kept G,{_,x.toInCall.ns,λi y v D j Q=>?_},λy c h=>{_,x.cell y c h},m.Ye.fresh (Gz _),λy c h=>?_,λp t=>absurd (show p∈([]:List (Ge×SR))from t) ⋯,m.Ye.kept G
 .exact name_of_addr x.apart (Ek D) (Ek j)
 .have n:scope.names.lookup y/.cell\/scope.names.lookup y/.free:=n;rcases n with n|n
  .exact wG n
  .exact absurd rfl (S.Q4a _ (Ek n))
 .exact FI (x.above y c (Ek h))
 .have hi:i<⇑vs:=by
   unfold start at j;by_cases hi:i<⇑vs
   .exact hi
   .rw[TU (by simpa using hi)]at j;rw[MF]at j;split at j<;>cases j
  have L:vs[i]?/v:=by
   unfold start at j;rw[TB (by simpa using hi),Tq]at j;cases e:vs[i]? with
   |none=>rw[e]at j;cases j
   |some a=>rw[e]at j;cases j;rfl
  have(u,I,O):=r.get L;have t:ps[i]?/y:=by rw[<-S.pre,DR (by lia)];exact D
  have B:ps.Nodup:=by rw[<-S.pre];exact S.nd.sublist (List.take_sublist _ _)
  exists u,O;rcases S.par y (Gc t)with k|k
  .exact .inl {k,xy B t I k}
  .obtain⟨c,e⟩:=wG (n:=s.heap.objs.size+1) k;refine .inr {.inl k,c,e,?_};have q:=x.cell y c e;rw[AR B t I (by show scope.names.lookup y≠_;rw[k];decide)]at q;exact q
 .exact m.Ye.fresh (FI (x.above y c (Ek h)))
 .unfold start;show _=⇑N;rw[Gk,Gv,Sk];lia
theorem Q6t{m:iQ}{K:Gd}{o:Heap}{i:Ge}{M g:TM}{O:Arguments}{scope:M3}{G kV H Q f ct oc:Gj}{F od:Option Ge}
  {ac:Array (Option Gj)}{E:Sp}(lk:K.lookup i=Ga {oc,od,.func (Et M g O body scope G kV H Q F f ct),ac})(Y:FL K f g=Gi)(S:Q7 N ps scope)
  (L:∀c a b d,E c a b d->⇑c=⇑ps)
  (X:∀(h:DS)(j:List Bm)(s:Gy)(a:Hp)(c:List V)(b:VK)(d:XK),Yj k (h.deeper (envOfC g scope s.heap.objs.size i f))->E c a b d->
   ∃t,Xu (jF m P w K mg o N g scope i f h j s a d) body t/\t {nx:=λ_ H'=>b .non H',rt:=b} (start N c) a):
  Q3 P w K mg o m (k+1) i (Et M g O body scope G kV H Q F f ct) ps E:=by
 refine{L,λh j s a ae us c b d A l W ad J=>?_};have hl:=L _ _ _ _ J;have KX:K.In s.heap:=l.mod.kin.keeps λz B p=>(l.bs z B p).1;have ab:s.heap.NoLimit:=l.mod.nolimit.keeps λz B p=>(l.bs z B p).1;have aa:∀y∈ps.zip us,scope.names.lookup y.1/.local\/(scope.names.lookup y.1/.cell/\((cellsFrom (s.heap.objs.size+1) scope.names []).lookup y.1).isSome=Gi):=λ⟨n,v⟩hy=>by
  rcases S.par n (M8 hy).1 with q|q
  .exact .inl q
  .exact .inr {q,MV _ _ _ (.inl q)}
 refine codeAny_call_function A.depth (KX _ _ lk) rfl S.co S.gen rfl (Ix KX Y) (W _ _ _ _ ?_);refine wpAny_newFunctionEnv_cells S.kind aa λaf Z R x=>?_;subst Z;refine{ab.keeps x.toInCall.keep,codeAny_func ?_};have(t,ht,hq):=X h j s a c b d (A.deeper _) J;have T:zv (jF m P w K mg o N g scope i f h j s a d) [] (start N c) a R:=QN S A.hd l hl ad x;refine EN (ht [] R (start N c) a _ T hq) (λU D hs=>?_) λp D hs=>hs;have I:∀{r:St}{H':Hp}{v:V}{u:Gj},zv (jF m P w K mg o N g scope i f h j s a d) [] r H' D->zu v u->b v H'->CE j P w a s b u D:=
  λ{r H' v u}e C q=>{v,H',e.os,e.bare,e.base,e.Ye,C,q}
 cases U with
 |ret u=>have(v,r,H',e,C,q):=hs;exact I e C q
 |next=>have(r,H',e,q):=hs;exact I (v:=V.non) (u:=DD) e rfl q
 |brk=>have(_,_,_,q):=hs;exact False.elim q
 |cont=>have(_,_,_,q):=hs;exact False.elim q
section
variable{X:Cx}{x:TM}{p pos:M4}{e:D0}{es:List D0}{t:TA}{id T:String}{r:List V->Hp->VK->Prop}
def tCB(r:List V->Hp->VK->Prop)(t:TA):TE:=λσ H Q=>t σ H λa H1=>r a H1 Q
theorem Qm(j:Up X (.builtin id) r)(l:Gl X x)(m:X.mg x=Gq)(o:bootBuiltins x/.builtin id)(i:PA X (e::es) t)(n:x≠"__name__":=by decide)(b:(x==("__debug__":TM))=Gx:=by decide)
  (k:T4 (e::es) X.env=(Gx,eval e X.env)::T4 es X.env:=by rfl)(c:(E7 pos (T4 es X.env)).any (·.1)=Gx:=by rfl):PE X (.Call (.Name x p) (e::es) [] pos) (tCB r t):=by
 intro a s d H Q I h;refine Ef (Jc I l m o ?_ n b);exact RU (Xd (i pos a s d H _ I h) λw v⟨y,f,g,u,q⟩=>j a v d f y w Q g u q) k c
theorem Xz(j:Up X (.type T) r)(l:Gl X x)(m:X.mg x=Gq)(o:bootBuiltins x/.type T)(i:PA X (e::es) t)(n:x≠"__name__":=by decide)(b:(x==("__debug__":TM))=Gx:=by decide)
  (k:T4 (e::es) X.env=(Gx,eval e X.env)::T4 es X.env:=by rfl)(c:(E7 pos (T4 es X.env)).any (·.1)=Gx:=by rfl):PE X (.Call (.Name x p) (e::es) [] pos) (tCB r t):=by
 intro a s d H Q I h;refine Ef (Jc I l m o ?_ n b);exact EA (Xd (i pos a s d H _ I h) λw v⟨y,f,g,u,q⟩=>j a v d f y w Q g u q) k c
end
end L2
namespace HT
open PySem PyProof.Rows
section
variable{prog:Gn}{w:Tf}{A:DS}{E:Gj->Gy->Prop}{s:Gy}
noncomputable def Va(n d:Nat):Option Int->Nat
 |none=>d
 |some v=>if v<0 then(v+(n:Int)).toNat else min v.toNat n
theorem Ro(n d:Nat):Va n d Gq=d:=rfl
theorem Im(n d k:Nat):Va n d (Ga (k:Int))=min k n:=by show(if(k:Int)<0 then((k:Int)+(n:Int)).toNat else min (k:Int).toNat n)=min k n;rw[Gs (by lia),Em]
theorem Q29(n d:Nat)(b:d<=n)(o:Option Int):Va n d o<=n:=by
 cases o with
 |none=>exact b
 |some v=>
  show(if v<0 then(v+(n:Int)).toNat else min v.toNat n)<=n;by_cases a:v<0
  .rw[GX a];lia
  .rw[Gs a];exact RV _ _
theorem yW(v:Int)(n d:Nat):(if v<0 then max (v+(n:Int)) 0 else min v (n:Int))=((Va n d (Ga v):Nat):Int):=by
 show(if v<0 then max (v+(n:Int)) 0 else min v (n:Int))=(((if v<0 then(v+(n:Int)).toNat else min v.toNat n):Nat):Int);by_cases a:v<0
 .simp only[GX a];lia
 .simp only[Gs a];lia
theorem Qnn(a hi:Option Int)(n:Nat):Lv a hi 1 (n:Int)=(((Va n 0 a:Nat):Int),((Va n n hi:Nat):Int)):=by
 have b:¬((1:Int)<0):=by ext
 unfold Lv;simp only[b,Ey];refine RE ?_ ?_
 .cases a with
  |none=>rfl
  |some v=>exact yW v n 0
 .cases hi with
  |none=>rfl
  |some v=>exact yW v n n
theorem P8(i j:Nat):Sn (i:Int) (j:Int) 1=j - i:=by
 unfold Sn;have a:(1:Int)>0:=by lia
 simp only[a,Mm,C2];split<;>lia
theorem ya{v:Gj}{o:Option Int}{Q:Option Int->Gy->Prop}(p:NM v o)(h:Q o s):wpAny (TR prog w) A (Bn v) Q E s:=by
 cases p with
 |none=>exact Bz h
 |int i t=>exact slicePart_int h
theorem ZG{f:Ge}{d e:Gj}{a hi:Option Int}{n:Nat}{Q:Int×Int×Nat->Gy->Prop}(hs:s.heap.IsSliceOf f d e .none)(i:NM d a)(j:NM e hi)
  (h:Q (((Va n 0 a:Nat):Int),1,Va n n hi - Va n 0 a) s):wpAny (TR prog w) A (FU ↑f (pure (n:Int))) Q E s:=by
 have(os,c,g,b):=id hs;unfold FU BV;refine Gb (Gb (DE c b (x:=d) rfl (Gb (DE c b (x:=e) rfl (Gb (DE c b (x:=.none) rfl (Gm ?_)))))));refine Gb (Bz ?_);show wpAny _ _ (if((1:Int)==0)=Gi then _ else _) _ _ s;rw[Gs (by decide)];refine Gb (ya i (Gb (ya j (Gb (Gm ?_)))));show wpAny _ _ (match Lv a hi 1 (n:Int)with|(a,hi)=>pure (a,(1:Int),Sn a hi 1)) _ _ s;rw[Qnn a hi n];show wpAny _ _ (pure (((Va n 0 a:Nat):Int),(1:Int),Sn ((Va n 0 a:Nat):Int) ((Va n n hi:Nat):Int) 1)) _ _ s;rw[P8];exact Gm h
theorem Qu5(a:Array Gj)(i k:Nat):((EM k).filterMap λ(m:Nat)=>a[((i:Int)+(m:Int)*1).toNat]?).toArray=((a.toList.drop i).take k).toArray:=by
 have e:(λ(m:Nat)=>a[((i:Int)+(m:Int)*1).toNat]?)=λm=>a[i+m]?:=by
  funext m
  have:((i:Int)+(m:Int)*1).toNat=i+m:=by lia
  rw[this]
 rw[e];have:=pick_run a i k;rw[List.filterMap_map]at this;have b:((λx=>a[x]?)∘λx=>i+x)=λm=>a[i+m]?:=rfl;rw[b]at this;rw[this]
theorem PV{t i:Ge}{a:Array Gj}{j k:Gj}{c hi:Option Int}{Q:Gj->Gy->Prop}(ht:IsTup s.heap t a)(hs:s.heap.IsSliceOf i j k .none)(n:NM j c)(o:NM k hi)
  (hw:¬(Va a.size 0 c=0/\Va a.size a.size hi=a.size))
  (h:Q ↑s.heap.objs.size {s with heap:=s.heap.push {cls:=.type "tuple",data:=.seq ((a.toList.drop (Va a.size 0 c)).take (Va a.size a.size hi - Va a.size 0 c)).toArray}})
  (m:a.size<=TF):wpAny (TR prog w) A (getItem ↑t ↑i) Q E s:=by
 have b:sizeOk (.seq ((a.toList.drop (Va a.size 0 c)).take (Va a.size a.size hi - Va a.size 0 c)).toArray):=by show((a.toList.drop (Va a.size 0 c)).take (Va a.size a.size hi - Va a.size 0 c)).toArray.size<=TF;rw[Tp,Db,RW,DC];ext
 have p:Va a.size a.size hi<=a.size:=Q29 _ _ (Gz _) hi;have(os,g,e,l):=id hs;have d:s.TypeIs ↑i "slice":=⟨os,g,e⟩;unfold getItem;try with_reducible refine D2 ?_
 first|refine Gb (Gm ?_)|skip
 refine Gb (wpAny_sequenceKey ht.typeIs (by decide) ?_);refine Gb (DN (name:=EF "__getitem__") ht.typeIs SG
  (Dz SG ht.typeIs entry_tuple_getitem ?_ (args_tuple_getitem _ _)))
 show wpAny _ _ (FW ↑t>>=_) _ _ s;refine Gb (tupleItemsOf_ ht ?_);refine Gb (C3 d ?_);rw[GX (by decide)];refine Gb (ZG hs n o ?_);have f:¬((((Va a.size 0 c:Nat):Int)==0&&(1:Int)==1&&(Va a.size a.size hi - Va a.size 0 c)==a.size)=Gi):=by intro q;rw[T5,T5]at q;have m:((Va a.size 0 c:Nat):Int)=0:=eq_of_beq q.1.1;have r:Va a.size a.size hi - Va a.size 0 c=a.size:=eq_of_beq q.2;exact hw {by ext,by ext}
 show wpAny _ _ (if(((Va a.size 0 c:Nat):Int)==0&&(1:Int)==1&&(Va a.size a.size hi - Va a.size 0 c)==a.size)=Gi then _ else _) _ _ s;rw[Gs f,Qu5];first
  |exact Gb (m:=SA _) (DA (Gm ⟨_,Xb,Gm h⟩) b)
  |exact Gb (m:=SA _) (DA (Gb (Gm (Gm ⟨_,Xb,Gm h⟩))) b)
  |exact Gb (Gb (m:=SA _) (DA (Gm (Gm ⟨_,Xb,Gm h⟩)) b))
  |exact Gb (Gb (m:=SA _) (DA (Gm ⟨_,Xb,Gm h⟩) b))
end
end HT
namespace L2
open PySem PySem.Spec PyProof.Rows
variable{n t':Nat}{α:Type}{H H':Hp}{s:Gy}{u:Gj}{y:V}{P:Gn}{w:Tf}{zw:List (List Wg×V)}{xs:List (List Wg×Ge×Gj)}{b a:Ge}{Q:Gj->Gy->Prop}
abbrev TO:=St->Hp->(Option Int->Hp->Prop)->Prop
def PO(X:Cx)(e:Option D0)(t:TO):Prop:=
 ∀(zq:List (Ge×SR))(s:Gy)(σ:St)(H:Hp)(Q:Option Int->Hp->Prop),zv X zq σ H s->t σ H Q->
  wpAny (TR X.prog X.w) X.A (evalPart e X.env) (λu s'=>∃o H',zv X zq σ H' s'/\NM u o/\Q o H') X.xe s
def Q1:TO:=λ_ H Q=>Q Gq H
inductive Ab(Q:Option Int->Hp->Prop)(x:V)(H1:Hp):Prop
 |mk (i:_) (h0:x=.int i) (h1:Q (Ga i) H1):Ab Q x H1
def Kl(t:TE):TO:=λσ H Q=>t σ H λx H1=>Ab Q x H1
section
variable{X:Cx}{e:D0}{te:TE}{lo hi:Option D0}{tl th:TO}{pos p2:M4}
theorem Yv:PO X Gq Q1:=by intro a s b H Q I h;rw[Cr];exact Gm {Gq,H,I,.none,h}
theorem Yd(h:PE X e te):PO X (Ga e) (Kl te):=by intro a s g H Q I hw;rw[evalPart_some];refine Xd (h a s g H _ I hw) λu j⟨x,b,c,f,d⟩=>?_;have(i,rfl,q):=d;have(t,rfl):=f;exact{Ga i,b,c,.int i t,q}
def qX(X:Cx)(r:V->Option Int->Option Int->Hp->VK->Prop):Prop:=
 ∀(zq:List (Ge×SR))(s:Gy)(σ:St)(H:Hp)(x:V)(v b c:Gj)(lo hi:Option Int)(a:Ge)(Q:VK),zv X zq σ H s->zu x v->s.heap.IsSliceOf a b c .none->NM b lo->NM c hi->r x lo hi H Q->
  ∃T id,typeLookup (.type T) "__getitem__"=pure (Ga (.builtin id))/\s.TypeIs v T/\wpAny (TR X.prog X.w) X.A (getItem v ↑a) (EP X zq σ Q) X.xe s
def tSl(r:V->Option Int->Option Int->Hp->VK->Prop)(te:TE)(tl th:TO):TE:=λσ H Q=>te σ H λx H1=>tl σ H1 λl H2=>th σ H2 λu a=>r x l u a Q
theorem Z3{r:V->Option Int->Option Int->Hp->VK->Prop}(A:qX X r)(w:PE X e te)(z:PO X lo tl)(B:PO X hi th):PE X (.Subscript e (.Slice lo hi Gq p2) pos) (tSl r te tl th):=by intro a s d H Q I h;refine BA (Xd (w a s d H _ I h) λv K⟨x,j,m,J,E⟩=>?_);refine wpAny_Slice (Xd (z a K d j _ m E) λf L⟨l,k,n,C,F⟩=>Xd (B a L d k _ n F) λg c⟨u,i,o,D,G⟩=>?_);rw[Cr];refine Gm ?_;have p:zv X a d i {c with heap:=c.heap.push {cls:=.type "slice",data:=.fields #[f,g,.none]}}:=o.kept (t':=c.toks) λb M q=>Gp _ q;have(T,id,t,ht,y):=A a {c with heap:=c.heap.push {cls:=.type "slice",data:=.fields #[f,g,.none]}} d i x v f g l u c.heap.objs.size Q p J (IA ..) C D G;show wpAny (TR X.prog X.w) X.A (subscriptTail e (.Slice lo hi Gq p2) v ↑c.heap.objs.size) (EP X a d Q) X.xe {c with heap:=c.heap.push {cls:=.type "slice",data:=.fields #[f,g,.none]}};exact tail_any (ops:=[↑c.heap.objs.size,v]) ht t y (by with_unfolding_all rfl)
noncomputable def U2(xs:List V)(lo hi:Option Int):List V:=(xs.drop (HT.Va ⇑xs 0 lo)).take (HT.Va ⇑xs ⇑xs hi - HT.Va ⇑xs 0 lo)
theorem yG(a:List V)(b hi:Option Int):⇑(U2 a b hi)<=⇑a:=by unfold U2;rw[Db,RW];ext
inductive xF(K:Gd)(x:V)(lo:Option Int)(hi:Option Int)(H:Hp)(Q:VK):Prop
 |mk (a:_) (xs:_) (h0:x=↑a) (h1:hB K H a xs) (h2:¬(HT.Va ⇑xs 0 lo=0/\HT.Va ⇑xs ⇑xs hi=⇑xs)) (h3:∀p,H p=Gq->Q ↑p (zj H p (.tup (U2 xs lo hi)))):xF K x lo hi H Q
def uA(K:Gd):V->Option Int->Option Int->Hp->VK->Prop:=λx lo hi H Q=>xF K x lo hi H Q
theorem V2:qX X (uA X.K):=by
 intro i s u H x v p t e hi o Q I m hs k l h;have(a,d,rfl,j,hw,q):=h;cases m;have(f,r,ht,g):=I.tuple j;have c:f.toArray.size=⇑d:=by rw[Tp];exact r.length.symm
 exists "tuple",_,SG.lookup,ht.typeIs;refine HT.PV ht hs k l (by rw[c];exact hw) ?_ (by rw[c];exact g);rw[c];refine{↑s.heap.objs.size,_,I.laid (t':=s.toks) (o:=.tup (U2 d e hi)) (λb n q=>Gp _ q) (Gz _) ?_,1,q _ (I.Ye.fresh (Gz _))};exact{Dl (yG d e hi) g,_,(r.drop (HT.Va ⇑d 0 e)).take (HT.Va ⇑d ⇑d hi - HT.Va ⇑d 0 e),JE _ _}
end
noncomputable def ixN(n:Nat)(i:Int):Option Nat:=if 0<=i then(if i<n then Ga i.toNat else Gq)else if -(n:Int)<=i then Ga (i+n).toNat else Gq
def R8{α:Type}(xs:List α)(i:Int):Option α:=(ixN ⇑xs i).bind λj=>xs[j]?
theorem QC{i:Int}{j:Nat}(h:ixN n i/j):seqIndex? i n/j/\j<n/\ -(n:Int)<=i/\i<n:=by
 unfold ixN at h;by_cases b:0<=i
 .rw[GX b]at h;by_cases a:i<n
  .rw[GX a]at h;have e:i.toNat=j:=T3 h;exact{by rw[Hu b a,e],by lia,by lia,a}
  .rw[Gs a]at h;cases h
 .rw[Gs b]at h;by_cases a: -(n:Int)<=i
  .rw[GX a]at h;have e:(i+n).toNat=j:=T3 h;exact{by rw[C4 (by lia) a,e],by lia,a,by lia}
  .rw[Gs a]at h;cases h
theorem se{a:List α}{i:Int}{v:α}(h:R8 a i/v):∃j,seqIndex? i ⇑a/j/\a[j]?/v/\j<⇑a/\ -(⇑a:Int)<=i/\i<⇑a:=by
 unfold R8 at h;cases e:ixN ⇑a i with
 |none=>rw[e]at h;cases h
 |some j=>rw[e]at h;have(b,c,d,f):=QC e;exact⟨j,b,h,c,d,f⟩
theorem Zk{xs:List α}{j:Nat}{v:α}(h:xs[j]?/v):R8 xs (j:Int)/v:=by
 have a:j<⇑xs:=(Gg.mp h).1;have e:ixN ⇑xs (j:Int)/j:=by unfold ixN;rw[GX (by lia),GX (by lia)];simp
 unfold R8;rw[e];exact h
theorem R4{a b c:α}{d:List α}:R8 (a::b::c::d) ((2:Nat):Int)/c:=Zk rfl
theorem Xt{a b:α}{c:List α}:R8 (a::b::c) ((1:Nat):Int)/b:=Zk rfl
theorem Z6{a:α}{b:List α}:R8 (a::b) ((0:Nat):Int)/a:=Zk rfl
theorem YX(a:List α)(v:α):R8 (a++[v]) (-1)/v:=by
 have b:⇑(a++[v])=⇑a+1:=by simp
 have e:ixN ⇑(a++[v]) (-1)/⇑a:=by unfold ixN;rw[b,Gs (by decide),GX ∅];congr 1;ext
 unfold R8;rw[e];show(a++[v])[⇑a]?/v;simp
def Pp(b:D0):Prop:=∀o i,subscripted b Gx o i=operate [o,i] (getItem o i)
def iS(X:Cx)(r:R2):Prop:=
 ∀(value a:D0)(zq:List (Ge×SR))(s:Gy)(σ:St)(H:Hp)(x y:V)(v u:Gj)(Q:VK),zv X zq σ H s->zu x v->zu y u->r x y H Q->
  subscripted a Gx v u=operate [v,u] (getItem v u)->wpAny (TR X.prog X.w) X.A (subscriptTail value a v u) (EP X zq σ Q) X.xe s
def iG(X:Cx)(id:String)(r:V->List V->Hp->VK->Prop):Prop:=
 ∀(zq:List (Ge×SR))(s:Gy)(σ:St)(H:Hp)(x:V)(xs:List V)(v:Gj)(a:List Gj)(Q:VK),zv X zq σ H s->zu x v->Yl xs a->r x xs H Q->
  wpAny (TR X.prog X.w) X.A (call (.builtin id) (v::a)) (EP X zq σ Q) X.xe s
section
variable{X:Cx}{a b:D0}{ta tb:TE}{pos:M4}
theorem iS.or{r d:R2}(h:iS X r)(i:iS X d):iS X (λx y H Q=>r x y H Q\/d x y H Q):=by
 intro b a c s g H x y v u Q I e f q hs;rcases q with q|q
 .exact h b a c s g H x y v u Q I e f q hs
 .exact i b a c s g H x y v u Q I e f q hs
theorem Qn{r:R2}(i:iS X r)(f:PE X a ta)(g:PE X b tb)(hs:Pp b:=by infer_instance):PE X (.Subscript a b pos) (tOp r ta tb):=by intro c s m H Q I h;exact BA (oK f g I h λv u l x y d e j k q=>i a b c l m d x y v u Q e j k q (hs _ _))
inductive u7(K:Gd)(x:V)(y:V)(H:Hp)(Q:VK):Prop
 |mk (p:_) (xs:_) (i:_) (v:_) (h0:x=↑p) (h1:y=.int i) (h2:Jf K H p xs) (h3:R8 xs i/v) (h4:Q v H):u7 K x y H Q
def px(K:Gd):R2:=λx y H Q=>u7 K x y H Q
inductive sy(K:Gd)(x:V)(y:V)(H:Hp)(Q:VK):Prop
 |mk (p:_) (xs:_) (i:_) (v:_) (h0:x=↑p) (h1:y=.int i) (h2:hB K H p xs) (h3:R8 xs i/v) (h4:Q v H):sy K x y H Q
def jr(K:Gd):R2:=λx y H Q=>sy K x y H Q
inductive uK(x:V)(y:V)(H:Hp)(Q:VK):Prop
 |mk (z:_) (i:_) (c:_) (h0:x=.str z) (h1:y=.int i) (h2:⇑z<=TF) (h3:R8 z.cps.toList i/c) (h4:Q (.str ⟨#[c]⟩) H):uK x y H Q
def AL:R2:=λx y H Q=>uK x y H Q
theorem Ze:iS X (px X.K):=by
 intro l k a s o H x y v u Q I G J h hs;have(p,O,i,z,rfl,rfl,F,D,q):=h;cases G;have(t,rfl):=J;have(e,r,f,N):=I.list F;have(j,c,A,L,B,C):=se D;have(w,m,g):=r.get A;have E:=⇑r;have M:=jD;have b:EP X a o Q w s:=⟨z,H,I,g,q⟩;by_cases n:0<=i
 .have d:i.toNat=j:=by rw[Hu n C]at c;exact T3 c
  exact item_listR f.isList n (by lia) (by rw[d];simpa using m) b hs
 .have d:(i+(e.toArray.size:Int)).toNat=j:=by rw[C4 (by lia) B]at c;rw[Tp,<-E];exact T3 c
  exact L3 (x:=w) f.isList.typeIs slot_list_getitem.lookup
   (wpAny_getItem_list_neg (Q:=λr K=>r=w/\EP X a o Q r K) f.isList (by lia) (by rw[Tp]<;>lia) (by lia) (by rw[d];simpa using m) ⟨Xb,b⟩) hs
theorem Qs:iS X (jr X.K):=by
 intro e d a s g H x y v u Q I C D h hs;have(p,M,i,z,rfl,rfl,A,n,q):=h;cases C;have(t,rfl):=D;have(B,r,f,L):=I.tuple A;have(j,l,m,F,G,J):=se n;have(w,k,c):=r.get m;have o:=⇑r;have K:=jD;have b:EP X a g Q w s:=⟨z,H,I,c,q⟩;exact L3 (x:=w) f.typeIs slot_tuple_getitem.lookup
  (getItem_tuple (j:=j) (Q:=λr E=>r=w/\EP X a g Q r E) f ∅ ∅ (by rw[Tp,<-o];exact l) (by simpa using k) ⟨Xb,b⟩) hs
theorem xI:iS X AL:=by
 intro b a e s D H x y v u Q I p r h hs;have(z,i,c,rfl,rfl,B,n,q):=h;have(t,rfl):=p;have(C,rfl):=r;have(j,d,k,w,l,m):=se n;have o:⇑z.cps.toList=⇑z:=by simp[Str.length]
 rw[o]at d l m;have A:=jD;exact tail_any (IB s z t) slot_str_getitem.lookup (getItem_str (c:=c) (by have f:decide (i< -(2^63:Int))=Gx:=Td (by lia);have g:decide (i>=2^63)=Gx:=Td (by lia);rw[f,g,Cs]) (by rw[d];simpa using k) {.str ⟨#[c]⟩,H,I.tok _,{40},q}) hs
def rIx(K:Gd):R2:=λx y H Q=>px K x y H Q\/jr K x y H Q\/AL x y H Q
theorem yK:iS X (rIx X.K):=Ze.or (Qs.or xI)
theorem Qhg(a hi:Option Int)(n:Nat):(sliceBounds a hi Gq n).1=((HT.Va n 0 a:Nat):Int)/\(sliceBounds a hi Gq n).2.1=((HT.Va n n hi:Nat):Int)/\(sliceBounds a hi Gq n).2.2=1:=by
 refine{?_,?_,1}
 .cases a with
  |none=>simp[sliceBounds,HT.Va]
  |some i=>
   simp only[sliceBounds,HT.Va,RX,show(1:Int)>0 by decide,Mm];by_cases h:i<0
   .simp only[h,Mm]<;>lia
   .simp only[h,Ey]<;>lia
 .cases hi with
  |none=>simp[sliceBounds,HT.Va]
  |some i=>
   simp only[sliceBounds,HT.Va,RX,show(1:Int)>0 by decide,Mm];by_cases h:i<0
   .simp only[h,Mm]<;>lia
   .simp only[h,Ey]<;>lia
theorem Qfi(a:List Gj)(b hi:Option Int):slicePick a.toArray b hi Gq=((a.drop (HT.Va ⇑a 0 b)).take (HT.Va ⇑a ⇑a hi - HT.Va ⇑a 0 b)).toArray:=by have(c,d,e):=Qhg b hi a.toArray.size;unfold slicePick;rw[c,d,e];simp only[sliceRange_one,pick_run,Tp]<;>rfl
inductive xq(K:Gd)(x:V)(lo:Option Int)(hi:Option Int)(H:Hp)(Q:VK):Prop
 |mk (a:_) (xs:_) (h0:x=↑a) (h1:Jf K H a xs) (h2:∀p,H p=Gq->Q ↑p (zj H p (.lst (U2 xs lo hi)))):xq K x lo hi H Q
def YC(K:Gd):V->Option Int->Option Int->Hp->VK->Prop:=λx lo hi H Q=>xq K x lo hi H Q
theorem Wn:qX X (YC X.K):=by intro f s u H x v p t e hi o Q I m hs k l h;have(a,c,rfl,g,q):=h;cases m;have(j,r,ht,i):=I.list g;have d:=⇑r;exists "list",_,slot_list_getitem.lookup,ht.isList.typeIs;refine wpAny_getItem_list_slice ht.isList hs k l .none ⋯ ?_ (by rw[Tp]<;>lia);rw[Qfi,<-d];refine{↑s.heap.objs.size,_,I.laid (t':=s.toks) (o:=.lst (U2 c e hi)) (λb n q=>Gp _ q) (Gz _) ?_,1,q _ (I.Ye.fresh (Gz _))};exact{Dl (yG c e hi) i,_,(0),(r.drop (HT.Va ⇑c 0 e)).take (HT.Va ⇑c ⇑c hi - HT.Va ⇑c 0 e),To _ Xb}
theorem Zp:Up X (.builtin "len") (λxs H Q=>∃p b,xs=[↑p]/\(Jf X.K H p b\/hB X.K H p b)/\Q (.int ⇑b) H):=by
 intro g s m H xs l Q I r h;have(p,b,rfl,c,q):=h;have(u,rfl,j):=vals1 r;cases j;have k:=jD;rcases c with c|c
 .obtain⟨d,f,e,i⟩:=I.list c;have a:=⇑f;exact Nz e.isList (by simp only[Tp]<;>lia) {.int ⇑b,H,I.tok _,{s.toks+1,by rw[Tp,a]},q}
 .obtain⟨d,f,e,i⟩:=I.tuple c;have a:=⇑f;exact len_tuple e (by simp only[Tp]<;>lia) {.int ⇑b,H,I.tok _,{s.toks+1,by rw[Tp,a]},q}
theorem Ur:Up X (.type "list") (λxs H Q=>∃p g,xs=[↑p]/\(Jf X.K H p g\/hB X.K H p g)/\∀l,H l=Gq->Q ↑l (zj H l (.lst g))):=by
 intro t s B H xs C Q I r h;have(p,g,rfl,k,q):=h;have(u,rfl,A):=vals1 r;cases A;have i:∀(a:List Gj),Yl g a->⇑g<=TF->∀(c:Heap)(d:Nat),(∀b z,s.heap.get? b/z->c.get? b/z)->
   c.get? s.heap.objs.size=Ga {cls:=.type "list",dict:=Gq,data:=.seq a.toArray d,slots:=#[]}->EP X t B Q ↑s.heap.objs.size {s with heap:=c}:=λa f l c d m e=>
  {↑s.heap.objs.size,_,I.laid (t':=s.toks) m (Gz _) (show Yq X.prog X.w _ c _ (.lst g)from⟨l,a,d,f,e⟩),1,q _ (I.Ye.fresh (Gz _))}
 rcases k with k|k
 .obtain⟨a,f,y,l⟩:=I.list k;have j:=⇑f;have(o,x,v,n,w):=y.isList;exact Ct p (.inl Xb) x v w (λc d m e=>i a f l c d m e) (by simp only[Tp]<;>ext)
 .obtain⟨a,f,y,l⟩:=I.tuple k;have j:=⇑f;have(o,x,v,n,w):=y;exact Ct p (.inr Xb) x v w (λc d m e=>i a f l c d m e) (by simp only[Tp]<;>ext)
theorem Ub:Up X (.type "tuple") (λxs H Q=>∃p d,xs=[↑p]/\((Jf X.K H p d/\∀l,H l=Gq->Q ↑l (zj H l (.tup d)))\/(hB X.K H p d/\Q ↑p H))):=by
 intro a s n H xs x Q I r h;have(p,d,rfl,h):=h;have(u,rfl,w):=vals1 r;cases w;rcases h with⟨g,q⟩|⟨g,q⟩
 .obtain⟨c,j,i,m⟩:=I.list g;have l:=⇑j;refine call_tuple_list i.isList (λf v=>?_) (by simp only[Tp]<;>ext);have k:zv X a n H {s with heap:=f}:=I.kept (t':=s.toks) v;have t:zv X a n (zj H f.objs.size (.tup d)) {s with heap:=f.push {cls:=.type "tuple",data:=.seq c.toArray}}:=
   k.laid (t':=s.toks) (λb o e=>Gp _ e) (Gz _) (show Yq X.prog X.w _ _ _ (.tup d)from{m,c,j,JE _ _})
  exact{↑f.objs.size,_,t,1,q _ (k.Ye.fresh (Gz _))}
 .obtain⟨c,j,i,m⟩:=I.tuple g;exact call_tuple_same i {↑p,H,I,1,q}
def tyV(K:Gd)(T:String)(x:V)(H:Hp):Prop:=match x with
 |.str _=>T="str"
 |.int _=>T="int"
 |.ref p=>(T="list"/\∃xs,Jf K H p xs)\/(T="tuple"/\∃o,K.lookup p/o/\o.cls=.type "tuple"/\o.dict=Gq)\/
   (T="dict"/\((∃zw,H p/.dK zw)\/∃zw,H p/.dT zw))\/(T="set"/\∃S n,H p/.set S n)
 |_=>False
theorem xN{f:List (Ge×SR)}{u:St}{T:String}{x:V}{v:Gj}(I:zv X f u H s)(r:zu x v)(ty:tyV X.K T x H):
  s.TypeIs v T/\∀a,v=.ref a->∃j,s.heap.get? a/j/\j.dict=Gq:=by
 cases x with
 |str z=>have(t,rfl):=r;cases(show T="str"from ty);exact{IB s z t,λ_ e=>nomatch e}
 |int i=>have(t,rfl):=r;cases(show T="int"from ty);exact{typeIs_int s i t,λ_ e=>nomatch e}
 |ref p=>
  cases r;rcases ty with⟨rfl,w,m⟩|⟨rfl,o,b,l,h⟩|⟨rfl,b⟩|⟨rfl,S,n,b⟩
  .obtain⟨q,_,k,_⟩:=I.list m;refine{k.isList.typeIs,λa e=>?_};cases e;have(o,n,e,c,h,_):=k;exact⟨o,e,h⟩
  .refine{{o,I.kIn p o b,l},λa e=>?_};cases e;exact{o,I.kIn _ o b,h}
  .have z:∃o,s.heap.get? p/o/\o.ExactDict:=by
    rcases b with⟨c,b⟩|⟨c,b⟩
    .obtain⟨_,_,_,_,o,_,_,e,d,_⟩:=I.Ye p _ b;exact⟨o,e,d⟩
    .obtain⟨_,_,_,_,o,_,_,e,d,_⟩:=I.Ye p _ b;exact⟨o,e,d⟩
   have(o,e,d):=z;refine{{o,e,d.1},λa g=>?_};cases g;exact{o,e,d.2.1}
  .obtain⟨o,_,_,_,e,d,_⟩:=I.Ye p _ b;refine{{o,e,d.1},λa g=>?_};cases g;exact{o,e,d.2.1}
 |_=>exact False.elim ty
def Q8p(K:Gd)(T:String)(r:V->List V->Hp->VK->Prop)(to:TE):TE:=λσ H Q=>to σ H λx H1=>tyV K T x H1/\r x [] H1 Q
def tBM(K:Gd)(T:String)(r:V->List V->Hp->VK->Prop)(to:TE)(t:TA):TE:=λσ H Q=>to σ H λx H1=>tyV K T x H1/\t σ H1 λxs H2=>r x xs H2 Q
variable{o e:D0}{es:List D0}{to:TE}{t:TA}{name:TM}{apos cpos:M4}{T id:String}{r:V->List V->Hp->VK->Prop}
theorem jw(n:IC T)(slot:Slot T name id)(d:typeOf (.builtin id)=pure (.type "method_descriptor"))(l:iG X id r)(m:PE X o to)
  (b:attributeBase o name X.env (eval o X.env)=eval o X.env:=by rfl)(c:(apos.endLine==cpos.line)=Gi:=by rfl):PE X (.Call (.Attribute o name apos) [] [] cpos) (Q8p X.K T r to):=by
 intro a s g H Q I h;refine MH b c (Xd (m a s g H _ I h) λv q⟨x,i,e,f,ty,p⟩=>?_);have(j,k):=xN e f ty;exact{T,id,n,slot,d,j,k,SW rfl (NB (l a q g i x [] v [] Q e f .nil p))}
theorem X0(A:IC T)(slot:Slot T name id)(g:typeOf (.builtin id)=pure (.type "method_descriptor"))(y:iG X id r)(z:PE X o to)(w:PA X (e::es) t)
  (c:attributeBase o name X.env (eval o X.env)=eval o X.env:=by rfl)
  (f:((E7 cpos (T4 (e::es) X.env)).all (λx=>!x.1)&&(backToKw cpos (keywordEach [] X.env)).all (λx=>x.1.isSome)
   &&decide (⇑(e::es)+⇑([]:List RF)+(if([]:List RF).isEmpty then 0 else 1)<30))=Gi:=by rfl)
  (d:(apos.endLine==cpos.line)=Gi:=by rfl)(hs:T4 (e::es) X.env=(Gx,eval e X.env)::T4 es X.env:=by rfl)(b:(E7 cpos (T4 es X.env)).any (·.1)=Gx:=by rfl):
  PE X (.Call (.Attribute o name apos) (e::es) [] cpos) (tBM X.K T r to t):=by
 intro a s i H Q I h;refine MX c f d rfl (Xd (z a s i H _ I h) λv E⟨x,m,j,l,ty,B⟩=>?_);have(q,u):=xN j l ty;exists T,id,A,slot,g,q,u;have k:=w cpos a E i m _ j B;rw[hs]at k⊢;refine SW (by show(Gx||(E7 cpos (T4 es X.env)).any (·.1))=Gx;rw[b]<;>rfl) (No ?_);exact Xd k λG F⟨J,n,p,D,C⟩=>y a F i n x J v G Q p l D C
end
def qL(X:Cx)(id:String)(r:V->List V->Hp->VK->Prop):Prop:=
 ∀(zq:List (Ge×SR))(s:Gy)(σ:St)(H:Hp)(x:V)(xs:List V)(v:Gj)(a:List Gj)(Q:VK),zv X zq σ H s->zu x v->Yl xs a->r x xs H Q->
  wpAny (TR X.prog X.w) X.A (call (.builtin id) (v::a)) (EP X zq σ Q) X.xe s
theorem Yl.one:∀{x:V}{a:List Gj},Yl [x] a->∃u,a=[u]/\zu x u:=by intro x a h;cases h with|cons r h=>cases h;exact⟨_,Xb,r⟩
theorem Yl.zero:∀{a:List Gj},Yl [] a->a=[]
 |_,.nil=>rfl
theorem Yl.dropLast{b:List V}{a:List Gj}(h:Yl b a):Yl b.dropLast a.dropLast:=by
 induction h with
 |nil=>exact .nil
 |cons r t c=>
  cases t with
  |nil=>exact .nil
  |cons q d=>exact .cons r c
theorem XF(l:List α):l.eraseIdx (⇑l - 1)=l.dropLast:=by
 induction l with
 |nil=>rfl
 |cons a r c=>
  cases r with
  |nil=>rfl
  |cons b r=>
   have e:⇑(a::b::r) - 1=(⇑(b::r) - 1)+1:=by have d:⇑(a::b::r)=⇑r+2:=rfl;have f:⇑(b::r)=⇑r+1:=rfl;lia
   rw[e,List.eraseIdx_cons_succ,c];all_goals rfl
section
variable{X:Cx}{zq:List (Ge×SR)}{σ:St}{H:Hp}{s:Gy}{l b:Ge}{xs ys zs:List V}
theorem zv.n7{a its':List Gj}{f:Array Gj->Array Gj}(I:zv X zq σ H s)(b:H l/.lst xs)
  (e:s.heap.get? l=Ga {cls:=.type "list",data:=.seq a.toArray n})(d:f a.toArray=its'.toArray)(h:Yl ys its')(i:⇑ys<=TF):
  zv X zq σ (zj H l (.lst ys)) {s with heap:=s.heap.update l (Lo f),toks:=t'}:=by
 have q:=JF e f;rw[d]at q;refine I.write (x:=l) (e:=l) (by rw[b];exact trivial) (.inl Xb) (λj u c g=>(E8 s.heap (Lo f) (Tb c)).trans g) {_,q} ?_;exact{i,its',_,h,q}
theorem zv.vi{its:List Gj}(I:zv X zq σ H s)(a:Yl ys its)(b:⇑ys<=TF):
  zv X zq σ (zj H s.heap.objs.size (.lst ys)) {s with heap:=s.heap.push {cls:=.type "list",data:=.seq its.toArray},toks:=t'}:=
 I.laid (λ_ _ q=>Gp _ q) (Gz _) {b,its,(0),a,To _ Xb}
theorem zv.fresh(I:zv X zq σ H s):H s.heap.objs.size=Gq:=I.Ye.fresh (Gz _)
theorem zv.ju(I:zv X zq σ H s)(b:H l/.lst xs):⇑xs<=TF/\∃(a:List Gj)(n:Nat),Yl xs a/\⇑xs=⇑a/\s.heap.get? l=Ga {cls:=.type "list",data:=.seq a.toArray n}:=by have(z,a,n,r,e):=I.Ye l _ b;exact{z,a,n,r,⇑r,e}
theorem Pk(h:n<=TF):LG n=Gx:=by unfold LG;exact Td (by lia)
end
section
variable{X:Cx}
inductive ym(x:V)(vs:List V)(H:Hp)(Q:VK):Prop
 |mk (l:_) (xs:_) (y:_) (h0:x=↑l) (h1:vs=[y]) (h2:H l/.lst xs) (h3:⇑xs<TF) (h4:Q .non (zj H l (.lst (xs++[y])))):ym x vs H Q
def YE:V->List V->Hp->VK->Prop:=λx a H Q=>ym x a H Q
theorem Z4:qL X "list.append" YE:=by intro c s p H x m v k Q I g f h;have(l,o,y,rfl,rfl,b,j,q):=h;cases g;have(u,rfl,d):=f.one;have(z,a,n,r,i,e):=I.ju b;refine NN F.slot_list_append {_,e,1} F.entry_list_append (F.args_list_append_2 _ _) (RG l a.toArray n u (by rw[Tp];ext)) {e,?_};refine{.non,_,I.n7 (its':=a++[u]) b e ⋯ (r.append (.cons d .nil)) ?_,1,q};rw[Gk,GQ];ext
inductive xG(x:V)(vs:List V)(H:Hp)(Q:VK):Prop
 |mk (l:_) (b:_) (xs:_) (zs:_) (h0:x=↑l) (h1:vs=[↑b]) (h2:H l/.lst xs) (h3:H b/.lst zs) (h4:⇑xs+⇑zs<=TF) (h5:Q .non (zj H l (.lst (xs++zs)))):xG x vs H Q
def ZQ:V->List V->Hp->VK->Prop:=λx a H Q=>xG x a H Q
theorem rh:qL X "list.extend" ZQ:=by
 intro i s J H x C v B Q I w t h;have(l,b,D,G,rfl,rfl,g,k,A,q):=h;cases w;have(u,rfl,p):=t.one;cases p;have(z,c,n,r,y,e):=I.ju g;have(E,a,n2,o,m,j):=I.ju k;have f:c.toArray.size+a.toArray.size<=TF:=by rw[Tp,Tp];lia
 have d:¬(!c.toArray.isEmpty&&LG (c.toArray.size+a.toArray.size))=Gi:=by rw[Pk f,Bx];exact TC
 refine NN F.slot_list_extend {_,e,1} F.entry_list_extend (F.args_list_extend_2 _ _)
  (RH l c.toArray n b a.toArray n2 d (by rw[Tp];lia) (by lia)) {e,j,?_}
 refine{.non,_,I.n7 (its':=c++a) g e ⋯ (r.append o) ?_,1,q};rw[Gk];lia
inductive A5(x:V)(vs:List V)(H:Hp)(Q:VK):Prop
 |mk (l:_) (xs:_) (y:_) (h0:x=↑l) (h1:vs=[]) (h2:H l/.lst xs) (h3:xs[⇑xs - 1]?/y) (h4:Q y (zj H l (.lst xs.dropLast))):A5 x vs H Q
def KH:V->List V->Hp->VK->Prop:=λx a H Q=>A5 x a H Q
theorem O3:qL X "list.pop" KH:=by
 intro f s A H x t v p Q I o m h;have(l,w,y,rfl,rfl,d,j,q):=h;cases o;have b:=m.zero;subst b;have(z,a,n,r,g,e):=I.ju d;have(u,i,k):=r.get j;have c:a.toArray[a.toArray.size - 1]?/u:=by show a.toArray[⇑a - 1]?=Ga u;rw[<-Eb,<-g];exact i
 refine NN F.slot_list_pop {_,e,1} F.entry_list_pop (F.args_list_pop_1 _) (C5 l a.toArray n u c (by rw[Tp];ext)) {e,?_};refine{y,_,I.n7 (its':=a.dropLast) d e ?_ r.dropLast ?_,k,q}
 .show a.toArray.eraseIdxIfInBounds (a.toArray.size - 1)=a.dropLast.toArray;rw[Tp,List.eraseIdxIfInBounds_toArray,XF]
 .rw[List.length_dropLast];ext
inductive xW(x:V)(y:V)(H:Hp)(Q:VK):Prop
 |mk (l:_) (b:_) (xs:_) (zs:_) (h0:x=↑l) (h1:y=↑b) (h2:H l/.lst xs) (h3:H b/.lst zs) (h4:⇑xs+⇑zs<=TF) (h5:∀p,H p=Gq->Q ↑p (zj H p (.lst (xs++zs)))):xW x y H Q
def PR:R2:=λx y H Q=>xW x y H Q
theorem X5:hA X (binaryOp .Add) PR:=by
 intro d s D H x y v u Q I o p h;have(l,b,A,C,rfl,rfl,j,i,w,q):=h;cases o;cases p;have(z,c,n,r,t,e):=I.ju j;have(B,a,n2,m,k,f):=I.ju i;refine JG e f ?_ (by rw[Tp,Tp];ext);have g:c.toArray++a.toArray=(c++a).toArray:=by simp
 rw[g];exact{↑_,_,I.vi (t':=s.toks) (r.append m) (by rw[Gk];ext),1,q _ I.fresh}
end
section
variable{κ:Type}[DecidableEq κ]
noncomputable def Xo(zw:List (κ×V))(k:κ):Option V:=(zw.find? λa=>decide (a.1=k)).map (·.2)
noncomputable def V5(zw:List (κ×V))(k:κ)(v:V):List (κ×V):=
 if(zw.any λa=>decide (a.1=k))=Gi then zw.map (λa=>if a.1=k then(a.1,v)else a)else zw++[(k,v)]
theorem qj{k:κ}:Xo ([]:List (κ×V)) k=Gq:=rfl
theorem Wc{p:κ×V}{r:List (κ×V)}{k:κ}(e:p.1=k):Xo (p::r) k/p.2:=by simp[Xo,DY,e]
theorem Xy{p:κ×V}{r:List (κ×V)}{k:κ}(e:¬p.1=k):Xo (p::r) k=Xo r k:=by simp[Xo,DY,e]
theorem Jv(k:κ):∀a:List (κ×V),(a.any λb=>decide (b.1=k))=(Xo a k).isSome
 |[]=>rfl
 |p::r=>by
  rw[NG];by_cases e:p.1=k
  .simp only[Wc e,Tg e,Bool.true_or,NO]
  .rw[Xy e,Td e,Bool.false_or];exact Jv k r
theorem ub(k j:κ)(y:V):∀a:List (κ×V),Xo (a.map λb=>if b.1=k then(b.1,y)else b) j=(Xo a j).map λx=>if j=k then y else x
 |[]=>rfl
 |p::r=>by
  have b:=ub k j y r;rw[Tt];by_cases h:p.1=k
  .rw[GX h];by_cases e:p.1=j
   .rw[Wc (p:=(p.1,y)) e,Wc e,DZ,GX (e.symm.trans h)]
   .rw[Xy (p:=(p.1,y)) e,Xy e,b]
  .rw[Gs h];by_cases e:p.1=j
   .rw[Wc (p:=p) e,Wc e,DZ,Gs (λz=>h (e.trans z))]
   .rw[Xy (p:=p) e,Xy e,b]
theorem qT(k j:κ)(y:V):∀a:List (κ×V),Xo a k=Gq->Xo (a++[(k,y)]) j=if j=k then Ga y else Xo a j
 |[],_=>by
  by_cases e:k=j
  .rw[GX e.symm];exact Wc (p:=(k,y)) e
  .rw[Gs (λz=>e z.symm)];exact Xy (p:=(k,y)) e
 |p::r,b=>by
  rw[DG];have c:¬p.1=k:=λz=>by rw[Wc z]at b;cases b
  rw[Xy c]at b;have d:=qT k j y r b;by_cases e:p.1=j
  .rw[Wc e,Wc e,Gs (λz=>c (e.trans z))]
  .rw[Xy e,Xy e,d]
theorem qN(b:List (κ×V))(k j:κ)(y:V):Xo (V5 b k y) j=if j=k then Ga y else Xo b j:=by
 unfold V5;by_cases a:(b.any λc=>decide (c.1=k))=Gi
 .rw[GX a,ub];rw[Jv]at a;by_cases e:j=k
  .obtain⟨x,c⟩:=Mt.mp a;rw[GX e,e,c,DZ,GX rfl]
  .rw[Gs e];cases Xo b j with
   |none=>rfl
   |some x=>rw[DZ,Gs e]
 .rw[Gs a];refine qT k j y b ?_;rw[Jv]at a;cases q:Xo b k with
  |none=>rfl
  |some x=>rw[q]at a;exact(a Xb).elim
theorem W9(a:List (κ×V))(k:κ)(v:V):⇑(V5 a k v)<=⇑a+1:=by
 unfold V5;split
 .rw[Gv];ext
 .rw[Gk,TQ,S8];ext
theorem UY{a:List (κ×V)}{k:κ}(v:V)(h:Xo a k=Gq):V5 a k v=a++[(k,v)]:=by unfold V5;rw[Jv,h];exact Gs (by decide)
theorem R5.Wz{o:Option V}{u:Option Gj}(r:R5 o u):o.isSome=u.isSome:=by
 cases o with
 |none=>cases u with
  |none=>rfl
  |some _=>exact(show False from r).elim
 |some _=>cases u with
  |none=>exact(show False from r).elim
  |some _=>rfl
theorem KV.val{a:List (κ×V)}{g:List (κ×Gj)}(r:KV a g)(k:κ):R5 (Xo a k) (valueAt g k):=by
 unfold KV at r;induction r with
 |nil=>exact Ea
 |@cons p q l d h t j=>
  have(f,i):=h;by_cases e:p.1=k
  .have c:q.1=k:=f.symm.trans e;have b:valueAt (q::d) k/q.2:=by simp[valueAt,DY,c]
   rw[Wc e,b];exact i
  .have c:¬q.1=k:=λz=>e (f.trans z);have b:valueAt (q::d) k=valueAt d k:=by simp[valueAt,DY,c]
   rw[Xy e,b];exact j
theorem KV.any{a:List (κ×V)}{c:List (κ×Gj)}(r:KV a c)(k:κ):(a.any λb=>decide (b.1=k))=c.any λb=>decide (b.1=k):=by
 unfold KV at r;induction r with
 |nil=>rfl
 |cons h t d=>rw[NG,NG,d,h.1]
theorem KV.qq{b:List (κ×V)}{d:List (κ×Gj)}(r:KV b d)(k:κ)(i:zu y u):
  KV (b.map λa=>if a.1=k then(a.1,y)else a) (d.map λa=>if a.1=k then(a.1,u)else a):=by
 unfold KV at r⊢;induction r with
 |nil=>exact .nil
 |@cons p q j l h t g=>
  rw[Tt,Tt];refine .cons ?_ g;have(c,f):=h;by_cases e:p.1=k
  .rw[GX e,GX (c.symm.trans e)];exact⟨c,i⟩
  .rw[Gs e,Gs (λz=>e (c.trans z))];exact⟨c,f⟩
theorem KV.put{a:List (κ×V)}{b:List (κ×Gj)}(r:KV a b)(k:κ)(c:zu y u):KV (V5 a k y) (stored b k u):=by
 unfold V5 stored;rw[r.any k];by_cases e:(b.any λd=>decide (d.1=k))=Gi
 .rw[GX e,GX e];exact r.qq k c
 .rw[Gs e,Gs e];exact EV r ⟨Xb,c⟩
theorem KV.length{a:List (κ×V)}{b:List (κ×Gj)}(r:KV a b):⇑a=⇑b:=GJ r
end
theorem jP{k:Wg}(r:zu (kV k) u):(Y2 P w).is k u=Gi:=by
 cases k with
 |inl i=>have(t,e):=(show∃t,u=MD i t from r);subst e;exact Ph P w i t
 |inr x=>have(t,e):=(show∃t,u=ME x t from r);subst e;exact YW P w x t
theorem VA{a:List Wg}{b:List Gj}(r:Yl (a.map kV) b):ItemsAre (Y2 P w) a b:=by
 induction a generalizing b with
 |nil=>cases r;exact .nil
 |cons k a c=>cases r with
  |cons h t=>exact .cons (jP h) (c t)
abbrev KT(H:Hp):List (List Wg×V)->List (List Wg×Ge×Gj)->Prop:=Df λp q=>p.1=q.1/\H q.2.1/.tup (p.1.map kV)/\zu p.2 q.2.2
theorem KT.val(r:KT H zw xs)(k:List Wg):R5 (Xo zw k) ((atKey xs k).map (·.2)):=by
 induction r with
 |nil=>exact Ea
 |@cons p q i c h t g=>
  have(d,_,f):=h;by_cases e:p.1=k
  .have a:q.1=k:=d.symm.trans e;have b:atKey (q::c) k/q.2:=by simp[atKey,DY,a]
   rw[Wc e,b];exact f
  .have a:¬q.1=k:=λz=>e (d.trans z);have b:atKey (q::c) k=atKey c k:=by simp[atKey,DY,a]
   rw[Xy e,b];exact g
theorem KT.qq(r:KT H zw xs)(k:List Wg)(f:zu y u):
  KT H (zw.map λa=>if a.1=k then(a.1,y)else a) (xs.map (putAt k u)):=by
 induction r with
 |nil=>exact .nil
 |@cons p q g i h t d=>
  rw[Tt,Tt];refine .cons ?_ d;have(a,b,c):=h;unfold putAt;by_cases e:p.1=k
  .rw[GX e,GX (a.symm.trans e)];exact⟨a,b,f⟩
  .rw[Gs e,Gs (λz=>e (a.trans z))];exact⟨a,b,c⟩
theorem KT.put(r:KT H zw xs)(k:List Wg)(c:H b/.tup (k.map kV))(a:zu y u):
  KT H (V5 zw k y) (storedH xs k b u):=by
 have e:(zw.any λd=>decide (d.1=k))=(atKey xs k).isSome:=by rw[Jv,(r.val k).Wz,Ss]
 unfold V5 storedH;rw[e];by_cases q:(atKey xs k).isSome=Gi
 .rw[GX q,GX q];exact r.qq k a
 .rw[Gs q,Gs q];exact EV r ⟨Xb,c,a⟩
theorem KT.keeps(r:KT H zw xs)(ht:∀b a,H b/.tup a->H' b/.tup a):KT H' zw xs:=
 Qr r λ_ _ z=>{z.1,ht _ _ z.2.1,z.2.2}
section
variable{P:Gn}{w:Tf}{H:Hp}{h:Heap}{a:Ge}
theorem Am{u:HO}(ok:O4 P w H h)(e:Rd H a u):Yq P w H h a u:=e.ok ok
theorem kK{b:List (Wg×V)}(ok:O4 P w H h)(e:Rd H a (.dK b)):⇑b<=TF/\(a==Ee)=Gx/\∃c,KV b c/\h.DictOf (Y2 P w) a c:=
 show Yq P w H h a (.dK b)from Am ok e
theorem nI{b:List (Wg×V)}(ok:O4 P w H h)(e:H a/.dK b):⇑b<=TF/\(a==Ee)=Gx/\∃c,KV b c/\h.DictOf (Y2 P w) a c:=kK ok (.inl e)
theorem jQ{c:List Wg}(ok:O4 P w H h)(e:H a/.tup (c.map kV)):(tupleKind (Y2 P w)).is h c a:=by have(_,b,r,o,d,f,n,g):=(show Yq P w H h a (.tup (c.map kV))from ok a _ e);exact{o,b.toArray,n,d,f,g,by simpa using VA r}
theorem lZ(ok:O4 P w H h)(e:Rd H a (.dT zw)):⇑zw<=TF/\(a==Ee)=Gx/\
  ∃c,KT H zw c/\h.DictOfH (tupleKind (Y2 P w)) a c:=by
 have(z,y,c,r,o,g,f,i,j,k,n,s):=(show Yq P w H h a (.dT zw)from Am ok e);refine{z,y,c,r,o,g,f,i,j,k,n,λx b=>?_,s};have all:∀{l:List (List Wg×V)}{m:List (List Wg×Ge×Gj)},KT H l m->∀x∈m,(tupleKind (Y2 P w)).is h x.1 x.2.1:=by
  intro l m q;induction q with
  |nil=>intro x b;exact nomatch b
  |@cons p q v A d t u=>
   intro x b;rcases Ti.mp b with e|b
   .subst e;exact jQ ok (by rw[<-d.1];exact d.2.1)
   .exact u x b
 exact all r x b
theorem ue(ok:O4 P w H h)(e:H a/.dT zw):⇑zw<=TF/\(a==Ee)=Gx/\
  ∃b,KT H zw b/\h.DictOfH (tupleKind (Y2 P w)) a b:=lZ ok (.inl e)
end
def Vr(H:Hp)(a:Ge)(y:V)(r:Option V):Prop:=
 (∃zw k,Rd H a (.dK zw)/\y=kV k/\r=Xo zw k)\/∃zw k b,Rd H a (.dT zw)/\y=.ref b/\H b/.tup (k.map kV)/\r=Xo zw k
def Oh(H:Hp)(a:Ge)(y v:V)(H':Hp):Prop:=
 (∃zw k,H a/.dK zw/\y=kV k/\⇑zw<TF/\H'=zj H a (.dK (V5 zw k v)))\/
 ∃zw k b,H a/.dT zw/\y=.ref b/\H b/.tup (k.map kV)/\⇑zw<TF/\H'=zj H a (.dT (V5 zw k v))
theorem Vr.k{H:Hp}{a:Ge}{b:List (Wg×V)}{k:Wg}(e:H a/.dK b):Vr H a (kV k) (Xo b k):=.inl {b,k,.inl e,11}
theorem Vr.t{k:List Wg}(e:H a/.dT zw)(c:H b/.tup (k.map kV)):Vr H a ↑b (Xo zw k):=.inr {zw,k,b,.inl e,1,c,1}
theorem Oh.k{H:Hp}{a:Ge}{b:List (Wg×V)}{k:Wg}{v:V}(e:H a/.dK b)(c:⇑b<TF):Oh H a (kV k) v (zj H a (.dK (V5 b k v))):=.inl ⟨b,k,e,Xb,c,Xb⟩
theorem Oh.t{k:List Wg}{v:V}(e:H a/.dT zw)(c:H b/.tup (k.map kV))(d:⇑zw<TF):
  Oh H a ↑b v (zj H a (.dT (V5 zw k v))):=.inr ⟨zw,k,b,e,Xb,c,d,Xb⟩
section
variable{X:Cx}{zq:List (Ge×SR)}{σ:St}{H:Hp}{s:Gy}{a:Ge}{y v:V}{u r:Gj}{o:Option V}{A:DS}{E:Gj->Gy->Prop}
theorem zv.big(I:zv X zq σ H s):Ee<s.heap.objs.size:=by have h:D4<s.heap.objs.size:=(I.mod.glob.keeps I.bk).lt;exact C6 (by decide) h
theorem QI(t:A.units+1<ET)(I:zv X zq σ H s)(g:Vr H a y (Ga v))(n:zu y u)(h:∀f m,zv X zq σ H m->zu v f->Q f m):
  wpAny (TR X.prog X.w) A (getItem ↑a u) Q E s:=by
 rcases g with⟨m,k,e,j,l⟩|⟨m,k,b,e,j,o,l⟩
 .subst j;have(z,q,m,c,i):=kK I.Ye e;have(f,hw,d):=R5.some_of (v:=v) (o:=valueAt m k) (by rw[l];exact c.val k);exact wpAny_getItem_of (jP n) i.mapOf hw (h f _ (I.tok _) d)
 .subst j;cases(show u=Tn b from n);have(z,q,w,c,i):=lZ I.Ye e;have(f,hw,d):=R5.some_of (v:=v) (o:=(atKey w k).map (·.2)) (by rw[l];exact c.val k);have(p,r,m):=L4.mp hw;refine NP (SX t) (jQ I.Ye o) i r ?_;rw[m];exact h f _ (I.tok _) d
theorem PY(p:A.units+1<ET)(I:zv X zq σ H s)(g:Vr H a y o)(m:zu y u)(h:∀j,zv X zq σ H j->Q (.bool o.isSome) j):
  wpAny (TR X.prog X.w) A (Ed .In u ↑a) Q E s:=by
 rcases g with⟨j,k,e,f,l⟩|⟨j,k,b,e,f,n,l⟩
 .subst f;have(z,i,j,c,d):=kK I.Ye e;refine wpAny_in_of (jP m) i d.mapOf ?_;rw[<-(c.val k).Wz,<-l];exact h _ (I.tok _)
 .subst f;cases(show u=Tn b from m);have(z,i,j,c,d):=lZ I.Ye e;refine Cu (SX p) (jQ I.Ye n) i d ?_;have q:=(c.val k).Wz;rw[Ss]at q;rw[<-q,<-l];exact h _ (I.tok _)
theorem OU(p:A.units+1<ET)(I:zv X zq σ H s)(g:Vr H a y o)(m:zu y u)(h:∀j,zv X zq σ H j->Q (.bool (!o.isSome)) j):
  wpAny (TR X.prog X.w) A (Ed .NotIn u ↑a) Q E s:=by
 rcases g with⟨j,k,e,f,l⟩|⟨j,k,b,e,f,n,l⟩
 .subst f;have(z,i,j,c,d):=kK I.Ye e;refine wpAny_notIn_of (jP m) i d.mapOf ?_;rw[<-(c.val k).Wz,<-l];exact h _ (I.tok _)
 .subst f;cases(show u=Tn b from m);have(z,i,j,c,d):=lZ I.Ye e;refine RY (SX p) (jQ I.Ye n) i d ?_;have q:=(c.val k).Wz;rw[Ss]at q;rw[<-q,<-l];exact h _ (I.tok _)
theorem R9{c:Heap}{ob:HO}(I:zv X zq σ H s)(g:lL (H a))(hs:Eu a s.heap c)(f:∃q,c.get? a/q)(d:Yq X.prog X.w (zj H a ob) c a ob):
  zv X zq σ (zj H a ob) {s with heap:=c,toks:=t'}:=
 I.write (x:=a) (e:=a) g (.inl Xb) (λb q e z=>(hs.2 b e).trans z) f d
theorem vb{e:Heap}{b:List (Wg×V)}{d:List (Wg×Gj)}(z:⇑b<=TF)(g:(a==Ee)=Gx)(c:KV b d)(f:e.DictOf (Y2 P w) a d):
  Yq P w H' e a (.dK b):=⟨z,g,d,c,f⟩
theorem YG{Q:Unit->Gy->Prop}(N:A.units+1<ET)(I:zv X zq σ H s)(g:Oh H a y v H')(D:zu y u)(C:zu v r)(h:∀c,zv X zq σ H' c->Q () c):
  wpAny (TR X.prog X.w) A (setItem ↑a u r) Q E s:=by
 rcases g with⟨d,k,e,o,l,n⟩|⟨d,k,b,e,o,x,l,n⟩
 .subst o n;have(z,p,l,f,m):=nI I.Ye e;have w:⇑l<=TF:=by rw[<-⇑f];exact z
  have t:⇑(V5 d k v)<=TF:=by have:=W9 d k v;ext
  refine wpAny_setItem_pairs (hsz:=w) (jP D) m λB i hs=>h _ ?_;have c:∃q,B.get? a/q:=let⟨q,_,_,j,_⟩:=i;⟨q,j⟩;exact R9 I (by rw[e];exact Ea) hs c (vb t p (f.put k C) i)
 .subst o n;cases(show u=Tn b from D);have(z,p,O,f,m):=ue I.Ye e;have w:⇑O<=TF:=by rw[<-GJ f];exact z
  have t:⇑(V5 d k v)<=TF:=by have:=W9 d k v;ext
  refine NQ (hsz:=w) (SX N) (jQ I.Ye x) m λB i hs=>h _ ?_;have(q,G,F,j,J,K,L,_,M):=i;refine R9 I (by rw[e];exact Ea) hs ⟨q,j⟩ {t,p,_,(f.put k x C).keeps λc P l=>?_,q,G,F,j,J,K,L,M};rw[Qh (Zt l e nofun)];exact l
end
section
variable{X:Cx}{zq:List (Ge×SR)}{σ:St}{H:Hp}{s:Gy}{a:Ge}{zw:List (Wg×V)}{k:Wg}{u:Gj}{A:DS}{E:Gj->Gy->Prop}
theorem Q5y(I:zv X zq σ H s)(e:Rd H a (.dK zw))(h:∀t b,zv X zq σ H b->Q (.int ⇑zw t) b):wpAny (TR X.prog X.w) A (call (.builtin "len") [↑a]) Q E s:=by have(z,d,f,b,c):=kK I.Ye e;refine call_len_dict d c (by rw[<-⇑b];rw[TH]at z;lia) ?_;rw[<-⇑b];exact h _ _ (I.tok _)
end
def vC(i:D0):Prop:=∀ov a,subscripted i Gx ov a=operate [ov,a] (getItem ov a)
theorem K2{a:Gn}{A:DS}{E:Gj->Gy->Prop}{j:Bm}{c b:D0}{m:M4}{T id:String}
  (p:typeLookup (.type T) "__getitem__"=pure (Ga (.builtin id)))(hs:vC b)
  (h:wpAny (TR a w) A (eval c j) (λo f=>wpAny (TR a w) A (eval b j) (λi d=>d.TypeIs o T/\wpAny (TR a w) A (getItem o i) Q E d) E f) E s):
  wpAny (TR a w) A (eval (.Subscript c b m) j) Q E s:=by
 refine BA (EN h (λo f l=>EN l (λi d e=>?_) λ_ _ x=>x) λ_ _ x=>x);have(n,e):=e;unfold subscriptTail;refine Gb ?_;rw[getitemInPython_of_ne n.not_modules];refine Gb (E5 n p ?_);have k:wpAny (TR a w) A (subscripted b Gx o i) (λr g=>wpAny (TR a w) A (letTemporaryGo c o r>>=λ_=>pure r) Q E g) E d:=by rw[hs o i];exact wpAny_operating (EN e (λr g l=>Gb (wpAny_letTemporaryGo (Gm l))) λ_ _ x=>x)
 first
  |exact Gm (Gb k)
  |exact Gb (Gm (Gb k))
  |exact Gb k
theorem Pd{X:Cx}{c:List (Ge×SR)}{h:St}{o:Option V}(I:zv X c h H s)(g:Vr H a y o):s.TypeIs ↑a "dict":=by
 rcases g with⟨f,k,e,_,_⟩|⟨f,k,b,e,_,_,_⟩
 .obtain⟨_,_,i,_,d⟩:=kK I.Ye e;exact d.typeIs
 .obtain⟨_,_,i,_,d⟩:=lZ I.Ye e;exact d.typeIs
inductive vN(Q:VK)(x:V)(y:V)(H2:Hp):Prop
 |mk (a:_) (v:_) (h0:x=↑a) (h1:Vr H2 a y (Ga v)) (h2:Q v H2):vN Q x y H2
def lC(td ty:TE):TE:=λσ H Q=>td σ H λx H1=>ty σ H1 λy H2=>vN Q x y H2
inductive uV(Q:VK)(y:V)(x:V)(H2:Hp):Prop
 |mk (a:_) (o:_) (h0:x=↑a) (h1:Vr H2 a y o) (h2:Q (.bl o.isSome) H2):uV Q y x H2
def OG(ty td:TE):TE:=λσ H Q=>ty σ H λy H1=>td σ H1 λx H2=>uV Q y x H2
inductive xO(Q:VK)(y:V)(x:V)(H2:Hp):Prop
 |mk (a:_) (o:_) (h0:x=↑a) (h1:Vr H2 a y o) (h2:Q (.bl (!o.isSome)) H2):xO Q y x H2
def Ky(ty td:TE):TE:=λσ H Q=>ty σ H λy H1=>td σ H1 λx H2=>xO Q y x H2
inductive yT(D:Ends)(σ:St)(v:V)(x:V)(y:V)(H3:Hp):Prop
 |mk (a:_) (H4:_) (h0:x=↑a) (h1:Oh H3 a y v H4) (h2:D.nx σ H4):yT D σ v x y H3
def zL(td ty tv:TE):TS:=λD σ H=>tv σ H λv H1=>td σ H1 λx H2=>ty σ H2 λy a=>yT D σ v x y a
section
variable{X:Cx}{o i e value:D0}{pos pos' tpos:M4}{td ty tv:TE}
theorem Yc(p:X.A.units+1<ET)(n:PE X o td)(hi:PE X i ty)(hs:vC i):PE X (.Subscript o i pos) (lC td ty):=by intro b s e H Q I h;refine K2 Me.lookup hs (Xd (n b s e H _ I h) λu z⟨x,f,k,t,q⟩=>Xd (hi b z e f _ k q) λA B⟨y,j,d,w,a,v,m,g,r⟩=>?_);subst m;obtain rfl:u=Tn a:=t;exact{Pd d g,QI p d g w λD C l c=>⟨v,j,l,c,r⟩}
theorem rW(n:X.A.units+1<ET)(hi:PE X i ty)(m:PE X o td):PC X .In i o (OG ty td):=by intro b s c H Q I h;refine Xd (hi b s c H _ I h) λw v⟨y,d,f,t,p⟩=>Xd (m b v c d _ f p) λu z⟨x,e,j,r,a,ov,l,g,q⟩=>?_;subst l;obtain rfl:u=Tn a:=r;exact PY n j g t λA k=>{.bl ov.isSome,e,k,1,q}
theorem Qr5(n:X.A.units+1<ET)(hi:PE X i ty)(m:PE X o td):PC X .NotIn i o (Ky ty td):=by intro b s c H Q I h;refine Xd (hi b s c H _ I h) λw v⟨y,d,f,t,p⟩=>Xd (m b v c d _ f p) λu z⟨x,e,j,r,a,ov,l,g,q⟩=>?_;subst l;obtain rfl:u=Tn a:=r;exact OU n j g t λA k=>{.bl (!ov.isSome),e,k,1,q}
theorem Vl(q:X.A.units+1<ET)(p:PE X o td)(hi:PE X i ty)(t:PE X value tv)(hs:swapsWith value (Ga (.Subscript o i pos')) pos.line X.env=pure Gx):
  PS X (.Assign [.Subscript o i pos'] value pos) (zL td ty tv):=by
 intro b s c H D I h;refine wpAny_Assign_Subscript (Xd (t b s c H _ I h) λr F⟨v,d,j,B,w⟩=>Xd (p b F c d _ j w) λu G⟨x,e,k,C,z⟩=>Xd (hi b G c e _ k z) λK L⟨y,J,l,E,a,f,n,g,A⟩=>?_) hs;subst n;obtain rfl:u=Tn a:=C;exact YG q l g E B λs4 m=>⟨c,f,m,A⟩
end
theorem Pf(h:Heap)(a:Ee<h.objs.size):Yq P w H (h.push {cls:=.type "dict",data:=.dict #[]}) h.objs.size (.dK []):=
 {Ts _,EH.mpr (Tb (T2 a)),[],.nil,JO h}
theorem VN(h:Heap)(a:Ee<h.objs.size):Yq P w H (h.push {cls:=.type "dict",data:=.dict #[]}) h.objs.size (.dT []):=
 {Ts _,EH.mpr (Tb (T2 a)),[],.nil,_,#[],(0),To _ Xb,⟨Xb,Xb,Xb⟩,11,SK}
def UH:TE:=λ_ H Q=>∀p,H p=Gq->Q ↑p (zj H p (.dK []))
def OB:TE:=λ_ H Q=>∀p,H p=Gq->Q ↑p (zj H p (.dT []))
section
variable{X:Cx}{pos:M4}
theorem Jr:PE X (.Dict [] [] pos) UH:=λa s b H Q I h=>MI {↑s.heap.objs.size,_,I.laid (a:=s.heap.objs.size) (o:=.dK []) (t':=s.toks) (λ_ _ q=>Gp _ q) (Gz _) (Pf s.heap I.big),1,h _ (I.Ye.fresh (Gz _))}
theorem nt:PE X (.Dict [] [] pos) OB:=λa s b H Q I h=>MI {↑s.heap.objs.size,_,I.laid (a:=s.heap.objs.size) (o:=.dT []) (t':=s.toks) (λ_ _ q=>Gp _ q) (Gz _) (VN s.heap I.big),1,h _ (I.Ye.fresh (Gz _))}
end
structure M2(X:Cx)(o:D0)(m:TM)(apos:M4)(e f:D0)(cpos:M4):Prop where
 base:attributeBase o m X.env (eval o X.env)=eval o X.env
 few:((E7 cpos (T4 [e,f] X.env)).all (λx=>!x.1)&&(backToKw cpos (keywordEach [] X.env)).all (λx=>x.1.isSome)
  &&decide (⇑([e,f]:List D0)+⇑([]:List RF)+(if([]:List RF).isEmpty then 0 else 1)<30))=Gi
 line:(apos.endLine==cpos.line)=Gi
 trees:E7 cpos (T4 [e,f] X.env)=[(Gx,eval e X.env),(Gx,eval f X.env)]
end L2
namespace Att
open PySem PySem.W PySem.Calls PyProof.Rows
theorem UZ{P:CV}{h:Heap}:∀(c:List Int)(d:List Gj),WellAll P h d (c.map JH)->MY d c:=by
 intro c;induction c with
 |nil=>intro d w;rw[L6]at w;cases w;exact .nil
 |cons n c e=>
  intro d w;rw[Tt]at w;cases w with
  |cons a b=>cases a;exact .cons _ _ (e _ b)
theorem YD{l:CT}{n:Nat}(u:l.most/n){P:CV}{h:Heap}{args:List WData}{e:List Gj}
  (c:l.row.toRowW.claim.pre args=Gi)(k:WellAll P h e args):
  ∃a o b,e=[Tn a]/\args=[WData.list (b.map JH)]/\h.get? a=Ga {cls:=.type "list",data:=.seq o.toArray}/\MY o b/\⇑b<=n:=by
 have j:WShape.hasAll [] args [.list .int]=Gi:=(ID c).1;have m:l.pre.holds [] {args:=args}=Gi:=(ID c).2;have(d,r,rfl,p,s):=hasAllW_cons j;obtain rfl:=hasAllW_nil s;have(x,rfl,t):=hasW_list p;have(b,rfl):=items_int t;have g:⇑b<=n:=by
  unfold Aa at m;have f:(WTm.not (.lt (.lit (.int (n:Int))) (.len (.arg 0)))).holds [] {args:=[.list (b.map .int)]}=Gi:=by have f:=(holds_andW m).1;rw[u]at f;exact f
  have i:=condW_of f (w_not (w_lt w_lit (w_len_list (w_arg Xb))));rw[Gv]at i;refine RZ λq=>?_;have v:(n:Int)<((⇑b:Nat):Int):=by ext
  first
   |(rw[Tg v]at i;exact absurd i (by decide))
   |(simp at i;ext)
 cases k with
 |cons v w=>
  cases w;cases v with
  |list i f=>exact{2,b,11,i,UZ b _ f,g}
theorem VT(l:CT)(args:List WData):l.row.toRowW.claim.post args (.bool Gi) args=Gi:=
 postW_of (r:=l.row.toRowW) (X:=(Gi==Gi))
  (show IE [] (.bool Gi) .bool=Gi by first|rfl|decide|simp[IE,WShape.arms,WShape.armsAll])
  (show(WTm.eq .res (.lit (.bool Gi))).value [] {args:=args,res:=Ga (.bool Gi),after:=args}/(.bool (Gi==Gi))from w_eq_bool (w_res Xb) w_lit) rfl
theorem US{l:CT}{n:Nat}{q:Gn}{c:List TM}{B:(TM->Option Gj)->Heap->Prop}{C:Tf->Heap->Prop}{d:CU}
  (Q:l.most/n)(v:d.params.defaults=[])
  (call:∀(w:Tf)(s₀ b:Gy)(s z:TM->Option Gj)(i:Ge)(o:SR)(A p e:Gj)(a:Ge)(h:List Gj)(t:List Int),
   Ground q c [] B w s₀ s z b.heap->C w b.heap->
   b.heap.get? i/o->o.data=.func (docDef d.name d.params d.body d.scope A p e)->b.heap.CodeRec p d.name->s d.name/↑i->
   b.heap.get? a=Ga {cls:=.type "list",data:=.seq h.toArray}->MY h t->⇑t<=n->b.gens=#[]->
   codeAny (TR l.prog w) callerA (.call ↑i {[↑a],[]}) (λr s'=>r=.ok (.ret (.bool Gi))/\OldK b.heap s'.heap/\s'.os=b.os/\Mj s'.gens) b):
  WalkO q c B C l.row.toRowW d [] (λf h=>ML f h):=by
 intro w s₀ b s z G Y i o A p e I kV R M u E x N D H U m F T y O;obtain rfl:I=.none:=Dflts.none E v;obtain rfl:kV=.none:=Dflts.noKw E;have(a,h,t,rfl,rfl,k,g,j):=YD Q m y;refine enter_call (MU (call w s₀ b s z i o A p e a h t G Y R (fd_plain M) u x k g j N) λr s' S=>?_);have(rfl,J,K,L):=S;exact{.inl {.bool Gi,.bool Gi,[],1,λ_=>rfl,.bool Gi,VT l _,λ_=>{IS,λ_ P=>(nomatch P)}},J,K,L}
end Att
namespace L2
open PySem PySem.Spec PyProof.Rows
variable{k:Nat}{fd:Dn}{x qual:TM}{st:DQ}{f:Ge}{A B:Prop}{H:Hp}
theorem VJ{b:List Gj}{a:List Int}(h:MY b a):Yl (a.map V.int) b:=by
 induction h with
 |nil=>exact .nil
 |cons n t _ c=>exact .cons ⟨t,Xb⟩ c
def rG(H:Hp):Prop:=∀b,H b=Gq\/∃o xs,H b/.frz o (.lst xs)
theorem Pv{P:Gn}{y:Tf}{K:Gd}{t I:TM->Option Gj}{J:iQ}{E f:Ge}{X:Sp}{c:Gy}{l:List Gj}{w:List Int}
  (KX:K.In c.heap)(U:c.heap.Ns D4 t)(i:c.heap.Ns builtinsNs I)(ab:∀x:TM,x≠"__name__"->I x=bootBuiltins x)(ad:c.heap.NoLimit)(hg:c.gens=#[])
  (A:c.heap.get? f=Ga {cls:=.type "list",data:=.seq l.toArray})(hi:MY l w)(T:⇑w<=TF)(hr:Yj k callerA)
  (F:∀C:Heap,K.In C->C.Ns D4 t->Q3 P y K t C J k E fd [x] X)(ac:∀(s:Gy)(u:Gj),RD s fd {[u],[]} [(x,u)])
  (af:∀b:Hp,rG b->Jf K b f (w.map V.int)->X [↑f] b (λv _=>v=.bl Gi) λ_ _ _=>False)
  (aa:∀b e j,J [] b c (λ_ _ _=>False) e j->False):
  codeAny (TR P y) callerA (.call ↑E {[↑f],[]}) (λr j=>r=.ok (.ret (.bool Gi))/\OldK c.heap j.heap/\j.os=c.os/\Mj j.gens) c:=by
 have W:=VJ hi;have ag:=⇑hi;have N:∀b:Hp,rG b->Jf K b f (w.map V.int)->O4 P y b c.heap->(∀a,b a≠Gq->a=f)->(b f≠Gq->K.lookup f=Gq)->
   codeAny (TR P y) callerA (.call ↑E {[↑f],[]}) (λr j=>r=.ok (.ret (.bool Gi))/\OldK c.heap j.heap/\j.os=c.os/\Mj j.gens) c:=by
  intro b S hS L Q hK;have M:∀{a:Ge}{h:SR},c.heap.get? a/h->b a=Gq->(iZ c.heap b).get? a/h:=λe n=>Qw5 e n;have ah:∀{a:Ge}{h:SR}{o:Array Lq}{m:Nat},c.heap.get? a/h->h.data=.dict o m->b a=Gq:=λ{a h o m}e d=>by
   cases q:b a with
   |none=>rfl
   |some u=>have D:a=f:=Q a (by rw[q];simp);subst D;rw[A]at e;cases e;have Z:JU l.toArray _=Data.dict o m:=d;cases Z
  have B:∀{a:Ge}{H:TM->Option Gj},c.heap.Ns a H->(iZ c.heap b).Ns a H:=λ{a H}⟨h,o,m,e,d,r⟩=>{h,o,m,M e (ah e d),d,r};have R:K.In (iZ c.heap b):=λa h e=>M (KX a h e) (by
   cases q:b a with
   |none=>rfl
   |some u=>have D:a=f:=Q a (by rw[q];simp);subst D;rw[hK (by rw[q];simp)]at e;cases e)
  have hM:Mod K t (iZ c.heap b):={R,B U,{I,B i,ab},let⟨mc,h1,h2⟩:=ad;{mc,B h1,h2}};have e0:jM P y K t (iZ c.heap b) callerA [] c b:={1,hM,λa h e=>PH e,LX (PP _ _),trivial,λa i=>absurd (show a∈([]:List Ge)from i) ⋯,L,.of_eq hg};refine MU ((F _ R (B U)).run callerA [] c b {[↑f],[]} [↑f] [↑f] _ _ hr e0 (ac c ↑f) (.cons rfl .nil) (af b S hS)) λr j p=>?_;cases r with
  |error e=>exact(aa b e j p).elim
  |ok fl=>
   cases fl with
   |next=>exact False.elim p
   |brk=>exact False.elim p
   |cont=>exact False.elim p
   |ret u=>
    have(v,H',os,Y,un,ae,r',q):=p;have q':v=.bl Gi:=q;subst q';obtain rfl:u=Lm Gi:=r';refine{1,OldK.of_keep λa h e=>?_,os,Y};cases q:b a with
    |none=>exact un.keep a h e q (by intro g;exact absurd (show a∈([]:List Ge)from g) ⋯) ⋯
    |some u=>
     rcases S a with g|⟨ob,xs,g⟩
     .rw[q]at g;cases g
     .have z2:=un.Qba a ob _ g;have(O,_):=L a _ g;have(e2,_):=ae a _ z2;rw[e]at O;cases O;exact e2
 cases G:K.lookup f with
 |some h=>have e:=KX f h G;rw[A]at e;cases e;refine N (λ_=>Gq) (λ_=>.inl Xb) (.inr {_,l.toArray,_,G,111,by rw[Tp,ag];exact T,by simpa using W}) (λa u g=>by have z:(Gq:Option HO)/u:=g;cases z) (λa g=>absurd rfl g) λg=>absurd rfl g
 |none=>
  refine N (λa=>if a=f then Ga (.frz {cls:=.type "list",data:=.seq l.toArray} (.lst (w.map V.int)))else Gq) (λa=>?_) (.inl (.inr {{cls:=.type "list",data:=.seq l.toArray},GX Xb})) (λa u g=>?_) (λa g=>?_) λ_=>G
  .by_cases i:a=f
   .exact .inr {2,GX i}
   .exact .inl (Gs i)
  .by_cases i:a=f
   .have z:=(GX i).symm.trans g;cases z;subst i;exact{A,by rw[Gv];exact T,l,_,W,A}
   .have z:=(Gs i).symm.trans g;cases z
  .by_cases i:a=f
   .exact i
   .exact absurd (Gs i) g
theorem QU{l:M9}{n:Nat}{q:Gn}{i:List TM}{L:(TM->Option Gj)->Heap->Prop}{I:Tf->Heap->Prop}{d:CU}{K:CV->Gd}{CX:Tf->iQ}{sp:Tf->Sp}
  (S:l.most/n)(C:n<=TF)(A:d.params.defaults=[])(T:Yj k callerA)
  (O:∀(w:Tf)(h:Heap),I w h->(K w.params).In h)
  (F:∀(w:Tf)(j:TM->Option Gj)(r:Ge)(h:Heap),(K w.params).In h->h.Ns D4 j->j d.name/↑r->
   ∃y:Dn,(∀(s:Gy)(u:Gj),RD s y {[u],[]} [(x,u)])/\
    ∀b:Heap,(K w.params).In b->b.Ns D4 j->Q3 l.prog w (K w.params) j b (CX w) k r y [x] (sp w))
  (D:∀(w:Tf)(H:Hp)(a:Ge)(t:List Int),⇑t<=n->rG H->Jf (K w.params) H a (t.map V.int)->sp w [↑a] H (λv _=>v=.bl Gi) λ_ _ _=>False)
  (z:∀(w:Tf)(H:Hp)(s:Gy)(e:Gj)(E:Gy),CX w [] H s (λ_ _ _=>False) e E->False):
  Cv q i L I l.row.toRowW d [] (λf J=>ML f J):=by
 refine Att.US S A λw b p j Z r o pm U M a J t G Y X W Q B m g c R=>?_;have KX:=O w _ Y;have(y,P,N):=F w j r _ KX G.T.g B;exact Pv KX G.T.g G.T.b G.T.builtins G.T.nolimit R m g (Dl c C) T N P (λH b o=>D w H a t c b o) λH e E=>z w H p e E
abbrev Ya:iQ:=λ_ _ _ _ _ _=>False
abbrev E0:XK:=λ_ _ _=>False
theorem Q5{X:Cx}:Rc Ya X E0:=λ_ _ _ _ _ _ _ h=>h.elim
structure Wd(K:Gd)(x qual:TM)(st:DQ)(f:Ge)(fd:Dn):Prop where
 ex:∃(oc:Gj)(od:Option Ge)(kV doc pm:Gj)(an:Option Ge)(cdv ct:Gj)(osl:Array (Option Gj)),
  fd=Et x qual (Vm st) (Q9 st) (Qo st) .none kV doc pm an cdv ct/\K.lookup f=Ga {oc,od,.func fd,osl}/\FL K cdv qual=Gi
 kp:DX K ↑f=Gi
section
variable{P:Gn}{w:Tf}{K:Gd}{mg:TM->Option Gj}{base:Heap}
theorem Wd.ok{N j:List TM}{l:Sp}(F:Wd K x qual st f fd)(S:Q7 N j (Qo st))(i:∀d H Q E,l d H Q E->⇑d=⇑j)
  (c:∀(b:Gj)(A:DS)(a:List Bm)(s:Gy)(H:Hp)(d:List V)(Q:VK)(E:XK),Yj k (A.deeper (envOfC qual (Qo st) s.heap.objs.size f b))->l d H Q E->
   ∃t,Xu (jF Ya P w K mg base N qual (Qo st) f b A a s H E).nox (Q9 st) t/\t {nx:=λ_ H'=>Q .non H',rt:=Q} (start N d) H):Q3 P w K mg base Ya (k+1) f fd j l:=by
 have(v,y,kV,m,z,r,b,u,p,rfl,o,e):=F.ex;refine Q6t o e S i λA a s H d Q E n g=>?_;have(t,h,q):=c b A a s H d Q E n g;exact{t,h.nox,q}
theorem Wd.binds{e:List TM}(F:Wd K x qual st f fd)
  (h:∀(kV b d:Gj)(c:Option Ge)(a ct:Gj)(g:List Gj),⇑g=⇑e->bindArgs (Et x qual (Vm st) (Q9 st) (Qo st) .none kV b d c a ct) {g,[]}=pure (e.zip g)):zk K fd e []:=by
 have(k,l,kV,b,d,c,a,ct,i,rfl,j,g):=F.ex;exact .all (h kV b d c a ct)
theorem An{h:Gj}{i e:Option Ge}{d:Array (Option Gj)}{kV b g a ct:Gj}(l:K.lookup f=Ga {h,i,.func (Et x qual (Vm st) (Q9 st) (Qo st) .none kV b g e a ct),d})
  (c:FL K a qual=Gi)(k:DX K ↑f=Gi):Wd K x qual st f (Et x qual (Vm st) (Q9 st) (Qo st) .none kV b g e a ct):={⟨h,i,kV,b,g,e,a,ct,d,Xb,l,c⟩,k}
end
theorem Ju{A:DS}(a:Yj k A):A.units+1<ET:=Sd (Nat.add_le_add_left (by decide:1<=64) _) a.units
section
variable{X:Cx}
theorem pv(i:Nat){b:M4}(c:X.N[i]?/x:=by rfl)(e:qx X.env.scope x:=by infer_instance)(d:(x==("__debug__":TM))=Gx:=by decide)
  (a:(x==("__classdict__":TM))=Gx:=by decide):PE X (.Name x b) (Uj i):=Q2b c e d a
theorem Q4(h:B):if Gx=Gi then A else B:=by rw[Gs TC];exact h
theorem Yo(h:A):if Gi=Gi then A else B:=by rw[GX rfl];exact h
theorem Us{c:Prop}[Decidable c](a:c->A)(b:¬c->B):if c then A else B:=by
 by_cases h:c
 .rw[GX h];exact a h
 .rw[Gs h];exact b h
theorem jU{c:Prop}[Decidable c](a:c)(h:B):if(!decide c)=Gi then A else B:=by rw[Tg a];exact Q4 h
def Za(H H':Hp):Prop:=∀b o,H b/o->H' b/o
theorem Za.trans{d e:Hp}(a:Za H d)(b:Za d e):Za H e:=λc o h=>b c o (a c o h)
theorem Za.free{a:Hp}(e:Za H a){l:Ge}(h:a l=Hv):H l=Hv:=by
 cases q:H l with
 |none=>rfl
 |some o=>rw[e l o q]at h;cases h
theorem Za.seq{K:Gd}{b:Hp}{a:Ge}{c:List V}(e:Za H b)(h:Jf K H a c):Jf K b a c:=by
 rcases h with(h|⟨o,h⟩)|h
 .exact .inl (.inl (e _ _ h))
 .exact .inl (.inr {o,e _ _ h})
 .exact .inr h
theorem WC:Up X (.builtin "len") (λxs H Q=>∃a b,xs=[V.ref a]/\H a/.dK b/\Q (.int ⇑b) H):=by intro c s j H xs i Q I r h;have(a,b,rfl,e,q):=h;have(u,rfl,f):=vals1 r;cases f;exact Q5y I (.inl e) λt g d=>{.int ⇑b,H,d,⟨t,Xb⟩,q}
end
end L2
namespace Sb
inductive jA{a:Type}(p:a->Prop):Prop|mk a1:p a1->jA p
inductive kz{a b:Type}(p:a->b->Prop):Prop|mk a1 b1:p a1 b1->kz p
inductive jN{a b c:Type}(p:a->b->c->Prop):Prop|mk a1 b1 c1:p a1 b1 c1->jN p
inductive iy{a b c d:Type}(p:a->b->c->d->Prop):Prop|mk a1 b1 c1 d1:p a1 b1 c1 d1->iy p
inductive iO{a b c d e:Type}(p:a->b->c->d->e->Prop):Prop|mk a1 b1 c1 d1 e1:p a1 b1 c1 d1 e1->iO p
inductive iW{a b c d e f:Type}(p:a->b->c->d->e->f->Prop):Prop|mk a1 b1 c1 d1 e1 f1:p a1 b1 c1 d1 e1 f1->iW p
inductive zl{a b c d e f g:Type}(p:a->b->c->d->e->f->g->Prop):Prop|mk a1 b1 c1 d1 e1 f1 g1:p a1 b1 c1 d1 e1 f1 g1->zl p
inductive qb{a b c d e f g h:Type}(p:a->b->c->d->e->f->g->h->Prop):Prop|mk a1 b1 c1 d1 e1 f1 g1 h1:p a1 b1 c1 d1 e1 f1 g1 h1->qb p
inductive pR{a b c d e f g h i:Type}(p:a->b->c->d->e->f->g->h->i->Prop):Prop|mk a1 b1 c1 d1 e1 f1 g1 h1 i1:p a1 b1 c1 d1 e1 f1 g1 h1 i1->pR p
inductive vq{a b c d e f g h i j:Type}(p:a->b->c->d->e->f->g->h->i->j->Prop):Prop|mk a1 b1 c1 d1 e1 f1 g1 h1 i1 j1:p a1 b1 c1 d1 e1 f1 g1 h1 i1 j1->vq p
inductive oU{a b c d e f g h i j k l m:Type}(p:a->b->c->d->e->f->g->h->i->j->k->l->m->Prop):Prop|mk a1 b1 c1 d1 e1 f1 g1 h1 i1 j1 k1 l1 m1:p a1 b1 c1 d1 e1 f1 g1 h1 i1 j1 k1 l1 m1->oU p
inductive nM(a b:Prop):Prop|mk:a->b->nM a b
inductive lB(a b c:Prop):Prop|mk:a->b->c->lB a b c
inductive jK(a b c d:Prop):Prop|mk:a->b->c->d->jK a b c d
inductive jn(a b c d e:Prop):Prop|mk:a->b->c->d->e->jn a b c d e
inductive mj(a b c d e f:Prop):Prop|mk:a->b->c->d->e->f->mj a b c d e f
inductive jz(a b c d e f g:Prop):Prop|mk:a->b->c->d->e->f->g->jz a b c d e f g
inductive ij(a b c d e f g h:Prop):Prop|mk:a->b->c->d->e->f->g->h->ij a b c d e f g h
inductive lJ(a b c d e f g h i:Prop):Prop|mk:a->b->c->d->e->f->g->h->i->lJ a b c d e f g h i
inductive rd(a b c d e f g h i j k l:Prop):Prop|mk:a->b->c->d->e->f->g->h->i->j->k->l->rd a b c d e f g h i j k l
inductive lW(a b c d e f g h i j k l m n:Prop):Prop|mk:a->b->c->d->e->f->g->h->i->j->k->l->m->n->lW a b c d e f g h i j k l m n
inductive rX(a b c d e f g h i j k l m n o:Prop):Prop|mk:a->b->c->d->e->f->g->h->i->j->k->l->m->n->o->rX a b c d e f g h i j k l m n o
theorem hid{G:Prop}(f:(g:Prop)->(G->g)->g):G:=f G id
end Sb
namespace L2
open PySem
variable{X:Cx}{scope:M3}{fv:List (Nat×TM)}{env:Bm}{zq:List (Ge×SR)}{σ:St}{H:Hp}{own:List TM}{xs:List V}
def inB(s:DQ):List DQ:=match s with
 |.If _ a _ _=>a
 |.While _ a _ _=>a
 |.For _ _ a _ _=>a
 |_=>[]
def elB(s:DQ):List DQ:=match s with
 |.If _ _ a _=>a
 |_=>[]
noncomputable def sub:List Nat->List DQ->List DQ
 |i::k::p,l=>sub p (match l.drop i,k with|[],_=>[]|s::_,0=>inB s|s::_,_=>elB s)
 |[i],l=>l.drop i
 |[],l=>l
open PySem PySem.Spec PyProof.Rows
noncomputable def ccx(X:Cx)(N:List TM)(scope:M3)(a:List (TM×Ge))(C:Ge)(fp:List Ge)(s:Gy)(H:Hp):Cx where
 prog:=X.prog
 w:=X.w
 K:=X.K
 mg:=X.mg
 base:=X.base
 A:=X.A
 N:=N
 s₀:=s
 H₀:=H
 env:=compEnvC scope a C X.env
 outer:=X.stack
 stack:=X.stack
 ex:=fp
 calm:=X.calm
 fn:=λ_=>Gx
 pn:=[]
 xe:=λ_ _=>False
inductive FV(X:Cx)(scope:M3):List (Nat×TM)->Prop
 |nil:FV X scope []
 |cons {j:Nat} {x:TM} {r:List (Nat×TM)}:X.N[j]?/x->(X.env.scope.names.lookup x/.cell\/X.env.scope.names.lookup x/.free)->scope.names.lookup x/.free->FV X scope r->FV X scope ((j,x)::r)
theorem FV.get{k j:Nat}{x:TM}(h:FV X scope fv)(e:fv[k]?/(j,x)):
  X.N[j]?/x/\(X.env.scope.names.lookup x/.cell\/X.env.scope.names.lookup x/.free)/\scope.names.lookup x/.free:=by
 induction h generalizing k with
 |nil=>cases e
 |cons a b c _ d=>cases k with
  |zero=>cases e;exact⟨a,b,c⟩
  |succ=>exact d e
theorem Um{env:Bm}:∀{names:List (TM×Fp)}{x:TM},names.lookup x/.free->
  (names.map λ(n,k)=>if(k==Dw&&env.scope.kind==.function&&env.kindOf n==Ga .cell)then(n,Mu)else(n,k)).lookup x/.cell\/
  (names.map λ(n,k)=>if(k==Dw&&env.scope.kind==.function&&env.kindOf n==Ga .cell)then(n,Mu)else(n,k)).lookup x/.free
 |[],_,h=>by simp at h
 |(n,k)::r,x,h=>by
  have b:=@Um env r x;rw[Tt];dsimp only;cases hx:x==n with
  |true=>
   simp -iota only [DO,hx]at h;cases h;by_cases a:(Dw==Dw&&env.scope.kind==.function&&env.kindOf n==Ga .cell)=Gi
   .left;rw[GX a];simp only[DO,hx]
   .right;rw[Gs a];simp only[DO,hx]
  |false=>
   simp -iota only [DO,hx]at h;by_cases a:(k==Dw&&env.scope.kind==.function&&env.kindOf n==Ga .cell)=Gi
   .rw[GX a];simp -iota only [DO,hx];exact b h
   .rw[Gs a];simp -iota only [DO,hx];exact b h
theorem Jo{env:Bm}:∀{names:List (TM×Fp)}{x:TM},
  ((names.map λ(n,k)=>if(k==Dw&&env.scope.kind==.function&&env.kindOf n==Ga .cell)then(n,Mu)else(n,k)).lookup x/.cell\/
  (names.map λ(n,k)=>if(k==Dw&&env.scope.kind==.function&&env.kindOf n==Ga .cell)then(n,Mu)else(n,k)).lookup x/.free)->
  names.lookup x/.cell\/names.lookup x/.free
 |[],_,h=>by simp at h
 |(n,k)::r,x,h=>by
  have c:=@Jo env r x;rw[Tt]at h;dsimp only at h;cases hx:x==n with
  |true=>
   by_cases a:(k==Dw&&env.scope.kind==.function&&env.kindOf n==Ga .cell)=Gi
   .right;have d:(k==Dw)=Gi:=(EU.mp (EU.mp a).1).1;have b:k=.free:=by simpa using d
    simp only[DO,hx,b]
   .rw[Gs a]at h;simp -iota only [DO,hx]at h⊢;exact h
  |false=>
   by_cases a:(k==Dw&&env.scope.kind==.function&&env.kindOf n==Ga .cell)=Gi
   .rw[GX a]at h;simp -iota only [DO,hx]at h⊢;exact c h
   .rw[Gs a]at h;simp -iota only [DO,hx]at h⊢;exact c h
theorem Qnj(names:List (TM×Fp))(b:List (TM×Ge))(j:∀x,(x,Dw)∈names->∃c,env.cells.lookup x/c)(l:∀x c,b.lookup x/c->env.cells.lookup x/c):
  ∃f:List (TM×Ge),(forIn names b (λ(x:TM×Fp)(b:List (TM×Ge))=>if x.2==Dw then(cellOf env x.1>>=λc=>pure (E6 ((x.1,c)::b)))else pure (E6 b)):JY (List (TM×Ge)))=pure f/\
   (∀x c,f.lookup x/c->env.cells.lookup x/c)/\(∀x,(∃c,b.lookup x/c)\/(x,Dw)∈names->∃c,f.lookup x/c):=by
 induction names generalizing b with
 |nil=>exact{b,1,l,λx h=>h.elim id λz=>nomatch z}
 |cons p r s=>
  have(n,k):=p;rw[LP];by_cases m:k=.free
  .subst m;have(c,o):=j n Tc;have e:cellOf env n=pure c:=by unfold cellOf;rw[o]
   have(f,g,h,i):=s ((n,c)::b) (λx a=>j x (Gr _ a)) (λx d a=>by
    rw[DO]at a;cases q:x==n with
    |true=>
     rw[q]at a;have t:x=n:=by simpa using q
     rw[t,o];exact a
    |false=>rw[q]at a;exact l x d a)
   refine{f,?_,h,λx a=>i x ?_}
   .simp -iota only [Ls,Mm,e,pure_bind];exact g
   .rcases a with⟨d,t⟩|a
    .left;rw[DO];cases q:x==n with
     |true=>exact{40}
     |false=>exact⟨d,t⟩
    .rcases Ti.mp a with z|z
     .left;have:x=n:=congrArg Prod.fst z;subst this;exact{c,by simp -iota [DO]}
     .exact .inr z
  .have e:(k==Dw)=Gx:=by simpa using m
   have(f,g,h,i):=s b (λx a=>j x (Gr _ a)) l;refine{f,?_,h,λx a=>i x ?_}
   .simp -iota only [e,DK,Ey,pure_bind];exact g
   .rcases a with z|z
    .exact .inl z
    .rcases Ti.mp z with z|z
     .exact absurd (congrArg Prod.snd z).symm m
     .exact .inr z
theorem QY(i:∀x,(x,Dw)∈scope.names->∃c,env.cells.lookup x/c):
  ∃a:List (TM×Ge),closureFor scope env=pure a/\(∀x c,a.lookup x/c->env.cells.lookup x/c)/\(∀x,(x,Dw)∈scope.names->∃c,a.lookup x/c):=by
 have(a,d,f,g):=Qnj (env:=env) scope.names [] i (λx c h=>by simp at h);refine{a,?_,f,λx j=>g x (.inr j)};have e:closureFor scope env=((forIn scope.names ([]:List (TM×Ge)) (λ(x:TM×Fp)(b:List (TM×Ge))=>if x.2==Dw then(cellOf env x.1>>=λc=>pure (E6 ((x.1,c)::b)))else pure (E6 b)):JY (List (TM×Ge)))>>=λb=>pure b):=rfl;rw[e,d];rfl
noncomputable def Iq(n:Nat)(a:List (Nat×TM))(σ:St):St:=DV n Gq++a.map λq=>(σ[q.1]?).join
theorem P1{s:Gy}{A:List (TM×Ge)}{B:List Ge}{t:Heap}{ob:SR}{J:TM->Option Gj}{t':Nat}
  (c:zv X zq σ H s)(P:scope.kind=.function)(F:FV X scope fv)(m:∀x d,A.lookup x/d->X.env.cells.lookup x/d)(E:∀x,(x,Dw)∈scope.names->∃d,A.lookup x/d)
  (T:∀y∈scope.names,y.2≠.cell)(v:∀b∈B,ix X zq H b)(R:∀b∈B,b<s.heap.objs.size)
  (S:t.Ns s.heap.objs.size J)(V:Eu s.heap.objs.size (s.heap.push ob) t):
  zv (ccx X (own++fv.map (·.2)) scope A s.heap.objs.size B s H) [] (Iq ⇑own fv σ) H {s with heap:=t,toks:=t'}:=by
 have z:∀b u,s.heap.get? b/u->t.get? b/u:=λb u e=>(V.2 b (T2 (Tk e))).trans (Gp _ e);have N:∀x,(scope.names.lookup x/.cell\/scope.names.lookup x/.free)->(x,Dw)∈scope.names:=λx g=>by
  rcases g with g|g
  .exact absurd rfl (T _ (Ek g))
  .exact Ek g
 exists ⟨c.ok.mod,P,c.ok.glob,c.ok.blt,Gz _,λx y d f a=>c.ok.inj x y d (m x d f) (m y d a),λx g=>E x (N x (Jo (env:=X.env) g)),λ_ _ g _=>(TC g).elim,
   c.ok.hd,c.ok.frames,.inl Xb,λb k=>{T2 (R b k),λx d e=>(v b k).2.2.2.2.1 x d (m x d e)},c.bs,Dl c.ok.bsz c.sz,λb o e k=>?_,λb k O=>?_,c.stack,c.xH⟩,
  Xb,c.bare,Un.kept z,{J,S,λi x l f a e3=>?_},λx d e=>?_,c.Ye.fresh (Gz _),λx d e=>c.Iz x d (m x d e),λp U=>absurd (show p∈([]:List (Ge×SR))from U) ⋯,c.Ye.kept z
 .rcases(v b k).2.2.2.1 with h|h
  .exact c.ok.Qv1 b o e h
  .exact absurd (TV (Tk e) (Dl c.ok.bsz h)) (EC _)
 .rcases Ti.mp (c.oA b O)with h|h
  .exact(v b k).2.1 h
  .exact(v b k).2.2.1 h
 .have f:(own++fv.map (·.2))[i]?/x:=f;by_cases hi:i<⇑own
  .have a:(Iq ⇑own fv σ)[i]?/Ga l:=a;unfold Iq at a;rw[TB (by simpa using hi),MF]at a;split at a<;>cases a
  .have a:(Iq ⇑own fv σ)[i]?/Ga l:=a;unfold Iq at a;rw[TU (by simpa using hi),Sk,Tq]at a;rw[TU (by lia),Tq]at f;cases q:fv[i - ⇑own]? with
   |none=>rw[q]at f;cases f
   |some p=>
    have(j,y):=p;rw[q]at f a;have f:Ga y/x:=f;cases f;have a:Ga (σ[j]?).join/Ga l:=a;have a:=T3 a;have(M,n,G):=F.get q;have L:σ[j]?/Ga l:=by
     cases r:σ[j]? with
     |none=>rw[r]at a;cases a
     |some h=>rw[r]at a;exact congrArg Ga a
    have(m0,aa,Q):=c.loc;have(u,ru,Z):=Q j x l M L (.inr n);exists u,ru;rcases Z with⟨w,_⟩|⟨w,d,W,Y⟩
    .exfalso;have w:X.env.scope.names.lookup x/.local:=w;rcases n with n|n<;>(rw[w]at n;cases n)
    .obtain⟨K,I⟩:=E x (Ek G);have:=m x K I;rw[W]at this;cases this;refine .inr {Um (env:=X.env) G,d,I,?_};have(o,D,C):=Y;exact{o,z _ _ D,C}
 .obtain⟨l,o,D,C⟩:=c.cell x d (m x d e);exact{l,o,z _ _ D,C}
 .show ⇑(Iq own.length fv σ)=⇑(own++fv.map (·.2));unfold Iq;simp
def jH(X:Cx)(ifs:List D0)(t:TT):Prop:=
 ∀(zq:List (Ge×SR))(s:Gy)(σ:St)(H:Hp)(Q:Bool->Hp->Prop),zv X zq σ H s->t σ H Q->
  wpAny (TR X.prog X.w) X.A (forIn ifs Gi λc r=>if r=Gi then do let ok<-isTrue c X.env (eval c X.env);pure (E6 ok)else pure (E6 r)) (TP X zq σ Q) X.xe s
def mJ:TT:=λ_ H Q=>Q Gi H
theorem Wk:jH X [] mJ:=λa s b H Q I h=>wpAny_tests_nil ⟨H,I,h⟩
theorem m9{c:D0}{t:TT}(h:PT X c t):jH X [c] t:=λa s b H Q I hw=>wpAny_tests_one (h a s b H Q I hw)
section
variable{prog:Gn}{w:Tf}{A:DS}{R:C0->Gy->Prop}{s:Gy}
theorem Pi{o a iter:D0}{p:List D0}{y:M4}{z l:Gj}(I:Nat->Gy->Prop)
  (turn:∀n s,I n s->wpAny (TR prog w) A (pyNext z) (λr b=>match r with
   |none=>R (.ok .next) b
   |some v=>wpAny (TR prog w) A (letOwnedTupleGo a z v) (λ_ b=>wpAny (TR prog w) A (assign a env v) (λ_ i=>
     wpAny (TR prog w) A (forIn p Gi λc r=>if r=Gi then do let ok<-isTrue c env (eval c env);pure (E6 ok)else pure (E6 r)) (λok f=>
      if ok=Gi then wpAny (TR prog w) A (eval o env) (λx j=>wpAny (TR prog w) A (call (.builtin "list.append") [l,x]) (λ_ k=>∃m,m<n/\I m k) (λ_ _=>False) j) (λ_ _=>False) f
      else∃m,m<n/\I m f) (λ_ _=>False) i) (λ_ _=>False) b) (λ_ _=>False) b) (λ_ _=>False) s)
  (n:Nat)(h:I n s):
  codeAny (TR prog w) A (.compLoop (.ListComp o [{a,iter,p,(0)}] scope y) 0 z l env) R s:=by
 refine codeAny_loop rfl I (λn s B=>?_) n h;show wpAny _ A ((compTurn (.ListComp o [{a,iter,p,(0)}] scope y) 0 z l env).onRaise (λx=>do noteFrame x env;theTreesLotGoes x)) _ _ s;refine wpAny_noted ?_;rw[compTurn_list];refine Gb (NF (Gb (EN (turn n s B) (λr b d=>?_) λ_ _ e=>e.elim)));cases r with
 |none=>exact Gm d
 |some v=>
  refine Gb (EN d (λ_ b d=>?_) λ_ _ e=>e.elim);refine Gb (EN d (λ_ i q=>Gb (EN q (λok f g=>?_) λ_ _ e=>e.elim)) λ_ _ e=>e.elim);cases ok with
  |false=>exact Gm ⟨Xb,g⟩
  |true=>exact Gb (Gb (EN g (λx j t=>Gb (EN t (λ_ k u=>Gm (Gm ⟨Xb,u⟩)) λ_ _ e=>e.elim)) λ_ _ e=>e.elim))
end
def jL(p:Ge)(J:It)(g:TG)(tt:TT)(te:TE)(Q:Hp->Prop)(e:St)(j:Hp):Prop:=
 ∃W:Nat->Nat->St->Hp->Prop,(∃m,W 0 m e j)/\∀i m σ H,W i m σ H->
  (J.stop i H/\Q H)\/(J.go i H/\∃(N:V->St->Hp->Prop)(h:St->Hp->Prop),(∀v a H',N v a H'->∃ys,H' p/.lst ys/\⇑ys<TF/\∃d,d<m/\W (i+1) d a (zj H' p (.lst (ys++[v]))))/\
   (∀a H',h a H'->∃d,d<m/\W (i+1) d a H')/\
   ∀x H',J.yld i H x H'->g x σ H' λc H2=>tt c H2 λb f=>if b=Gi then te c f λv k=>N v c k else h c f)
def xA(n:Nat)(a:List (Nat×TM))(wi:TI)(g:TG)(tt:TT)(te:TE):TE:=λσ H Q=>wi σ H λJ H1=>∀p,H1 p=Gq->jL p J g tt te (λH'=>Q ↑p H') (Iq n a σ) (zj H1 p (.lst []))
section
variable{X:Cx}{elt tg iter:D0}{ifs:List D0}{scope:M3}{pos:M4}{wi:TI}{g:TG}{tt:TT}{te:TE}
structure X8(esc scope:M3):Prop where
 kind:scope.kind=.function
 Qwx:∀y∈scope.names,y.2≠.cell
 loc:∀x∈scope.names,x.2=.local->scope.names.lookup x.1/.local
 fre:∀y∈scope.names,y.2=.free->esc.names.lookup y.1/.cell\/esc.names.lookup y.1/.free
theorem uF{t:Hp}{c:Gy}{it:Ge}{e:List Ge}{I:Nat->Heap->Prop}{ai:It}{k:List (TM×Ge)}{Q:VK}{RR:Gj->Ge->C0->Gy->Prop}{ah:Gj->Gy->Prop}
  (hc:X.calm=Gi)(S:X8 X.env.scope scope)(F:FV X scope fv)(c1:∀x v,k.lookup x/v->X.env.cells.lookup x/v)(c2:∀x,(x,Dw)∈scope.names->∃v,k.lookup x/v)
  (hg:∀k f e s G,PG (ccx X (own++fv.map (·.2)) scope k f e s G) tg g)(ht:∀k f e s G,jH (ccx X (own++fv.map (·.2)) scope k f e s G) ifs tt)(he:∀k f e s G,PE (ccx X (own++fv.map (·.2)) scope k f e s G) elt te)
  (T:zv X zq σ t c)(o:jc X.prog X.w X.K tg ai e it I)(ae:I 0 c.heap)(f2:∀b∈e,ix X zq t b)
  (q:∀p,t p=Gq->jL p ai g tt te (λH'=>Q ↑p H') (Iq ⇑own fv σ) (zj t p (.lst [])))
  (ax:∀(p f:Ge)(H':Hp)(C:Gy),zv X zq σ H' C->(∃N,C.heap.Ns f N)->ix X zq H' f->Q ↑p H'->RR ↑p f (.ok .next) C):
  wpAny (TR X.prog X.w) X.A (newList []) (λaj az=>wpAny (TR X.prog X.w) X.A (newFunctionEnv scope X.env.globals k [] X.env.qual Gq .none (Ga X.env)) (λak aA=>codeAny (TR X.prog X.w) X.A (.compStart (.ListComp elt [{tg,iter,ifs,(0)}] scope pos) 0 ↑it aj {ak with scope:=relabel scope X.env}) (RR aj ak.locals) aA) ah az) ah c:=by
 have q:=q c.heap.objs.size (T.Ye.fresh (Gz _));have L:=T.vi (ys:=[]) (its:=[]) (t':=c.toks) .nil (Ts _);have aC:t c.heap.objs.size=Gq:=T.Ye.fresh (Gz _);refine DA (wpAny_newFunctionEnv S.Qwx (by intro y M;simp at M) (λan ay am=>?_) S.kind);have r:∀b∈e,ix X zq (zj t c.heap.objs.size (.lst [])) b:=λb a=>by have(B,j,_):=o.obj 0 _ ae b a;exact{by rw[Qh (T2 (Tk j))];exact(f2 b a).1,(f2 b a).2}
 have ac:∀b∈e,b<(c.heap.push {cls:=.type "list",data:=.seq ([]:List Gj).toArray}).objs.size:=λb a=>by have(B,j,_):=o.obj 0 _ ae b a;exact Tk (Gp _ j)
 have aq:I 0 an:=o.keep 0 _ _ ae λb a B j=>(am.2 b (T2 (ac b a))).trans (Gp _ (Gp _ j));have I4:=P1 (own:=own) (fv:=fv) (t':=c.toks+⇑([]:List (TM×Gj))) L S.kind F c1 c2 S.Qwx r ac ay am;have(W,(m0,w0),turn):=q;generalize hC:(c.heap.push {cls:=.type "list",data:=.seq ([]:List Gj).toArray}).objs.size=f at*;have ao:codeAny (TR X.prog X.w) X.A (.compLoop (.ListComp elt [{tg,iter,ifs,(0)}] scope pos) 0 ↑it ↑c.heap.objs.size (compEnvC scope k f X.env)) (RR ↑c.heap.objs.size f)
   {c with heap:=an,toks:=c.toks+⇑([]:List (TM×Gj))}:=by
  generalize l:ccx X (own++fv.map (·.2)) scope k f e {c with heap:=c.heap.push {cls:=.type "list",data:=.seq ([]:List Gj).toArray}} (zj t c.heap.objs.size (.lst []))=h at I4;have ag:∀{H':Hp},(∀b∈e,H' b=Gq)->∀b∈e,ix h [] H' b:=λ{H'}hn b a=>by
   subst l;refine{hn b a,T2 (ac b a),λE=>?_,.inl a,λx v j=>(r b a).2.2.2.2.1 x v (c1 x v j),λp hp=>absurd (show p∈([]:List (Ge×SR))from hp) ⋯};rcases Ti.mp (L.oA b E)with E|E
   .exact(r b a).2.1 E
   .exact(r b a).2.2.1 E
  have V:h.prog=X.prog:=by subst l;rfl
  have Y:h.w=X.w:=by subst l;rfl
  have eK:h.K=X.K:=by subst l;rfl
  have U:h.A=X.A:=by subst l;rfl
  have eC:h.calm=Gi:=by subst l;exact hc
  have eE:h.env=compEnvC scope k f X.env:=by subst l;rfl
  have ex:h.xe=λ_ _=>False:=by subst l;rfl
  have aa:PG h tg g:=by subst l;exact hg _ _ _ _ _
  have ab:jH h ifs tt:=by subst l;exact ht _ _ _ _ _
  have Z:PE h elt te:=by subst l;exact he _ _ _ _ _
  unfold PG at aa;unfold jH at ab;unfold PE at Z;rw[V,Y,U,eE,ex]at aa ab Z;refine Pi (λn C=>∃i J H',zv h [] J H' C/\I i C.heap/\(∀b∈e,H' b=Gq)/\W i n J H') ?_ m0 {(0),2,I4,aq,λb a=>(r b a).1,w0};rintro n s3 ⟨i,R,w,J3,ap,al,w3⟩;rcases turn i n R w w3 with⟨stop,qn⟩|⟨go,aB,N',hN,aw,step⟩
  .have d:=o.done h V Y eK eC i [] s3 R w (λ_ _=>False) J3 (ag al) ap stop;rw[U]at d;refine Xd d λad s4 m=>?_;have(hr,z):=m;subst hr;show RR _ f (.ok .next) s4;have u:=z.base;have Ye:=z.Ye;have os:=z.os;have au:=z.bare;have(m4,n4,_):=z.loc;have fC:=z.free;subst l;have I5:zv X zq σ w s4:=L.WA (ch:=e) os u Ye au λb a=>{(r b a).2.2.2.1,(r b a).2.1,(r b a).2.2.2.2.1,(r b a).2.2.2.2.2};refine ax _ f w s4 I5 ⟨m4,n4⟩ ?_ qn;rw[<-hC];exact L.jh (Gz _) (by show w _=Gq;rw[hC];exact fC)
  .have d:=o.item h V Y eK eC i [] s3 R w (λ_ _=>False) J3 (ag al) ap go;rw[U]at d;refine Xd d λad s4 m=>?_;have(u,hr,h4):=m;subst hr;refine Xd h4 λ_ s5 m=>?_;have(x,H5,J5,r5,y5,af,av):=m;have ar:=J5.pinned (ag av) (o.obj _ _ af);refine Xd (aa _ s5 R H5 x u _ ar r5 (step x H5 y5)) λ_ s6 m=>?_;have(K,H6,J6,q6):=m;refine Xd (ab _ s6 K H6 _ J6 q6) λok s7 m=>?_;have(H7,J7,P):=m;have again:∀{D:Gy}{H:Hp},zv h ([]++lV e s5.heap) K H D->(∃O,O<n/\W (i+1) O K H)->∃N,N<n/\∃i J H',zv h [] J H' D/\I i D.heap/\(∀b∈e,H' b=Gq)/\W i N J H':=λ{D H}A⟨O,hm,w8⟩=>by refine{O,hm,i+1,K,H,A.om,o.keep _ _ _ af λb a B j=>(A.pin (b,B) (TJ _ (TJ _ (Ip a j)))).1,λb a=>?_,w8};have(B,j,d):=o.obj _ _ af b a;exact(A.pin (b,B) (TJ _ (TJ _ (Ip a j)))).2.1
   cases ok with
   |false=>rw[Gs TC]at P⊢;exact again J7 (aw _ _ P)
   |true=>rw[GX rfl]at P⊢;refine Xd (Z _ s7 K H7 _ J7 P) λxv D m=>?_;have(aD,H,A,r8,q8):=m;have(ys,M,hz,q8):=hN _ _ _ q8;have(E,its,n',ad,hl,j):=A.ju M;refine NN Tv {_,j,1} BW (BB _ _) (RG c.heap.objs.size its.toArray n' xv (by rw[Tp];lia)) {j,?_};refine again (A.n7 (its':=its++[xv]) (t':=D.toks) M j ⋯ (ad.append (.cons r8 .nil)) ?_) q8;rw[Gk,GQ];lia
 exact codeAny_compStart_list ao (o.self X.A 0 _ _ _ aq ao)
theorem A6{s:Gy}(S:X8 X.env.scope scope)(I:zv X zq σ H s):
  ∃a:List (TM×Ge),closureFor scope X.env=pure a/\(∀x c,a.lookup x/c->X.env.cells.lookup x/c)/\(∀x,(x,Dw)∈scope.names->∃c,a.lookup x/c):=
 QY λx b=>I.ok.has x (S.fre (x,.free) b Xb)
theorem Ua(E:X.calm=Gi)(S:X8 X.env.scope scope)(F:FV X scope fv)(hi:PI X tg iter wi)
  (K:∀c C d s H,PG (ccx X (own++fv.map (·.2)) scope c C d s H) tg g)(ht:∀c C d s H,jH (ccx X (own++fv.map (·.2)) scope c C d s H) ifs tt)(G:∀c C d s H,PE (ccx X (own++fv.map (·.2)) scope c C d s H) elt te)
  (hs:∀x,foldedSetIterable iter X.env x=pure x:=by intro _;rfl):PE X (.ListComp elt [{tg,iter,ifs,(0)}] scope pos) (xA ⇑own fv wi g tt te):=by
 intro a s n H Q I h;rw[eval_ListComp];have(c,i,w,y):=A6 S I;refine Mv (use:=Gq) rfl hs i S.kind S.loc (Xd (hi a s n H _ I h) λv U A=>Xd A λM V B=>?_);have(R,d,W,J,O,e,u,T,l,z,q):=B;subst e;refine uF (Q:=Q) (RR:=λb C=>compPost (TR X.prog X.w) X.A X.xe Gq (EP X a n Q) b C) E S F w y K ht G u T l z q λp C r N t j f L=>?_;have(m,j):=j;refine{m,j,λP k=>{↑p,r,?_,1,L}};exact t.turned (t':=N.toks) (λb o D e=>(k.2 b D).trans e) f.1 f.2.1 f.2.2.2.1 f.2.2.2.2.1 f.2.2.2.2.2
theorem Uz{i:Nat}{y:TM}{f z:M4}(R:X.N.Nodup)(Z:X.N[i]?/y)(w:X.env.scope.names.lookup y/.local)(U:X.calm=Gi)(S:X8 X.env.scope scope)(F:FV X scope fv)(hi:PI X tg iter wi)
  (Y:∀d a e s b,PG (ccx X (own++fv.map (·.2)) scope d a e s b) tg g)(ht:∀d a e s b,jH (ccx X (own++fv.map (·.2)) scope d a e s b) ifs tt)(W:∀d a e s b,PE (ccx X (own++fv.map (·.2)) scope d a e s b) elt te)
  (ab:swapsWith (.ListComp elt [{tg,iter,ifs,(0)}] scope pos) (Ga (.Name y f)) z.line X.env=pure Gi:=by rfl)
  (hs:∀x,foldedSetIterable iter X.env x=pure x:=by intro _;rfl):PS X (.Assign [.Name y f] (.ListComp elt [{tg,iter,ifs,(0)}] scope pos) z) (n9 (xA ⇑own fv wi g tt te) (Ui i)):=by
 intro o s A b l t N;rw[exec_Assign_Name_used _ _ _ _ ab];have(d,V,K,L):=A6 S t;refine Gb (NF (Gb ?_));show wpAny _ X.A (do let _<-comprehension (.ListComp elt [{tg,iter,ifs,(0)}] scope pos) scope X.env _ (newList []) Gx (eval iter X.env) (Ga (assign (.Name y f) X.env))) _ _ s;refine Gb (EN (Mv (use:=Ga (assign (.Name y f) X.env)) (Q:=λ_ k=>SP X o l .next k) rfl hs V S.kind S.loc (Xd (hi o s A b _ t N) λv s1 O=>Xd O λah s2 P=>?_)) (λ_ k n=>Gm (Gm n)) λ_ _ h=>h);have(it,e,tn,ag,H2,h,G,H,ae,M,q):=P;subst h;refine uF (Q:=λx C=>Ui i x A C l.nx) (RR:=λI a=>compPost (TR X.prog X.w) X.A X.xe (Ga (assign (.Name y f) X.env)) (λ_ k=>SP X o l .next k) I a) U S F K L Y ht W G H ae M q λp a B k D m c n=>?_;have(ac,m):=m;show wpAny _ X.A (assign (.Name y f) X.env ↑p) _ _ _;refine NZ (sD D R Z (.inl w) (v:=↑p) rfl (λad E r=>?_) (.inr w));have(u,r,j):=r;have Q:a≠u:=by
  rcases j with j|j
  .rw[j];exact c.2.1
  .exactλaf=>c.2.2.2.2.1 y u j af.symm
 refine{ac,m.sameBut r Q,λh' aa=>{_,B,?_,n}};exact E.turned (t':=ad.toks) (λJ ai T h=>(aa.2 J T).trans h) c.1 c.2.1 c.2.2.2.1 c.2.2.2.2.1 c.2.2.2.2.2
end
theorem Jx{K:Gd}{a p:Ge}{g:TG}{t:TE}{Q:Hp->Prop}{j:St}{o:Hp}(h:⇑xs<=TF)(d:Nat->List V->St->Hp->Prop)(A:d 0 [] j (zj o p (.lst [])))
  (C:∀i b c H,i<=⇑xs->d i b c H->hB K H a xs)
  (hs:∀i x b c H,xs[i]?/x->⇑b=i->d i b c H->H p/.lst b->g x c H λk H2=>t k H2 λv r=>r p/.lst b/\d (i+1) (b++[v]) k (zj r p (.lst (b++[v]))))
  (B:∀b c H,⇑b=⇑xs->d ⇑xs b c H->H p/.lst b->Q H):jL p (jo K a) g mJ t Q j (zj o p (.lst [])):=by
 exists λi m c H=>m=⇑xs - i/\i<=⇑xs/\∃b,⇑b=i/\d i b c H/\H p/.lst b,{⇑xs,by simp,Ts _,[],1,A,Qb};rintro i m c H ⟨rfl,hi,b,n,pv,s⟩;have q:=C i b c H hi pv;by_cases f:i<⇑xs
 .refine .inr {{xs,xs[i],q,by simp -iota [f]},λv h l=>l p/.lst b/\d (i+1) (b++[v]) h (zj l p (.lst (b++[v]))),λ_ _=>False,λv h l⟨u,w⟩=>{b,u,by lia,⇑xs - (i+1),by lia,1,f,b++[v],by simp -iota [n],w,Qb},λ_ _ z=>z.elim,λx l y=>?_};have(e,y):=y;subst e;exact hs i x b c _ (y xs q) n pv s
 .have e:i=⇑xs:=by lia
  subst e;exact .inl {{xs,q,Gz _},B b c H n pv s}
theorem Of{K:Gd}{a p:Ge}{g:TG}{t:TE}{Q:Hp->Prop}{j:St}{o:Hp}(h:⇑xs<=TF)(d:Nat->List V->St->Hp->Prop)(A:d 0 [] j (zj o p (.lst [])))
  (C:∀i b c H,i<=⇑xs->d i b c H->Jf K H a xs)
  (hs:∀i x b c H,xs[i]?/x->⇑b=i->d i b c H->H p/.lst b->g x c H λk H2=>t k H2 λv r=>r p/.lst b/\d (i+1) (b++[v]) k (zj r p (.lst (b++[v]))))
  (B:∀b c H,⇑b=⇑xs->d ⇑xs b c H->H p/.lst b->Q H):jL p (iP K a) g mJ t Q j (zj o p (.lst [])):=by
 exists λi m c H=>m=⇑xs - i/\i<=⇑xs/\∃b,⇑b=i/\d i b c H/\H p/.lst b,{⇑xs,by simp,Ts _,[],1,A,Qb};rintro i m c H ⟨rfl,hi,b,n,pv,s⟩;have q:=C i b c H hi pv;by_cases f:i<⇑xs
 .refine .inr {{xs,xs[i],q,by simp -iota [f]},λv h l=>l p/.lst b/\d (i+1) (b++[v]) h (zj l p (.lst (b++[v]))),λ_ _=>False,λv h l⟨u,w⟩=>{b,u,by ext,⇑xs - (i+1),by ext,1,f,b++[v],by simp -iota [n],w,Qb},λ_ _ z=>z.elim,λx l y=>?_};have(e,y):=y;subst e;exact hs i x b c _ (y xs q) n pv s
 .have e:i=⇑xs:=by ext
  subst e;exact .inl {{xs,q,Gz _},B b c H n pv s}
mutual
inductive Dt(H:Hp):V->DI->Prop
 |non:Dt H .non .none
 |bl (b:Bool):Dt H (.bl b) (.bool b)
 |int (i:Int):Dt H (.int i) (.int i)
 |str (x:TM):Dt H (.str x) (.str x)
 |lst {a:Ge} {xs:List V} {ds:List DI}:H a/.lst xs->hF H xs ds->Dt H ↑a (.list ds)
 |tup {a:Ge} {xs:List V} {ds:List DI}:H a/.tup xs->hF H xs ds->Dt H ↑a (.tuple ds)
inductive hF(H:Hp):List V->List DI->Prop
 |nil:hF H [] []
 |cons {x:V} {xs:List V} {d:DI} {ds:List DI}:Dt H x d->hF H xs ds->hF H (x::xs) (d::ds)
end
theorem Dt.same{a:Hp}(e:Za H a){v:V}{d:DI}(h:Dt H v d):Dt a v d:=
 Dt.rec (motive_1:=λv d _=>Dt a v d) (motive_2:=λc b _=>hF a c b) .non .bl .int .str (λh _ t=>.lst (e _ _ h) t) (λh _ t=>.tup (e _ _ h) t) .nil (λ_ _ h t=>.cons h t) h
theorem hF.length{H:Hp}{b:List V}{a:List DI}(h:hF H b a):⇑b=⇑a:=
 hF.rec (motive_1:=λ_ _ _=>True) (motive_2:=λb a _=>⇑b=⇑a) ⟨⟩ (λ_=>⟨⟩) (λ_=>⟨⟩) (λ_=>⟨⟩) (λ_ _ _=>⟨⟩) (λ_ _ _=>⟨⟩) rfl (λ_ _ _ h=>congrArg JV h) h
theorem hF.get{a:List DI}{i:Nat}{x:V}(h:hF H xs a)(e:xs[i]?/x):∃d,a[i]?/d/\Dt H x d:=by
 induction i generalizing xs a with
 |zero=>cases h with
  |nil=>cases e
  |cons h=>cases e;exact{0,h}
 |succ i b=>cases h with
  |nil=>cases e
  |cons _ t=>exact b t e
theorem Dt.reads{P:Gn}{w:Tf}{h:Heap}(ok:O4 P w H h){v:V}{d:DI}(k:Dt H v d):∀{u:Gj},zu v u->∃c,FX h u d c:=by
 refine Dt.rec (motive_1:=λv d _=>∀{u:Gj},zu v u->∃c,FX h u d c) (motive_2:=λf j _=>∀{l:List Gj},Yl f l->∃c,LH h l j c) ?_ ?_ ?_ ?_ ?_ ?_ ?_ ?_ k
 .intro u r;cases(show u=DD from r);exact{[],.none}
 .intro b u r;cases(show u=Lm b from r);exact{[],.bool b}
 .intro i u r;have(t,e):=(show∃t,u=MD i t from r);cases e;exact{[],.int i t}
 .intro x u r;have(t,e):=(show∃t,u=ME x t from r);cases e;exact{[],.str x t}
 .intro a f j e _ p u r;have(_,q,n,s,m):=(show Yq P w H h a (.lst f)from ok a _ e);have(c,g):=p s;cases(show u=Tn a from r);exact{a::c,.list m rfl rfl (by simpa using g)}
 .intro a f j e _ p u r;have(_,q,s,o,m,b,n,y):=(show Yq P w H h a (.tup f)from ok a _ e);have(c,g):=p s;cases(show u=Tn a from r);exact{c,.tuple m b y (by simpa using g)}
 .intro l r;cases r;exact{[],.nil}
 .intro x f d j _ _ o y l r;cases r with
  |cons r A=>have(c,g):=o r;have(b,z):=y A;exact{c++b,.cons g z}
inductive wq(f:Bool->Bool)(x:V)(y:V)(H:Hp)(Q:VK):Prop
 |mk (dx:_) (dy:_) (h0:Dt H x dx) (h1:Dt H y dy) (h2:dx.canLay0=Gi) (h3:dy.canLay0=Gi) (h4:min dx.depth dy.depth<=64) (h5:Q (.bl (f (TX dx dy))) H):wq f x y H Q
def j8(f:Bool->Bool):R2:=λx y H Q=>wq f x y H Q
inductive sJ(f:Bool->Bool)(x:V)(y:V)(H:Hp)(Q:VK):Prop
 |mk (dx:_) (ds:_) (h0:Dt H x dx) (h1:Dt H y (.list ds)) (h2:dx.canLay0=Gi) (h3:Gw ds=Gi) (h4:min (TW ds) dx.depth<=63) (h5:Q (.bl (f (ds.any λd=>TX d dx))) H):sJ f x y H Q
def ud(f:Bool->Bool):R2:=λx y H Q=>sJ f x y H Q
section
variable{X:Cx}
theorem Jh(a:X.A.units+64<ET):hA X (Ed .Eq) (j8 λb=>b):=by intro a s r H x y v u Q I j k h;have(n,o,e,f,c,d,p,q):=h;have(l,g):=e.reads I.Ye j;have(m,i):=f.reads I.Ye k;exact Bt g i c d (by lia) {.bl _,H,I,1,q}
theorem O1(a:X.A.units+64<ET):hA X (Ed .NotEq) (j8 λb=>!b):=by intro a s r H x y v u Q I j k h;have(n,o,e,f,c,d,p,q):=h;have(l,g):=e.reads I.Ye j;have(m,i):=f.reads I.Ye k;exact Bu g i c d ∅ {.bl _,H,I,1,q}
theorem Q3w(a:X.A.units+64<ET):hA X (Ed .In) (ud λb=>b):=by intro a s r H x y v u Q I j k h;have(o,n,e,f,c,d,p,q):=h;have(l,g):=e.reads I.Ye j;have(m,i):=f.reads I.Ye k;exact BX i g d c ∅ {.bl _,H,I,1,q}
theorem ZH(a:X.A.units+64<ET):hA X (Ed .NotIn) (ud λb=>!b):=by intro a s r H x y v u Q I j k h;have(o,n,e,f,c,d,p,q):=h;have(l,g):=e.reads I.Ye j;have(m,i):=f.reads I.Ye k;exact Bo i g d c ∅ {.bl _,H,I,1,q}
inductive vt(K:Gd)(xs:List V)(H:Hp)(Q:VK):Prop
 |mk (x:_) (n:_) (t:_) (b:_) (h0:xs=[x,.ty n]) (h1:Rk K H x t) (h2:T1 K t (.type n)/b) (h3:Q (.bl b) H):vt K xs H Q
def Q70(K:Gd):List V->Hp->VK->Prop:=λxs H Q=>vt K xs H Q
theorem Zy:Up X (.builtin "isinstance") (Q70 X.K):=by intro a s k H j i Q I r h;have(x,n,t,b,rfl,ty,e,q):=h;have(u,g,rfl,c,d):=vals2 r;cases(show g=SV n from d);exact Qra I c ty e λf=>{.bl b,H,I.tok f,1,q}
inductive uX(K:Gd)(xs:List V)(H:Hp)(Q:VK):Prop
 |mk (x:_) (p:_) (n:_) (m:_) (t:_) (b:_) (h0:xs=[x,↑p]) (h1:H p/.tup [.ty n,.ty m]) (h2:Rk K H x (.type t)) (h3:Sg K (.type t) [.type n,.type m]/b) (h4:Q (.bl b) H):uX K xs H Q
def YJ(K:Gd):List V->Hp->VK->Prop:=λxs H Q=>uX K xs H Q
theorem SZ:Up X (.builtin "isinstance") (YJ X.K):=by intro a s M H P O Q I r h;have(x,p,n,m,t,b,rfl,z,ty,e,q):=h;have(u,L,rfl,F,G):=vals2 r;cases(show L=Tn p from G);have(_,A,E,o,y,v,k,w):=(show Yq X.prog X.w H s.heap p (.tup [.ty n,.ty m])from I.Ye p _ z);have(J,K,g,C,D):=vals2 E;subst g;cases(show J=SV n from C);cases(show K=SV m from D);have(B,N,d,os):=o;cases(show B=SV "tuple"from v);cases(show d=JU _ k from w);have c:∀f,EP X a M Q (.bool b) {s with toks:=f}:=λf=>{.bl b,H,I.tok f,1,q};have(_,i,j,l):=sL I F ty;exact JP i I.kIn j y e l c
end
theorem Ou{K:Gd}:T1 K (.type "list") (.type "list")/Gi:=by rfl
theorem Iv{K:Gd}:T1 K (.type "tuple") (.type "tuple")/Gi:=by rfl
theorem Q4k{K:Gd}:T1 K (.type "list") (.type "tuple")/Gx:=by kernel_rfl
theorem xE{K:Gd}:T1 K (.type "tuple") (.type "list")/Gx:=by kernel_rfl
theorem Rf{K:Gd}:T1 K (.type "str") (.type "str")/Gi:=by rfl
theorem Q3m{K:Gd}:T1 K (.type "bool") (.type "str")/Gx:=by kernel_rfl
theorem ZD{K:Gd}:T1 K (.type "int") (.type "str")/Gx:=by kernel_rfl
theorem SL{K:Gd}:T1 K (.type "NoneType") (.type "str")/Gx:=by kernel_rfl
theorem xK{K:Gd}:T1 K (.type "bool") (.type "bool")/Gi:=by rfl
theorem Iw{K:Gd}:T1 K (.type "int") (.type "bool")/Gx:=by kernel_rfl
theorem Q25{K:Gd}:T1 K (.type "NoneType") (.type "bool")/Gx:=by kernel_rfl
theorem Rh{K:Gd}:T1 K (.type "int") (.type "int")/Gi:=by rfl
theorem XO{K:Gd}:Sg K (.type "list") [.type "list",.type "tuple"]/Gi:=by rfl
theorem K0{K:Gd}:Sg K (.type "tuple") [.type "list",.type "tuple"]/Gi:=by unfold Sg;rw[xE];rfl
theorem oI{K:Gd}{t:String}(a:T1 K (.type t) (.type "list")/Gx)(b:T1 K (.type t) (.type "tuple")/Gx):Sg K (.type t) [.type "list",.type "tuple"]/Gx:=by unfold Sg;rw[a];unfold Sg;rw[b];rfl
theorem WW{K:Gd}:T1 K (.type "str") (.type "list")/Gx:=by kernel_rfl
theorem XR{K:Gd}:T1 K (.type "str") (.type "tuple")/Gx:=by kernel_rfl
theorem PX{K:Gd}:T1 K (.type "int") (.type "list")/Gx:=by kernel_rfl
theorem KP{K:Gd}:T1 K (.type "int") (.type "tuple")/Gx:=by kernel_rfl
theorem Q3u{K:Gd}:T1 K (.type "bool") (.type "list")/Gx:=by kernel_rfl
theorem YY{K:Gd}:T1 K (.type "bool") (.type "tuple")/Gx:=by kernel_rfl
theorem Q35{K:Gd}:T1 K (.type "NoneType") (.type "list")/Gx:=by kernel_rfl
theorem UA{K:Gd}:T1 K (.type "NoneType") (.type "tuple")/Gx:=by kernel_rfl
end L2
namespace PySem
section
variable{prog:Gn}{w:Tf}{A:DS}{E:Gj->Gy->Prop}{s:Gy}
open PyProof.Rows
def Heap.oV(h:Heap)(a l:Ge)(i:Int):Prop:=∃o,h.get? a/o/\o.cls=.type "reversed"/\o.data=.fields #[↑l,rawInt i]
theorem Heap.oV.at{h b:Heap}{a l:Ge}{i:Int}(x:h.oV a l i)(e:∀o,h.get? a/o->b.get? a/o):b.oV a l i:=let⟨o,ho,r⟩:=x;{o,e _ ho,r}
end
section
variable{prog:Gn}{w:Tf}{K:Type}[DecidableEq K]{knd:Hw prog w K}{A:DS}{E:Gj->Gy->Prop}{s:Gy}
theorem Ji{d a:Ge}{l:List (K×Ge×Gj)}{k:K}{dflt:Gj}{Q:Gj->Gy->Prop}(u:knd.room A)(b:knd.is s.heap k a)(C:s.heap.DictOfH knd d l)
  (c:∀p,atKey l k/p->Q p.2 {s with toks:=s.toks+knd.draws k})
  (n:atKey l k=Gq->∀e,e.DictOfH knd d (l++[(k,a,dflt)])->Eu d s.heap e->Q dflt {s with heap:=e,toks:=s.toks+knd.draws k})
  (e:⇑l<=TF):
  wpAny (TR prog w) A (dictSetDefault d ↑a dflt) Q E s:=by
 have(o,e,z,i,B,h,r,m,t):=C;unfold dictSetDefault;try with_reducible refine D2 ?_
 refine Gb (knd.pyHash u b ?_);refine Gb (wpAny_dictFind_heap (s:={s with toks:=s.toks+knd.draws k}) u b i h r m t ?_ ?_)
 .intro o;have q:k∉l.map (·.1):=not_mem_keys_of_get o;have g:=atKey_none_of_get o;refine Gb (Fg (Gb (wpAny_updateDictKeys (hz:=by have e:=size_of_entries r;ext) (s:={s with toks:=s.toks+knd.draws k}) i h (Gm (n g _ ⟨_,_,z+1,DT _ i (Obj.isFreed_of_dict (Np h _)),
   B.mapDictKeys _,Np h _,?_,?_,?_⟩ (D9 ..))))))
  .simp -iota [r,entryOfKey]
  .intro x f;rcases Gh.mp f with f|f
   .exact knd.keeps (m x f) i h (D9 ..)
   .simp -iota only [GV]at f;subst f;exact knd.keeps b i h (D9 ..)
  .rw[TZ,DP];exists t,⋯;intro x f y v;simp -iota only [Tt,L6,GV]at v;subst v;exactλe=>q (e▸f)
 .intro j p e;have g:=atKey_of_get t e;refine Gb (EG (s:={s with toks:=s.toks+knd.draws k}) i h ?_);rw[entry_at r j,e];exact Gb (Fg (Gm (c p g)))
theorem Vd(b:Hw prog w K)(d a:Ge)(m:(d==Ee)=Gx)(dflt:Gj):
  MeetsIn prog w (Builtin.«dict.setdefault» {[↑d,↑a,dflt],[]}) (λA R s=>b.room A.in1/\∃k c,b.is s.heap k a/\s.heap.DictOfH b d c/\⇑c<=TF/\
   (∀p,atKey c k/p->R (.ok (.ret p.2)) {s with toks:=s.toks+b.draws k})/\
   (atKey c k=Gq->∀e,e.DictOfH b d (c++[(k,a,dflt)])->Eu d s.heap e->R (.ok (.ret dflt)) {s with heap:=e,toks:=s.toks+b.draws k})):=
 .of_wp λA R s r=>by have(o,k,c,f,i,q,j,l):=r;unfold Builtin.«dict.setdefault»;refine Gb ?_;unfold BC;refine Gb (Fc i.typeIs ?_);show wpAny _ _ (pure (d,Tn a,Ga dflt)) _ _ s;refine Gm ?_;show wpAny _ _ (if(d==Ee)=Gi then _ else(dictSetDefault d ↑a dflt>>=_)) _ _ s;rw[Gs (by rw[m];exact TC)];exact Gb (Ji o f i (λp g=>Gm {p.2,1,j p g}) (λn e g h=>Gm {dflt,1,l n e g h}) q)
end
end PySem
namespace L2
open PySem PySem.Spec PyProof.Rows
section
variable{X:Cx}{tg:D0}
inductive ux(x:V)(vs:List V)(H:Hp)(Q:VK):Prop
 |mk (d:_) (b:_) (dv:_) (zw:_) (k:_) (h0:x=↑d) (h1:vs=[↑b,dv]) (h2:H d/.dT zw) (h3:H b/.tup (k.map kV)) (h4:⇑zw<TF) (h5:(∀v,Xo zw k/v->Q v H)) (h6:(Xo zw k=Gq->Q dv (zj H d (.dT (zw++[(k,dv)]))))):ux x vs H Q
def UL:V->List V->Hp->VK->Prop:=λx a H Q=>ux x a H Q
theorem Q2(N:X.A.units+1<ET):iG X "dict.setdefault" UL:=by
 intro w s aa H x vs v Z Q I U T h;have(d,b,l,a,k,rfl,rfl,e,o,Y,P,R):=h;cases(show v=Tn d from U);have(V,B,rfl,S,A):=vals2 T;cases(show V=Tn b from S);have(z,t,m,f,n):=ue I.Ye e;have O:⇑a=⇑m:=GJ f;refine MZ F.slot_dict_setdefault n.typeIs F.entry_dict_setdefault (F.args_dict_setdefault_3 _ _ _) (Vd (tupleKind (Y2 X.prog X.w)) d b t B) {SX N,k,m,jQ I.Ye o,n,by lia,λp M=>?_,λL W j hs=>?_}
 .have g:=f.val k;rw[M]at g;cases q:Xo a k with
  |none=>rw[q]at g;exact(show False from g).elim
  |some y=>rw[q]at g;exact{y,H,I.tok _,g,P y q}
 .have g:=f.val k;rw[L]at g;cases q:Xo a k with
  |some y=>rw[q]at g;exact(show False from g).elim
  |none=>have(ob,D,C,u,E,G,J,_,K):=j;have i:KT H (a++[(k,l)]) (m++[(k,b,B)]):=EV f ⟨Xb,o,A⟩;refine{l,_,R9 (ob:=.dT (a++[(k,l)])) I (by rw[e];exact Ea) hs ⟨ob,u⟩ {by rw[Gk,GQ];lia,t,_,i.keeps λc ys r=>?_,ob,D,C,u,E,G,J,K},A,R q};rw[Qh (Zt r e nofun)];exact r
end
theorem Qf{H:Hp}{p:Ge}(h:H p=Gq)(o:HO):Za H (zj H p o):=λb u q=>by rw[Qh (Qe q h)];exact q
theorem nd1(x:TM):[x].Nodup:=by simp
theorem small{n:Nat}(h:n<=16000000):n<=TF:=by rw[TH];ext
end L2
namespace Sb
open PySem
inductive Th where
 |mk (w:TM) (ps:List Th)
mutual
def Th.size:Th->Nat
 |.mk _ ps=>Q8 ps+1
def Q8:List Th->Nat
 |[]=>0
 |p::r=>p.size+Q8 r
end
mutual
def Th.depth:Th->Nat
 |.mk _ ps=>Vi ps+1
def Vi:List Th->Nat
 |[]=>0
 |p::r=>max p.depth (Vi r)
end
mutual
def Th.inside:Th->List Th
 |.mk w ps=>Zo ps++[.mk w ps]
def Zo:List Th->List Th
 |[]=>[]
 |p::r=>p.inside++Zo r
end
mutual
def Th.toD:Th->DI
 |.mk w ps=>.tuple (.str w::X9 ps)
def X9:List Th->List DI
 |[]=>[]
 |p::r=>p.toD::X9 r
end
mutual
def Th.ok:Th->Bool
 |.mk w ps=>DM w&&okL ps
def okL:List Th->Bool
 |[]=>Gi
 |p::r=>p.ok&&okL r
end
def Om(w:TM):Bool:=DM w&&decide (⇑w<=200)
theorem Om.str{w:TM}(h:Om w=Gi):DM w=Gi:=(EU.mp h).1
theorem Om.len{w:TM}(h:Om w=Gi):⇑w<=200:=Do (EU.mp h).2
mutual
def Th.short:Th->Bool
 |.mk w ps=>decide (⇑w<=200)&&jX ps
def jX:List Th->Bool
 |[]=>Gi
 |p::r=>p.short&&jX r
end
def Th.word:Th->TM
 |.mk w _=>w
def Th.parts:Th->List Th
 |.mk _ ps=>ps
theorem Uq:∀a:List Th,okL a=a.all Th.ok
 |[]=>by simp[okL]
 |t::r=>by simp[okL,Uq r]
mutual
theorem Qmr:∀t:Th,t.inside.length=t.size
 |.mk w a=>by simp[Th.inside,Th.size,Jk a]
theorem Jk:∀a:List Th,⇑(Zo a)=Q8 a
 |[]=>by simp[Zo,Q8]
 |p::r=>by simp[Zo,Q8,Qmr p,Jk r]
end
theorem Rj(t:Th):1<=t.size:=by cases t;simp[Th.size]
theorem qO(t:Th):1<=t.depth:=by cases t;simp[Th.depth]
theorem v8:∀{a:List Th}{t:Th},t∈a->t.size<=Q8 a
 |p::r,t,h=>by
  rcases Ti.mp h with rfl|h
  .simp[Q8]
  .have:=v8 h;simp only[Q8];ext
theorem Wl:∀{a:List Th}{t:Th},t∈a->t.depth<=Vi a
 |p::r,t,h=>by
  rcases Ti.mp h with rfl|h
  .simp only[Vi];lia
  .have:=Wl h;simp only[Vi];lia
theorem Zl:∀a:List Th,⇑a<=Q8 a
 |[]=>by simp[Q8]
 |p::r=>by have:=Rj p;have:=Zl r;simp only[Q8,TQ];lia
mutual
theorem QG:∀(t:Th){s:Th},s∈t.inside->s.size<=t.size
 |.mk w a,s,h=>by
  simp only[Th.inside,Gh,GV]at h;rcases h with h|rfl
  .have:=AF a h;simp only[Th.size];ext
  .exact Gz _
theorem AF:∀(a:List Th){s:Th},s∈Zo a->s.size<=Q8 a
 |p::r,s,h=>by
  simp only[Zo,Gh]at h;rcases h with h|h
  .have:=QG p h;simp only[Q8];ext
  .have:=AF r h;simp only[Q8];ext
 |[],s,h=>by simp[Zo]at h
end
theorem yg(t:Th):t∈t.inside:=by cases t;simp[Th.inside]
theorem X7:∀a:List Th,Zo a=a.flatMap Th.inside
 |[]=>by simp[Zo]
 |p::r=>by simp[Zo,X7 r]
theorem Ke{x y:TM}:(x==y)=decide (x=y):=by
 by_cases h:x=y
 .subst h;simp
 .simp[h]
mutual
theorem Ii:∀s t:Th,TX s.toD t.toD=Gi↔s=t
 |.mk w a,.mk v b=>by simp only[Th.toD,TX,Dx,T5,Th.mk.injEq];rw[uH a b,Ke,decide_eq_true_iff]
theorem uH:∀a b:List Th,Dx (X9 a) (X9 b)=Gi↔a=b
 |[],[]=>by simp[X9,Dx]
 |[],t::r=>by simp[X9,Dx]
 |s::r,[]=>by simp[X9,Dx]
 |s::r,t::q=>by simp only[X9,Dx,T5,DB];rw[Ii s t,uH r q]
end
instance:DecidableEq Th:=λs t=>if h:TX s.toD t.toD=Gi then .isTrue ((Ii s t).mp h)else .isFalse λe=>h ((Ii s t).mpr e)
theorem lF(s t:Th):TX s.toD t.toD=decide (s=t):=by
 by_cases h:s=t
 .rw[Tg h];exact(Ii s t).mpr h
 .rw[Td h];exact Mn.mpr λe=>h ((Ii s t).mp e)
mutual
theorem We:∀t:Th,t.ok=Gi->t.toD.canLay0=Gi
 |.mk w a,h=>by simp only[Th.ok,T5]at h;simp only[Th.toD,Tu,Gw,T5];exact{h.1,lj a h.2}
theorem lj:∀a:List Th,okL a=Gi->Gw (X9 a)=Gi
 |[],_=>by simp[X9,Gw]
 |t::r,h=>by simp only[okL,T5]at h;simp only[X9,Gw,T5];exact{We t h.1,lj r h.2}
end
mutual
theorem Xi:∀t:Th,t.toD.depth=t.depth
 |.mk w a=>by simp only[Th.toD,Dp,TW,Th.depth,yJ a];lia
theorem yJ:∀a:List Th,TW (X9 a)=Vi a
 |[]=>by simp[X9,TW,Vi]
 |t::r=>by simp[X9,TW,Vi,Xi t,yJ r]
end
noncomputable def Xh(a:List Th)(xs:List Th):List Th:=xs.foldl (λa x=>if x∈a then a else a++[x]) a
theorem Rp(a:List Th):Xh a []=a:=rfl
theorem R6(a:List Th)(x:Th)(r:List Th):Xh a (x::r)=Xh (if x∈a then a else a++[x]) r:=rfl
theorem Jp(a b c:List Th):Xh a (b++c)=Xh (Xh a b) c:=by unfold Xh;rw[List.foldl_append]
theorem Qq5(a b:List Th)(y:Th):Xh a (b++[y])=if y∈Xh a b then Xh a b else Xh a b++[y]:=by rw[Jp];rfl
theorem qp:∀(c b:List Th)(y:Th),y∈Xh b c↔y∈b\/y∈c
 |[],b,y=>by simp[Rp]
 |x::r,b,y=>by
  rw[R6,qp r];by_cases h:x∈b
  .rw[GX h];constructor
   .rintro(a|a)
    .exact .inl a
    .exact .inr (Gr _ a)
   .rintro(a|a)
    .exact .inl a
    .rcases Ti.mp a with rfl|a
     .exact .inl h
     .exact .inr a
  .rw[Gs h];simp only[Gh,Ti,EO,FZ];constructor
   .rintro((a|a)|a)
    .exact .inl a
    .exact .inr (.inl a)
    .exact .inr (.inr a)
   .rintro(a|a|a)
    .exact .inl (.inl a)
    .exact .inl (.inr a)
    .exact .inr a
theorem wx:∀(b a:List Th),(∀x∈b,x∈a)->Xh a b=a
 |[],_,_=>rfl
 |x::r,a,h=>by rw[R6,GX (h x Tc)];exact wx r a λy c=>h y (Gr _ c)
theorem qA:∀(b a:List Th),⇑(Xh a b)<=⇑a+⇑b
 |[],a=>by simp[Rp]
 |x::r,a=>by
  rw[R6];have:=qA r (if x∈a then a else a++[x]);split at this
  .rename_i h
   rw[GX h];simp only[TQ];lia
  .rename_i h
   rw[Gs h];simp only[Gk,TQ,S8]at this⊢;lia
def Ux(ts:List Th):Prop:=∀t∈ts,∀s∈t.inside,s∈ts
theorem WY:Ux []:=λ_ h=>by simp at h
theorem tU{a:List Th}{t:Th}(h:Ux a)(ht:t∈a):Xh a t.inside=a:=wx _ _ λx b=>h t ht x b
theorem Uh:∀(b a:List Th),∃m,Xh a b=a++m
 |[],a=>{[],by simp[Rp]}
 |x::r,a=>by
  rw[R6];split
  .exact Uh r a
  .obtain⟨m,e⟩:=Uh r (a++[x]);exact{x::m,by rw[e];simp}
noncomputable def qD(t:Th):List TM:=t.word::t.parts.map Th.word
end Sb
namespace L2
open PySem PySem.Spec PyProof.Rows
theorem iD(x:V)(a:List V):U2 (x::a) (Ga 1) Gq=a:=by
 have e:HT.Va ⇑(x::a) 0 (Ga 1)=1:=by have q:=HT.Im ⇑(x::a) 0 1;rw[TQ]at q⊢;refine q.trans ?_;lia
 unfold U2;rw[e,HT.Ro];simp
theorem Wj(x:V)(a:List V):¬(HT.Va ⇑(x::a) 0 (Ga 1)=0/\HT.Va ⇑(x::a) ⇑(x::a) Gq=⇑(x::a)):=by
 have e:HT.Va ⇑(x::a) 0 (Ga 1)=1:=by have q:=HT.Im ⇑(x::a) 0 1;rw[TQ]at q⊢;refine q.trans ?_;ext
 rw[e];rintro⟨h,_⟩;exact absurd h (by decide)
end L2
namespace Sb
open PySem PySem.Spec PyProof.Rows L2
variable{H H':Hp}{v:V}{t:Th}{vs:List V}{ts:List Th}
mutual
inductive Z5(H:Hp):V->Th->Prop
 |mk {a:Ge} {w:TM} {vs:List V} {ps:List Th}:H a/.tup (.str w::vs)->Zw H vs ps->Z5 H ↑a (.mk w ps)
inductive Zw(H:Hp):List V->List Th->Prop
 |nil:Zw H [] []
 |cons {v:V} {vs:List V} {t:Th} {ts:List Th}:Z5 H v t->Zw H vs ts->Zw H (v::vs) (t::ts)
end
def Q6(H H':Hp):Prop:=∀b xs,H b/.tup xs->H' b/.tup xs
theorem Q6.of(e:Za H H'):Q6 H H':=λb a h=>e b _ h
theorem Q6.trans{d e:Hp}(a:Q6 H d)(b:Q6 d e):Q6 H e:=λc f h=>b c f (a c f h)
theorem Z2{a:Ge}{o:HO}(h:∀c,H a≠Ga (.tup c)):Q6 H (zj H a o):=λb c e=>by
 by_cases d:b=a
 .subst d;exact absurd e (h c)
 .rw[Qh d];exact e
theorem Z5.Qv(e:Q6 H H')(h:Z5 H v t):Z5 H' v t:=
 Z5.rec (motive_1:=λv t _=>Z5 H' v t) (motive_2:=λv t _=>Zw H' v t) (λh _=>.mk (e _ _ h)) .nil (λ_ _=>.cons) h
theorem Zw.Qv(e:Q6 H H')(h:Zw H vs ts):Zw H' vs ts:=
 Zw.rec (motive_1:=λv t _=>Z5 H' v t) (motive_2:=λv t _=>Zw H' v t) (λh _=>.mk (e _ _ h)) .nil (λ_ _=>.cons) h
theorem Z5.same(e:Za H H')(h:Z5 H v t):Z5 H' v t:=h.Qv (Q6.of e)
theorem Zw.same(e:Za H H')(h:Zw H vs ts):Zw H' vs ts:=h.Qv (Q6.of e)
theorem Z5.dt(h:Z5 H v t):Dt H v t.toD:=
 Z5.rec (motive_1:=λv t _=>Dt H v t.toD) (motive_2:=λb a _=>hF H b (X9 a)) (λh _ t=>.tup h (.cons (.str _) t)) .nil (λ_ _=>.cons) h
theorem Zw.dts(h:Zw H vs ts):hF H vs (X9 ts):=
 Zw.rec (motive_1:=λ_ _ _=>True) (motive_2:=λvs ts _=>hF H vs (X9 ts)) (λ_ _ _=>⟨⟩) .nil (λh _ _=>.cons h.dt) h
theorem Z5.inv(h:Z5 H v t):∃a w c b,v=.ref a/\t=.mk w b/\H a/.tup (.str w::c)/\Zw H c b:=by
 cases h with
 |mk h r=>exact{3201,h,r}
theorem Zw.length{H:Hp}{b:List V}{a:List Th}(h:Zw H b a):⇑b=⇑a:=
 Zw.rec (motive_1:=λ_ _ _=>True) (motive_2:=λb a _=>⇑b=⇑a) (λ_ _ _=>⟨⟩) rfl (λ_ _ _ h=>congrArg JV h) h
theorem Zw.append{b:List V}{a:List Th}(h:Zw H vs ts)(t:Zw H b a):Zw H (vs++b) (ts++a):=
 Zw.rec (motive_1:=λ_ _ _=>True) (motive_2:=λvs ts _=>Zw H (vs++b) (ts++a)) (λ_ _ _=>⟨⟩) t (λh _ _ t=>.cons h t) h
theorem Zw.one(h:Z5 H v t):Zw H [v] [t]:=.cons h .nil
theorem Zw.get{i:Nat}(h:Zw H vs ts)(e:vs[i]?/v):∃t,ts[i]?/t/\Z5 H v t:=by
 induction i generalizing vs ts with
 |zero=>cases h with
  |nil=>cases e
  |cons h=>cases e;exact{0,h}
 |succ i a=>cases h with
  |nil=>cases e
  |cons _ t=>exact a t e
theorem Zw.at{H:Hp}{b:List V}{a:List Th}{i:Nat}{t:Th}(h:Zw H b a)(e:a[i]?/t):∃v,b[i]?/v/\Z5 H v t:=by
 have hi:i<⇑a:=(Gg.mp e).1;have d:i<⇑b:=by rw[⇑h];exact hi
 have(g,c,f):=h.get (Gf d);rw[e]at c;cases c;exact{_,Gf d,f}
mutual
def W0:DI->Nat
 |.none=>1|.bool _=>1|.int _=>1|.str _=>1
 |.list xs=>Z0 xs+1
 |.tuple xs=>Z0 xs+1
 |.dict _=>1
def Z0:List DI->Nat
 |[]=>0
 |x::r=>W0 x+Z0 r
end
theorem tG(d:DI):1<=W0 d:=by cases d<;>simp[W0]
theorem Wt:∀b a:List DI,Z0 (b++a)=Z0 b+Z0 a
 |[],a=>by simp[Z0]
 |x::r,a=>by simp only[DG,Z0,Wt r a];lia
theorem Jq:∀a:List DI,⇑a<=Z0 a
 |[]=>by simp[Z0]
 |x::r=>by have:=tG x;have:=Jq r;simp only[Z0,TQ];lia
mutual
theorem ph:∀t:Th,W0 t.toD=2*t.size
 |.mk w a=>by simp only[Th.toD,W0,Z0,Th.size,so a];lia
theorem so:∀a:List Th,Z0 (X9 a)=2*Q8 a
 |[]=>by simp[X9,Z0,Q8]
 |t::r=>by simp only[X9,Z0,Q8,ph t,so r];ext
end
theorem y8(a:List Th)(n:Nat)(h:∀t∈a,t.size<=n):Q8 a<=⇑a*n:=by
 induction a with
 |nil=>simp[Q8]
 |cons t r b=>have c:=h t Tc;have d:=b λs hs=>h s (Gr _ hs);simp only[Q8,TQ];rw[SS];lia
structure Drawn(ts:List Th)(m:Nat):Prop where
 len:⇑ts=3+m
 ok:∀t∈ts,t.ok=Gi
 dep:∀(j:Nat)t,ts[j]?/t->t.depth<=j+1
 one:∀(j:Nat)t,ts[j]?/t->j<=2->t.size<=1
 two:∀(j:Nat)t,ts[j]?/t->j<=3->t.size<=4
 tri:∀(j:Nat)t,ts[j]?/t->j<=4->t.size<=10
 any:∀(j:Nat)t,ts[j]?/t->t.size<=12*j+1
 sh:∀t∈ts,t.short=Gi
 tab:ts[1]?/.mk "tab" []
 cl:∀t∈ts,∀p∈t.parts,p∈ts
inductive xm(K:Gd)(vs:List V)(H:Hp)(Q:VK):Prop
 |mk (a:Ge) (ns:List Int) (h0:vs=[↑a]) (h1:Jf K H a (ns.map V.int)) (h2:⇑ns<=63) (h3:∀(r:Ge)(us:List V)(ts:List Th)(H':Hp),Za H H'->H r=Gq->H' r/.lst us->Zw H' us ts->Drawn ts ⇑ns->Q ↑r H'):xm K vs H Q
def Ac(K:Gd):Sp:=λa H Q _=>xm K a H Q
inductive xX(vs:List V)(H:Hp)(Q:VK):Prop
 |mk (n:Int) (h0:vs=[.int n]) (h1:∀(x:TM),Om x=Gi->Q (.str x) H):xX vs H Q
def xC:Sp:=λa H Q _=>xX a H Q
inductive vU(vs:List V)(H:Hp)(Q:VK):Prop
 |mk (x:V) (y:V) (d:DI) (h0:vs=[x,y]) (h1:Dt H x d) (h2:Dt H y d) (h3:d.canLay0=Gi) (h4:W0 d<=1000000) (h5:d.depth<=60) (h6:∀(H':Hp),Za H H'->Q (.bl Gi) H'):vU vs H Q
def p6:Sp:=λa H Q _=>vU a H Q
inductive vI(K:Gd)(vs:List V)(H:Hp)(Q:VK):Prop
 |mk (a:Ge) (ns:List Int) (h0:vs=[↑a]) (h1:Jf K H a (ns.map V.int)) (h2:⇑ns<=63) (h3:∀H',Q (.bl Gi) H'):vI K vs H Q
def nZ(K:Gd):Sp:=λa H Q _=>vI K a H Q
end Sb
namespace L2
open PySem PySem.Spec PyProof.Rows
variable{h:Heap}{v:Gj}{as:List Ge}
inductive KD where
 |int (i:Int)
 |str (x:TM)
 |tup (xs:List KD)
mutual
def KD.toD:KD->DI
 |.int i=>.int i
 |.str x=>.str x
 |.tup xs=>.tuple (Ri xs)
def Ri:List KD->List DI
 |[]=>[]
 |x::r=>x.toD::Ri r
end
mutual
def KD.depth:KD->Nat
 |.int _=>0
 |.str _=>0
 |.tup xs=>Rn xs+1
def Rn:List KD->Nat
 |[]=>0
 |x::r=>max x.depth (Rn r)
end
mutual
def KD.hash(w:Tf):KD->Int
 |.int i=>hashInt i
 |.str x=>hashStr w x
 |.tup xs=>reduceHash (Ej (U7 w xs))
def U7(w:Tf):List KD->List Int
 |[]=>[]
 |x::r=>x.hash w::U7 w r
end
mutual
def KD.draws:KD->Nat
 |.int _=>1
 |.str _=>1
 |.tup xs=>Wh xs+1
def Wh:List KD->Nat
 |[]=>0
 |x::r=>x.draws+Wh r
end
theorem Kx:∀a:List KD,Ri a=a.map KD.toD
 |[]=>by simp[Ri]
 |x::r=>by simp[Ri,Kx r]
theorem xZ(w:Tf):∀a:List KD,U7 w a=a.map (KD.hash w)
 |[]=>by simp[U7]
 |x::r=>by simp[U7,xZ w r]
theorem Rb:∀b a:List KD,Wh (b++a)=Wh b+Wh a
 |[],a=>by simp[Wh]
 |x::r,a=>by simp only[DG,Wh,Rb r a];lia
theorem oM:∀{xs:List KD}{x:KD},x∈xs->x.depth<=Rn xs
 |y::r,x,h=>by
  simp only[Rn];rcases Ti.mp h with rfl|h
  .lia
  .have:=oM h;lia
mutual
theorem lK:∀a b:KD,TX a.toD b.toD=Gi↔a=b
 |.int i,.int j=>by simp[KD.toD,TX]
 |.int i,.str y=>by simp[KD.toD,TX]
 |.int i,.tup d=>by simp[KD.toD,TX]
 |.str x,.int j=>by simp[KD.toD,TX]
 |.str x,.str y=>by simp[KD.toD,TX]
 |.str x,.tup d=>by simp[KD.toD,TX]
 |.tup c,.int j=>by simp[KD.toD,TX]
 |.tup c,.str y=>by simp[KD.toD,TX]
 |.tup c,.tup d=>by simp only[KD.toD,TX,KD.tup.injEq];exact yB c d
theorem yB:∀a b:List KD,Dx (Ri a) (Ri b)=Gi↔a=b
 |[],[]=>by simp[Ri,Dx]
 |[],_::_=>by simp[Ri,Dx]
 |_::_,[]=>by simp[Ri,Dx]
 |x::r,y::q=>by simp only[Ri,Dx,T5,DB];rw[lK x y,yB r q]
end
instance:DecidableEq KD:=λa b=>if h:TX a.toD b.toD=Gi then .isTrue ((lK a b).mp h)else .isFalse λe=>h ((lK a b).mpr e)
theorem Qlw(a b:KD):TX a.toD b.toD=decide (a=b):=by
 by_cases h:a=b
 .rw[Tg h];exact(lK a b).mpr h
 .rw[Td h];exact Mn.mpr λe=>h ((lK a b).mp e)
mutual
theorem ou:∀a:KD,a.toD.depth=a.depth
 |.int _=>by simp[KD.toD,Dp,KD.depth]
 |.str _=>by simp[KD.toD,Dp,KD.depth]
 |.tup b=>by simp only[KD.toD,Dp,KD.depth,AU b]
theorem AU:∀a:List KD,TW (Ri a)=Rn a
 |[]=>by simp[Ri,TW,Rn]
 |x::r=>by simp only[Ri,TW,Rn,ou x,AU r]
end
theorem Uv{c:List DI}(r:FX h v (.tuple c) as):∃a o b n,v=.ref a/\h.get? a/o/\o.cls=.type "tuple"/\o.data=.seq b n/\LH h b.toList c as:=by
 cases r with
 |tuple d e f g=>exact{320,d,e,f,g}
theorem KD.ind{p:KD->Prop}(hi:∀i,p (.int i))(hs:∀x,p (.str x))(ht:∀c,(∀k∈c,p k)->p (.tup c))(k:KD):p k:=
 KD.rec (motive_1:=p) (motive_2:=λc=>∀k∈c,p k) hi hs ht (λ_ h=>nomatch h) (λx r a b k h=>(Ti.mp h).elim (λe=>e▸a) (b k)) k
theorem Kg{g:Heap}{d:Ge}{o:SR}{s:Array Lq}{y:Nat}(A:h.get? d/o)(z:o.data=.dict s y)(hs:Eu d h g){x:DI}(k:FX h v x as):x.canLay0=Gi->FX g v x as:=by
 have j:∀{a:Ge}{p:SR}{u:Array Gj}{n:Nat},h.get? a/p->p.data=.seq u n->g.get? a/p:=by intro a p u n f e;refine(hs.2 a ?_).trans f;rintro rfl;rw[A]at f;cases f;rw[z]at e;cases e
 refine Reads.rec (motive_1:=λv x as _=>x.canLay0=Gi->FX g v x as) (motive_2:=λl m as _=>Gw m=Gi->LH g l m as) (λ_=>.none) (λb _=>.bool b) (λi t _=>.int i t) (λx t _=>.str x t) ?_ ?_ ?_ (λ_=>.nil) ?_ k
 .intro a o l n m as f q e _ r c;simp only[Tu]at c;exact .list (j f e) q e (r c)
 .intro a o l n m as f q e _ r c;simp only[Tu]at c;exact .tuple (j f e) q e (r c)
 .intro a o s n b as w _ _ _ _ _ _ _ c;simp[Tu]at c
 .intro v l d C as w _ _ b B c;simp only[Gw,T5]at c;exact .cons (b c.1) (B c.2)
theorem Ut{i:Int}(r:FX h v (.int i) as):∃t,v=.int i t:=by cases r;exact{40}
theorem Uu{x:TM}(r:FX h v (.str x) as):∃t,v=.str x t:=by cases r;exact{40}
theorem Od{a:List Gj}(r:LH h a [] as):a=[]:=by cases r;rfl
theorem V7{c:List Gj}{d:DI}{a:List DI}(r:LH h c (d::a) as):∃v b f e,c=v::b/\FX h v d f/\LH h b a e:=by cases r with|cons g i=>exact⟨_,_,_,_,Xb,g,i⟩
theorem OQ(a b:KD){c:List Ge}(r:FX h v a.toD as)(q:FX h v b.toD c):a=b:=by
 refine KD.rec (motive_1:=λa=>∀(b:KD){v:Gj}{as c:List Ge},FX h v a.toD as->FX h v b.toD c->a=b) (motive_2:=λm=>∀(d:List KD){f:List Gj}{as c:List Ge},LH h f (Ri m) as->LH h f (Ri d) c->m=d) ?_ ?_ ?_ ?_ ?_ a b r q
 .intro i b v as c r q;have(t,rfl):=Ut r;cases b with
  |int j=>have(g,e):=Ut q;cases e;rfl
  |str y=>have(g,e):=Uu q;cases e
  |tup d=>have(a,o,f,n,e,_):=Uv q;cases e
 .intro i b v as c r q;have(t,rfl):=Uu r;cases b with
  |int j=>have(g,e):=Ut q;cases e
  |str y=>have(g,e):=Uu q;cases e;rfl
  |tup d=>have(a,o,f,n,e,_):=Uv q;cases e
 .intro m A b v as c r q;have(a,o,f,n,rfl,l,p,w,z):=Uv r;cases b with
  |int j=>have(g,e):=Ut q;cases e
  |str y=>have(g,e):=Uu q;cases e
  |tup d=>have(D,F,C,E,e,k,s,u,B):=Uv q;cases e;rw[l]at k;cases k;rw[w]at u;cases u;rw[A d z B]
 .intro d f as c r t;cases Od r;cases d with
  |nil=>rfl
  |cons=>have(_,_,_,_,e,_):=V7 t;cases e
 .intro x A u w d f as c r t;have(v,z,_,_,rfl,l,p):=V7 r;cases d with
  |nil=>cases Od t
  |cons y q=>have(v,z,_,_,e,k,s):=V7 t;cases e;rw[u y l k,w q p s]
section
variable{prog:Gn}{w:Tf}
theorem YI:∀(k:KD){A:DS}{E:Gj->Gy->Prop}{s:Gy}{v:Gj}{j:List Ge}{Q:Int->Gy->Prop},A.units+k.depth<ET->FX s.heap v k.toD j->Q (k.hash w) {s with toks:=s.toks+k.draws}->
  wpAny (TR prog w) A (pyHash v) Q E s:=by
 intro k;induction k using KD.ind with
 |hi i=>intro A E s v j Q _ r h;have(t,rfl):=Ut r;exact RP h
 |hs x=>intro A E s v j Q _ r h;have(t,rfl):=Uu r;exact RQ h
 |ht xs m=>
  intro A E s v j Q K r h;simp only[KD.depth]at K;simp only[KD.hash,KD.draws]at h;have(a,o,B,n,rfl,D,I,J,hi):=Uv r;have q:s.TypeIs ↑a "tuple":=⟨o,D,I⟩;unfold pyHash;first|unfold pyHashByItsType|skip
  first|refine Gb (wpAny_cRoomFor_or (.inr (by lia)) ?_)|skip
  refine Gb (E5 q F.slot_tuple_hash.lookup ?_);show wpAny _ _ (if(Ga (Value.builtin "tuple.__hash__")==Ga DD)=Gi then _ else _) Q E s;rw[Gs (by rw[beq_builtin_none];exact TC)];refine Gb (E5 q F.slot_tuple_hash.lookup ?_);show wpAny _ _ (callSpecialIfBoundUnlessNone? ↑a "__hash__" _>>=_) Q E s;refine Gb (wpAny_callSpecialIfBoundUnlessNone?_slot q F.slot_tuple_hash (Dz F.slot_tuple_hash q F.entry_tuple_hash ?_ (F.args_tuple_hash_1 _)));show wpAny _ _ (FW ↑a>>=_) _ _ s;refine Gb (wpAny_tupleItemsOf D J ?_);refine Gb ?_;rw[<-LU];refine Ba _
   (λX6(b:Array Int)C=>∃done left g,xs=done++left/\LH s.heap X6 (Ri left) g/\b.toList=U7 w done/\C={s with toks:=s.toks+Wh done})
   _ ?_ ?_ _ _ {[],xs,j,1,hi,11}
  .rintro x X6 b C ⟨done,left,g,rfl,u,y,rfl⟩;cases left with
   |nil=>cases Od u
   |cons k f=>
     have(v,M,_,_,e,H,z):=V7 u;cases e;have L:=oM (xs:=done++k::f) (x:=k) ⋯;refine Gb (m k ⋯ (A:=A.in1) (s:={s with toks:=s.toks+Wh done}) (by show A.units+1+k.depth<ET;lia) H ?_);have G:s.toks+Wh done+k.draws=s.toks+Wh (done++[k]):=by rw[Rb];simp only[Wh];lia
     have p:∃c d l,done++k::f=c++d/\LH s.heap X6 (Ri d) l/\(b.push (k.hash w)).toList=U7 w c/\({s with toks:=s.toks+Wh done+k.draws}:Gy)={s with toks:=s.toks+Wh c}:=
      {done++[k],f,_,by simp,z,by simp[y,xZ],by rw[G]}
     first
      |exact Gm p
      |exact Gb (Gm (Gm p))
  .rintro b C ⟨done,left,g,rfl,u,y,rfl⟩;cases left with
   |cons k f=>have(_,_,_,_,e,_):=V7 u;cases e
   |nil=>
    rw[DU]at h;show wpAny _ _ (retInt (Ej b.toList)) _ _ _;rw[y];refine Bp ?_;show wpAny _ _ (if(decide (-(2:Int)^63<=Ej (U7 w done))&&decide (Ej (U7 w done)<2^63))=Gi then _ else _) Q E _;unfold reduceHash at h;by_cases c:(decide (-(2:Int)^63<=Ej (U7 w done))&&decide (Ej (U7 w done)<2^63))=Gi
    .rw[GX c];rw[GX c]at h;exact Gm (by simpa[Cw]using h)
    .rw[Gs c];rw[Gs c]at h;exact Gb (Fg (Gm (by simpa[Cw]using h)))
theorem Qwc:∀(k:KD)(n:Nat){A:DS}{E:Gj->Gy->Prop}{s:Gy}{v:Gj}{d:List Ge}{Q:Bool->Gy->Prop},k.depth<=n->FX s.heap v k.toD d->Q Gi s->wpAny (TR prog w) A (eqIsQuiet n v) Q E s:=by
 intro k;induction k using KD.ind with
 |hi i=>intro n A E s v d Q _ r h;have(t,rfl):=Ut r;rw[RI n rfl];exact Gm h
 |hs x=>intro n A E s v d Q _ r h;have(t,rfl):=Uu r;rw[RI n rfl];exact Gm h
 |ht D g=>
  intro n A E s v d Q B r h;cases n with
  |zero=>simp[KD.depth]at B
  |succ n=>
  simp only[KD.depth]at B;have(a,o,c,m,rfl,C,H,I,hi):=Uv r;have u:s.TypeIs ↑a "tuple":=⟨o,C,H⟩;unfold eqIsQuiet;refine Gb (E5 u F.slot_tuple_eq.lookup ?_);show wpAny _ _ (isInstance ↑a (.type "tuple")>>=_) _ _ s;refine Gb (Lu u isSubtype_tuple_tuple ?_);simp only[Cy,DK,Ey];refine Gb (Eg C I ?_);refine Gb ?_;show wpAny _ _ (forIn c _ _) _ _ s;rw[<-LU];refine Ba _ (λX6 r q=>r.1=Gq/\q=s/\∃left f,(∀k∈left,k∈D)/\LH s.heap X6 (Ri left) f) _ ?_ ?_ _ _ {11,D,d,λ_ z=>z,hi}
  .rintro v X6 r q ⟨l,rfl,left,f,b,y⟩;cases left with
   |nil=>cases Od y
   |cons k p=>have(v,L,_,_,e,G,j):=V7 y;cases e;have K:=oM (b k ⋯);refine Gb (g k (b k ⋯) n (by lia) G ?_);simp only[Cy,DK,Ey];exact Gm {11,p,_,λz J=>b z (Gr _ J),j}
  .rintro⟨b,e⟩ q ⟨l,rfl,_⟩;simp only at l;subst l;exact Gm h
def Vx(prog:Gn)(w:Tf):Hw prog w KD where
 is:=λh k a=>(∃c,FX h ↑a k.toD c)/\k.toD.canLay0=Gi/\k.depth<=8
 hash:=KD.hash w
 draws:=KD.draws
 room:=λA=>A.units+10<ET
 inj:=λ⟨⟨_,h1⟩,_⟩⟨⟨_,h2⟩,_⟩=>OQ _ _ h1 h2
 keeps:=λ⟨⟨c,h1⟩,h2,d⟩f e hs=>{{c,Kg f e hs h1 h2},h2,d}
 pyHash:=λ{A E s k a Q}g⟨⟨c,h1⟩,_,d⟩h=>YI k ∅ h1 h
 eqBool:=λ{A E s x y a b Q}g⟨⟨c,h1⟩,h2,d⟩⟨⟨l,i⟩,j,m⟩h=>C7 x.toD y.toD A s _ _ _ _ h1 i h2 j (by rw[ou,ou];ext) prog w E Q (by rw[Qlw];exact h)
 quiet:=λ{A E s k a Q}⟨⟨c,h1⟩,_,d⟩h=>Qwc k 8 d h1 h
end
end L2
namespace PySem
def Heap.I8(h:Heap)(d:Ge)(es:Array Lq)(ep:Nat):Prop:=∃o,h.get? d/o/\o.ExactDict/\o.data=.dict es ep
section
variable{prog:Gn}{w:Tf}{A:DS}{E:Gj->Gy->Prop}{s:Gy}{d:Ge}{es:Array Lq}{ep:Nat}
theorem Heap.I8.typeIs(x:s.heap.I8 d es ep):s.TypeIs ↑d "dict":=let⟨o,ho,hc,_⟩:=x;{o,ho,hc.1}
theorem Heap.I8.at{h a:Heap}(x:h.I8 d es ep)(e:∀o,h.get? d/o->a.get? d/o):a.I8 d es ep:=let⟨o,ho,r⟩:=x;{o,e _ ho,r}
theorem Heap.I8.lt{h:Heap}(x:h.I8 d es ep):d<h.objs.size:=let⟨_,ho,_⟩:=x;Tk ho
theorem QP{Q:Gj->Gy->Prop}(e:(d==Ee)=Gx)(b:s.heap.I8 d es ep)(c:(es.size:Int)<2^63)
  (h:Q (.int es.size (s.toks+1)) {s with toks:=s.toks+1+1}):wpAny (TR prog w) A (call (.builtin "len") [↑d]) Q E s:=by
 have(o,f,c,a):=id b;refine Mf kind_len plain_len entry_len (args_len1 _) ?_;unfold Builtin.«len»;refine Gb (m:=oneArg "len" _) (Gm ?_);refine Gb (m:=callSpecial? ↑d (EF "__len__")) (DN (name:=EF "__len__") b.typeIs F.slot_dict_len
  (Dz F.slot_dict_len b.typeIs F.entry_dict_len ?_ (F.args_dict_len_1 _)))
 show wpAny _ _ (dictSize d>>=_) _ _ s;unfold dictSize;refine Gb (Gb (EG f a (Gm ?_)));show wpAny _ _ (BY d>>=_) _ _ s;refine Gb (wpAny_pendingCount_other e ?_);refine Bp ?_;rw[RJ];show wpAny _ _ _ _ _ {s with toks:=s.toks+1};refine Gb (D2 (Gm ?_));refine Gb (Mo ?_);show wpAny _ _ (if((es.size:Nat):Int)<0 then _ else _) _ _ _;rw[Gs (by lia)];show wpAny _ _ (if((es.size:Nat):Int)>=2^63 then _ else _) _ _ _;rw[Gs (by lia)];exact Gb (wpAny_mkInt (Gm {0,h}))
theorem Pz{Q:Gj->Gy->Prop}(g:(d==Ee)=Gx)(c:s.heap.I8 d es ep)
  (f:Q ↑s.heap.objs.size {s with heap:=s.heap.push {cls:=.type "dict_keyiterator",data:=.fields #[↑d,.int 0 0,.int es.size 0,.int ep 0]}}):
  wpAny (TR prog w) A (pyIter ↑d) Q E s:=by
 have(o,e,h,a):=id c;have b:=c.typeIs;refine Mq b F.slot_dict_iter (Dz F.slot_dict_iter b F.entry_dict_iter ?_ (F.args_dict_iter_1 _));unfold Builtin.«dict.__iter__»;refine Gb ?_;unfold BZ;refine Gb (Fc b ?_);show wpAny _ _ (pure (Tn d)) _ _ s;refine Gm ?_;show wpAny _ _ (Lg d>>=_) _ _ s;unfold Lg;rw[Gs (by rw[g];exact TC)];refine Gb (Gm ?_);refine Gb (EG e a ?_);refine Gb (S9 e a ?_);refine Gb (DA (Gm {0,"dict_keyiterator",_,{_,To _ Xb,1},F.slot_dict_keyiterator_next.lookup,?_}));simpa[rawInt]using f
theorem P5{f:Ge}{i:Nat}{e:Lq}{Q:Option Gj->Gy->Prop}(a:s.heap.IsKeyIter f d i es.size ep)(u:s.heap.I8 d es ep)(m:es[i]?/e)
  (p:∀h,h.IsKeyIter f d (i+1) es.size ep->Eu f s.heap h->Q (Ga e.key) {s with heap:=h}):
  wpAny (TR prog w) A (pyNext ↑f) Q E s:=by
 have(o,n,q,l):=id a;have(v,j,r,g):=id u;unfold pyNext;refine Gb (Fl (DN (name:=EF "__next__") a.typeIs F.slot_dict_keyiterator_next
  (Dz F.slot_dict_keyiterator_next a.typeIs F.entry_dict_keyiterator_next ?_ (F.args_dict_keyiterator_next_1 _))))
 refine Gb (Gm ?_);refine Gb ?_;refine Gb ?_;first|refine Gb (EW a.typeIs (Gm ?_))|refine Gb (SD a.typeIs (Gm ?_))
 refine Gb (F0 n l ?_);have k:Ev "dict_keyiterator"=Gx:=by decide
 simp -iota only [k,DK,Ey];show wpAny _ _ (if(Tn d==DD)=Gi then _ else _) _ _ s;rw[Gs (show¬((Tn d==DD)=Gi)from TC)];refine Gb (Gm ?_);refine Gb (EG j g ?_);rw[Gs ⋯];refine Gb (Gm ?_);refine Gb (S9 j g ?_);rw[Gs ⋯];refine Gm ?_;have c:i<es.size:=by
  rcases Dh i es.size with h|h
  .exact h
  .rw[Ei h]at m;cases m
 have t:es[i]=e:=by rw[T6 c]at m;exact T3 m
 simp only[show¬((i:Int)<0)from by ext,Ey,Em,T6 c];refine Gb ?_;first|refine Gb (EW a.typeIs (Gm ?_))|refine Gb (SD a.typeIs (Gm ?_))
 refine Gb (Nf a.typeIs ?_);show wpAny _ _ (setField ↑f 1 (rawInt ((i:Int)+1))>>=_) _ _ s;refine Gb (Lp n l ⋯ ?_);have b:(s.heap.update f (Fn (·.setIfInBounds 1 (rawInt ((i:Int)+1))))).IsKeyIter f d (i+1) es.size ep:=
  {_,DT _ n (Fd (Sh l _)),(Mr ..).trans q,by rw[Sh l];simp -iota [rawInt]}
 refine Gb (D2 ?_);refine Gb (Nf (s:={s with heap:=s.heap.update f (Fn (·.setIfInBounds 1 (rawInt ((i:Int)+1))))}) b.typeIs ?_);show wpAny _ _ (pure es[i].key) _ _ _;rw[t];exact Gm (Gm {0,Gm (p _ b (D9 ..))})
theorem Qug{f:Ge}{i:Nat}{Q:Option Gj->Gy->Prop}(n:A.handled=Gq)(a:s.heap.IsKeyIter f d i es.size ep)(p:s.heap.I8 d es ep)(g:es.size<=i)
  (l:∀h,Nq f s.heap h->Q Gq {s with heap:=h}):wpAny (TR prog w) A (pyNext ↑f) Q E s:=by
 have(o,k,h,j):=id a;have(q,c,m,b):=id p;unfold pyNext;refine Gb (Fl (DN (name:=EF "__next__") a.typeIs F.slot_dict_keyiterator_next
  (Dz F.slot_dict_keyiterator_next a.typeIs F.entry_dict_keyiterator_next ?_ (F.args_dict_keyiterator_next_1 _))))
 refine Gb (Gm ?_);refine Gb ?_;refine Gb ?_;first|refine Gb (EW a.typeIs (Gm ?_))|refine Gb (SD a.typeIs (Gm ?_))
 refine Gb (F0 k j ?_);have e:Ev "dict_keyiterator"=Gx:=by decide
 simp -iota only [e,DK,Ey];show wpAny _ _ (if(Tn d==DD)=Gi then _ else _) _ _ s;rw[Gs (show¬((Tn d==DD)=Gi)from TC)];refine Gb (Gm ?_);refine Gb (EG c b ?_);rw[Gs ⋯];refine Gb (Gm ?_);refine Gb (S9 c b ?_);rw[Gs ⋯];refine Gm ?_;simp only[show¬((i:Int)<0)from by ext,Ey,Em,Ei g];refine Gb ?_;first|refine Gb (EW a.typeIs (Gm ?_))|refine Gb (SD a.typeIs (Gm ?_))
 show wpAny _ _ (setField ↑f 0 .none>>=_) _ _ s;refine Gb (Lp k j ⋯ ?_);show wpAny _ _ (newExc (.type "StopIteration") []>>=_) _ _ _;refine Gb ?_;simp -iota only [newExc,newTuple];refine Gb (DA ?_ (by size_fits));refine Gb (m:=firstArgMember _ _) (Bi (a:=DD) (by first|rfl|(simp -iota only [firstArgMember];rfl)) ?_);refine DA ?_ (by size_fits);simp -iota only [raiseNew];refine Gb (NH ?_);rw[show A.in1.handled=Gq from n];refine Gb (Gm (Bj ?_));refine Gb (Lu (T:="StopIteration") (b:=Gi) {_,To _ Xb,1} Nr ?_);exact Gm (l _ (((D9 ..).extBut.push _).push _))
theorem Walks.Qy6(t:A.handled=Gq)(I d:Ge)(n:d≠I)(c:Array Lq)(p:Nat):
  Walks prog w A I [I,d] [I] c.size (λi v=>∃e,c[i]?/e/\v=e.key) (λi h=>h.IsKeyIter I d i c.size p/\h.I8 d c p) where
 sub:=λb f=>by simp at f;simp -iota [f]
 frame:=λ_ _ _ a q=>{a.1.at λo e=>q I ⋯ o e,a.2.at λo e=>q d ⋯ o e}
 item:=λi s Q E hi a g=>by have r:c[i]?/c[i]:=T6 hi;refine P5 a.1 a.2 r λl j k=>?_;exact g _ l s.toks {_,r,1} {j,a.2.at λo e=>(k.2 d n).trans e} λb o f e=>k.extBut b o (λh=>f (by simp -iota [h])) e
 done:=λs Q E a g=>Qug t a.1 a.2 (Gz _) λl m=>g l s.toks λb o f e=>m b o (λh=>f (by simp -iota [h])) e
 self:=λ_ _ _ _ a g=>Nu a.1 g
theorem VG(g:(d==Ee)=Gx):BD prog w "dict" d d es.size (λi v=>∃e,es[i]?/e/\v=e.key) (λh=>h.I8 d es ep) where
 type:=λ_ a=>a.typeIs
 there:=λ_ a=>{a.lt,a.lt}
 keep:=λ_ _ a f=>a.at λo e=>f d (.inl Xb) o e
 notList:=by decide
 notTuple:=by decide
 hint:=λ_ _ _ _ a b=>He a.typeIs b
 iter:=λ_ _ c a=>{2,(λ_ _ b=>Pz g a b),Walks.Qy6 c _ d (T2 a.lt) es ep,{{_,To _ Xb,11},a.at λo e=>Gp _ e}}
end
end PySem
namespace L2
open PySem PySem.Spec PyProof.Rows
variable{k:KD}
abbrev KE:=KD×Ge×V
variable{zw:List KE}
noncomputable def Ys(zw:List KE)(k:KD):Option V:=(zw.find? λp=>decide (p.1=k)).map (·.2.2)
noncomputable def Vo(zw:List KE)(k:KD)(b:Ge)(v:V):List KE:=if(Ys zw k).isSome=Gi then zw.map (λp=>if p.1=k then(p.1,p.2.1,v)else p)else zw++[(k,b,v)]
abbrev KX:List KE->List (KD×Ge×Gj)->Prop:=Df λp q=>p.1=q.1/\p.2.1=q.2.1/\zu p.2.2 q.2.2
def qY(P:Gn)(w:Tf)(a:Ge)(zw:List KE)(h:Heap):Prop:=
 ⇑zw<=TF/\(a==Ee)=Gx/\∃xs,KX zw xs/\∃o es ep,h.get? a/o/\o.ExactDict/\o.data=.dict es ep/\es.toList=xs.map (entryOfKey (Vx P w))/\(xs.map (·.1)).Nodup
def Uw(P:Gn)(w:Tf)(a:Ge)(zw:List KE):HO:=.ext (qY P w a zw)
def U5(H:Hp)(zw:List KE):Prop:=∀p∈zw,Dt H ↑p.2.1 p.1.toD/\p.1.toD.canLay0=Gi/\p.1.depth<=8
def ih(H:Hp)(b:Ge)(k:KD):Prop:=Dt H ↑b k.toD/\k.toD.canLay0=Gi/\k.depth<=8
theorem sg{P:Gn}{w:Tf}{H:Hp}{h:Heap}{a:Ge}(x:qY P w a zw h):Yq P w H h a (Uw P w a zw):=by
 exists x,?_
 .obtain⟨_,_,_,_,o,_,_,e,_⟩:=x;exact⟨o,e⟩
 .rintro i j ⟨f,g,d,r,o,c,b,e,q⟩ k;exact{f,g,d,r,o,c,b,k o e,q}
theorem KX.val{i:List (KD×Ge×Gj)}(r:KX zw i)(k:KD):R5 (Ys zw k) ((atKey i k).map (·.2)):=by
 induction r with
 |nil=>exact Ea
 |@cons p q d f h t l=>
  have(g,_,j):=h;by_cases e:p.1=k
  .have a:q.1=k:=g.symm.trans e;have b:atKey (q::f) k/q.2:=by simp[atKey,DY,a]
   have c:Ys (p::d) k/p.2.2:=by simp[Ys,DY,e]
   rw[c,b];exact j
  .have a:¬q.1=k:=λz=>e (g.trans z);have b:atKey (q::f) k=atKey f k:=by simp[atKey,DY,a]
   have c:Ys (p::d) k=Ys d k:=by simp[Ys,DY,e]
   rw[c,b];exact l
theorem KX.put{c:List (KD×Ge×Gj)}(r:KX zw c)(k:KD)(b:Ge){v:V}{u:Gj}(f:zu v u):KX (Vo zw k b v) (storedH c k b u):=by
 have e:(Ys zw k).isSome=(atKey c k).isSome:=by rw[(r.val k).Wz,Ss]
 unfold Vo storedH;rw[e];by_cases q:(atKey c k).isSome=Gi
 .rw[GX q,GX q];clear q e;induction r with
  |nil=>exact .nil
  |@cons p q j l h t i=>
   rw[Tt,Tt];refine .cons ?_ i;have(a,d,g):=h;unfold putAt;by_cases e:p.1=k
   .rw[GX e,GX (a.symm.trans e)];exact⟨a,d,f⟩
   .rw[Gs e,Gs (λz=>e (a.trans z))];exact⟨a,d,g⟩
 .rw[Gs q,Gs q];exact EV r ⟨Xb,Xb,f⟩
theorem nH(a:List KE)(k:KD)(b:Ge)(v:V):⇑(Vo a k b v)<=⇑a+1:=by
 unfold Vo;split
 .rw[Gv];ext
 .rw[Gk,GQ];ext
theorem sV(b:Ge)(v:V)(h:Ys zw k=Gq):Vo zw k b v=zw++[(k,b,v)]:=by unfold Vo;rw[h];exact Gs (by decide)
theorem zY{u:V}(b:Ge)(v:V)(h:Ys zw k/u):Vo zw k b v=zw.map (λp=>if p.1=k then(p.1,p.2.1,v)else p):=by unfold Vo;rw[h];exact GX rfl
theorem Xc{p:KE}{r:List KE}(e:p.1=k):Ys (p::r) k/p.2.2:=by simp[Ys,DY,e]
theorem Y9{p:KE}{r:List KE}(e:¬p.1=k):Ys (p::r) k=Ys r k:=by simp[Ys,DY,e]
theorem qE(k j:KD)(b:Ge)(y:V):∀a:List KE,Ys a k=Gq->Ys (a++[(k,b,y)]) j=if j=k then Ga y else Ys a j
 |[],_=>by
  by_cases e:k=j
  .rw[GX e.symm];exact Xc (p:=(k,b,y)) e
  .rw[Gs (λz=>e z.symm)];exact Y9 (p:=(k,b,y)) e
 |p::r,c=>by
  rw[DG];have d:¬p.1=k:=λz=>by rw[Xc z]at c;cases c
  rw[Y9 d]at c;have f:=qE k j b y r c;by_cases e:p.1=j
  .rw[Xc e,Xc e,Gs (λz=>d (e.trans z))]
  .rw[Y9 e,Y9 e,f]
theorem Aq(k j:KD)(y:V):∀a:List KE,Ys (a.map λp=>if p.1=k then(p.1,p.2.1,y)else p) j=(Ys a j).map λx=>if j=k then y else x
 |[]=>rfl
 |p::r=>by
  have b:=Aq k j y r;rw[Tt];by_cases h:p.1=k
  .rw[GX h];by_cases e:p.1=j
   .rw[Xc (p:=(p.1,p.2.1,y)) e,Xc e,DZ,GX (e.symm.trans h)]
   .rw[Y9 (p:=(p.1,p.2.1,y)) e,Y9 e,b]
  .rw[Gs h];by_cases e:p.1=j
   .rw[Xc (p:=p) e,Xc e,DZ,Gs (λz=>h (e.trans z))]
   .rw[Y9 (p:=p) e,Y9 e,b]
theorem Ia(a:List KE)(k j:KD)(b:Ge)(y:V):Ys (Vo a k b y) j=if j=k then Ga y else Ys a j:=by
 cases q:Ys a k with
 |none=>rw[sV b y q,qE k j b y a q]
 |some u=>
  rw[zY b y q,Aq];by_cases e:j=k
  .rw[GX e,e,q,DZ,GX rfl]
  .rw[Gs e];cases Ys a j with
   |none=>rfl
   |some x=>rw[DZ,Gs e]
theorem Qq9(a:List KE)(k:KD)(b:Ge)(v:V):∀p∈Vo a k b v,(p.1=k/\p.2.1=b)\/∃u,(p.1,p.2.1,u)∈a:=λp c=>by
 unfold Vo at c;split at c
 .obtain⟨q,d,e⟩:=Tx.mp c;right;split at e
  .subst e;exact{q.2.2,d}
  .subst e;exact{q.2.2,d}
 .rcases Gh.mp c with h|h
  .exact .inr {p.2.2,h}
  .rw[GV]at h;subst h;exact .inl ⟨Xb,Xb⟩
theorem U5.put{H:Hp}{b:Ge}{v:V}(h:U5 H zw)(d:ih H b k):U5 H (Vo zw k b v):=λp e=>by
 rcases Qq9 zw k b v p e with⟨a,c⟩|⟨u,f⟩
 .rw[a,c];exact d
 .exact h (p.1,p.2.1,u) f
section
variable{X:Cx}{zq:List (Ge×SR)}{σ:St}{H:Hp}{s:Gy}{a b:Ge}{zw:List KE}{k:KD}
theorem ih.is(I:zv X zq σ H s)(h:ih H b k):(Vx X.prog X.w).is s.heap k b:=by have(c,d,e):=h;have(a,r):=c.reads I.Ye (u:=↑b) rfl;exact{⟨a,r⟩,d,e}
theorem kj(I:zv X zq σ H s)(e:H a/Uw X.prog X.w a zw):qY X.prog X.w a zw s.heap:=(I.Ye a _ e).1
theorem jV(I:zv X zq σ H s)(e:H a/Uw X.prog X.w a zw)(v:U5 H zw):⇑zw<=TF/\(a==Ee)=Gx/\∃c,KX zw c/\s.heap.DictOfH (Vx X.prog X.w) a c:=by
 have(z,y,c,r,o,g,f,i,j,k,n,u):=kj I e;refine{z,y,c,r,o,g,f,i,j,k,n,λx b=>?_,u};have all:∀{l:List KE}{m:List (KD×Ge×Gj)},KX l m->(∀p∈l,p∈zw)->∀x∈m,(Vx X.prog X.w).is s.heap x.1 x.2.1:=by
  intro l m q;induction q with
  |nil=>intro _ x b;exact nomatch b
  |@cons p q A B d t w=>
   intro sub x b;rcases Ti.mp b with e|b
   .subst e;rw[<-d.1,<-d.2.1];exact ih.is I (v p (sub p ⋯))
   .exact w (λp h=>sub p (Gr _ h)) x b
 exact all r (λ_ h=>h) x b
end
def rb(P:Gn)(w:Tf):TE:=λ_ H Q=>∀p,H p=Gq->Q ↑p (zj H p (Uw P w p []))
structure DH(P:Gn)(w:Tf)(H:Hp)(d:Ge)(zw:List KE):Prop where
 at_:H d/Uw P w d zw
 keys:U5 H zw
section
variable{X:Cx}
theorem Rv{a:M4}:PE X (.Dict [] [] a) (rb X.prog X.w):=λb s c H Q I h=>
 MI ⟨↑s.heap.objs.size,_,I.laid (a:=s.heap.objs.size) (o:=Uw X.prog X.w s.heap.objs.size []) (t':=s.toks) (λ_ _ q=>Gp _ q) (Gz _)
  (sg {Ts _,EH.mpr (Tb (T2 I.big)),[],.nil,_,#[],(0),To _ Xb,⟨Xb,Xb,Xb⟩,11,SK}),Xb,h _ (I.Ye.fresh (Gz _))⟩
inductive yw(P:Gn)(w:Tf)(f:Bool->Bool)(x:V)(y:V)(H:Hp)(Q:VK):Prop
 |mk (b:_) (d:_) (k:_) (zw:_) (h0:x=↑b) (h1:y=↑d) (h2:DH P w H d zw) (h3:ih H b k) (h4:Q (.bl (f (Ys zw k).isSome)) H):yw P w f x y H Q
def rQ(P:Gn)(w:Tf)(f:Bool->Bool):R2:=λx y H Q=>yw P w f x y H Q
theorem Q7l(a:X.A.units+64<ET):hA X (Ed .In) (rQ X.prog X.w λb=>b):=by intro c s o H x y v u Q I l m h;have(b,d,k,j,rfl,rfl,D,i,q):=h;cases(show v=Tn b from l);cases(show u=Tn d from m);have(z,g,n,a,f):=jV I D.at_ D.keys;refine Cu (knd:=Vx X.prog X.w) (show X.A.units+1+10<ET by ext) (i.is I) g f ?_;have e:=(a.val k).Wz;rw[Ss]at e;rw[<-e];exact{.bl _,H,I.tok _,1,q}
theorem t9(a:X.A.units+64<ET):hA X (Ed .NotIn) (rQ X.prog X.w λb=>!b):=by intro c s o H x y v u Q I l m h;have(b,d,k,j,rfl,rfl,D,i,q):=h;cases(show v=Tn b from l);cases(show u=Tn d from m);have(z,g,n,a,f):=jV I D.at_ D.keys;refine RY (knd:=Vx X.prog X.w) (show X.A.units+1+10<ET by ext) (i.is I) g f ?_;have e:=(a.val k).Wz;rw[Ss]at e;rw[<-e];exact{.bl _,H,I.tok _,1,q}
inductive AG(P:Gn)(w:Tf)(x:V)(y:V)(H:Hp)(Q:VK):Prop
 |mk (d:_) (b:_) (k:_) (zw:_) (v:_) (h0:x=↑d) (h1:y=↑b) (h2:DH P w H d zw) (h3:ih H b k) (h4:Ys zw k/v) (h5:Q v H):AG P w x y H Q
def lG(P:Gn)(w:Tf):R2:=λx y H Q=>AG P w x y H Q
theorem jd(a:X.A.units+64<ET):iS X (lG X.prog X.w):=by
 intro g f j s B H x y v u Q I o t h hs;have(d,b,k,n,r,rfl,rfl,D,l,m,q):=h;cases(show v=Tn d from o);cases(show u=Tn b from t);have(z,A,w,c,i):=jV I D.at_ D.keys;have a:=c.val k;rw[m]at a;cases e:atKey w k with
 |none=>rw[e]at a;exact(show False from a).elim
 |some p=>rw[e]at a;refine L3 (x:=p.2) i.typeIs Me.lookup ?_ hs;exact NP (knd:=Vx X.prog X.w) (show X.A.units+1+10<ET by ext) (l.is I) i e {1,r,H,I.tok _,a,q}
inductive vJ(P:Gn)(w:Tf)(o:V)(i:V)(v:V)(H:Hp)(Q:Hp->Prop):Prop
 |mk (d:_) (b:_) (k:_) (zw:_) (h0:o=↑d) (h1:i=↑b) (h2:DH P w H d zw) (h3:ih H b k) (h4:⇑zw<TF) (h5:Q (zj H d (Uw P w d (Vo zw k b v)))):vJ P w o i v H Q
def m8(P:Gn)(w:Tf):nq:=λo i v H Q=>vJ P w o i v H Q
theorem jZ(a:X.A.units+64<ET):wW X (m8 X.prog X.w):=by
 intro g s K H o i v ov A u Q I C B E h;have(d,b,k,a,rfl,rfl,D,x,G,q):=h;cases(show ov=Tn d from C);cases(show A=Tn b from B);have(z,w,J,c,j):=jV I D.at_ D.keys;have y:⇑(Vo a k b v)<=TF:=by have:=nH a k b v;ext
 refine NQ (knd:=Vx X.prog X.w) (hsz:=by rw[<-GJ c];exact z) (show X.A.units+1+10<ET by ext) (x.is I) j λF e hs=>?_;have(ob,m,l,f,n,p,r,_,t):=e;refine{_,R9 (ob:=Uw X.prog X.w d (Vo a k b v)) I (by rw[D.at_];exact Ea) hs ⟨ob,f⟩ (sg {y,w,_,c.put k b E,ob,m,l,f,n,p,r,t}),q}
theorem QT:Up X (.builtin "len") (λxs H Q=>∃d a,xs=[↑d]/\DH X.prog X.w H d a/\Q (.int ⇑a) H):=by
 intro c s w H xs t Q I r h;have(d,a,rfl,D,q):=h;have(u,rfl,m):=vals1 r;cases(show u=Tn d from m);have(z,l,v,b,o,f,n,g,i,j,k,_):=kj I D.at_;have p:=jD;have e:f.size=⇑a:=by rw[GJ b,<-Gv (f:=entryOfKey (Vx X.prog X.w)),<-k,DC]
 refine QP l ⟨o,g,i,j⟩ (by lia) ?_;rw[e];exact{.int ⇑a,H,I.tok _,{40},q}
theorem Qk8(G:X.calm=Gi):Up X (.type "list") (λxs H Q=>∃d b,xs=[↑d]/\DH X.prog X.w H d b/\∀l,H l=Gq->Q ↑l (zj H l (.lst (b.map λp=>↑p.2.1)))):=by
 intro l s P H xs T Q I r h;have(d,b,rfl,D,q):=h;have(u,rfl,N):=vals1 r;cases(show u=Tn d from N);have(z,J,O,m,o,es,ep,B,C,E,n,j):=kj I D.at_;have e:es.size=⇑b:=by rw[GJ m,<-Gv (f:=entryOfKey (Vx X.prog X.w)),<-n,DC]
 refine Bb (VG (es:=es) (ep:=ep) J) (I.ok.hd G) ⟨o,B,C,E⟩ (by rw[e];exact z) λw x a A M F c=>?_;have g:⇑(b.map λp=>V.ref p.2.1)<=TF:=by rw[Gv];exact z
 have v:Yl (b.map λp=>V.ref p.2.1) a.toList:=by
  have k:es.toList.map (·.key)=O.map λq=>Tn q.2.1:=by rw[n,Di];rfl
  have f:a.toList=es.toList.map (·.key):=by
   refine L8 λi=>?_;by_cases hi:i<a.size
   .obtain⟨L,K,v⟩:=c.2 i a[i] (T6 hi);rw[Eb,T6 hi,Tq,Eb,K,v];rfl
   .have K:=c.1;rw[De (by simp;lia),De (by simp;lia)]
  rw[f,k];clear q z n k f g e c D j;induction m with
  |nil=>exact .nil
  |@cons p q R S K t L=>rw[Tt,Tt];refine .cons ?_ L;show Tn q.2.1=Tn p.2.1;rw[K.2.1]
 have y:zv X l P (zj H s.heap.objs.size (.lst (b.map λp=>↑p.2.1))) {s with heap:=w,toks:=x}:=
  I.laid (t':=x) M (Gz _) (show Yq X.prog X.w _ w _ (.lst _)from{g,a.toList,A,v,by rw[Su];exact F})
 exact{↑s.heap.objs.size,_,y,1,q _ (I.Ye.fresh (Gz _))}
end
end L2
namespace Sb
open PySem
variable{S:List Th}{L:Th->Int}{t x y:Th}{b d:Ge}{H H':Hp}{P:Gn}{w:Tf}
abbrev Tl:=List (Bool×Th×Th)
variable{tl:Tl}
mutual
inductive Cg(tl:Tl):Th->Th->Prop
 |refl (t:Th):Cg tl t t
 |symm {s t:Th}:Cg tl s t->Cg tl t s
 |trans {r s t:Th}:Cg tl r s->Cg tl s t->Cg tl r t
 |told {s t:Th}:(Gi,s,t)∈tl->Cg tl s t
 |cong {w:TM} {ps qs:List Th}:i0 tl ps qs->Cg tl (.mk w ps) (.mk w qs)
inductive i0(tl:Tl):List Th->List Th->Prop
 |nil:i0 tl [] []
 |cons {p q:Th} {ps qs:List Th}:Cg tl p q->i0 tl ps qs->i0 tl (p::ps) (q::qs)
end
theorem i0.of{b a:List Th}(h:⇑b=⇑a)(f:∀(i:Nat)p q,b[i]?/p->a[i]?/q->Cg tl p q):i0 tl b a:=by
 induction b generalizing a with
 |nil=>cases a with
  |nil=>exact .nil
  |cons=>cases h
 |cons p b c=>cases a with
  |nil=>cases h
  |cons q a=>exact .cons (f 0 p q rfl rfl) (c (C8 h) λi=>f (i+1))
inductive Dv where
 |cls (i:Int)
 |node (w:TM) (ds:List Dv)
open Classical in
noncomputable def act(S:List Th)(L:Th->Int)(w:TM)(ds:List Dv):Dv:=
 if h:∃a,Th.mk w a∈S/\a.map (λq=>Dv.cls (L q))=ds then .cls (L (.mk w (Fh h)))else .node w ds
mutual
noncomputable def ev(S:List Th)(L:Th->Int):Th->Dv
 |.mk w ps=>act S L w (evL S L ps)
noncomputable def evL(S:List Th)(L:Th->Int):List Th->List Dv
 |[]=>[]
 |p::r=>ev S L p::evL S L r
end
structure iX(tl:Tl)(S:List Th)(L:Th->Int):Prop where
 closed:∀w ps,Th.mk w ps∈S->∀p∈ps,p∈S
 told:∀a b,(Gi,a,b)∈tl->a∈S/\b∈S/\L a=L b
 cong:∀w ps qs,Th.mk w ps∈S->Th.mk w qs∈S->ps.map L=qs.map L->L (.mk w ps)=L (.mk w qs)
theorem uU{L:Th->Int}:∀{a b:List Th},a.map (λq=>Dv.cls (L q))=b.map (λq=>Dv.cls (L q))->a.map L=b.map L
 |[],[],_=>rfl
 |[],_::_,h=>by simp at h
 |_::_,[],h=>by simp at h
 |p::a,q::b,h=>by simp only[Tt,DB,Dv.cls.injEq]at h⊢;exact{h.1,uU h.2}
mutual
theorem lr{g:Tl}{S:List Th}{L:Th->Int}(T:iX g S L):∀t:Th,t∈S->ev S L t=.cls (L t)
 |.mk w a,h=>by
  have e:evL S L a=a.map (λq=>Dv.cls (L q)):=yC T a (T.closed w a h);have b:∃d,Th.mk w d∈S/\d.map (λq=>Dv.cls (L q))=a.map (λq=>Dv.cls (L q)):=⟨a,h,Xb⟩;have f:ev S L (.mk w a)=act S L w (evL S L a):=by simp only[ev]
  rw[f,e];unfold act;rw[dif_pos b];have c:=Ng b;rw[T.cong w _ a c.1 h (uU c.2)]
theorem yC{c:Tl}{S:List Th}{L:Th->Int}(T:iX c S L):∀a:List Th,(∀p∈a,p∈S)->evL S L a=a.map (λq=>Dv.cls (L q))
 |[],_=>by simp[evL]
 |p::r,h=>by simp only[evL,Tt];rw[lr T p (h p Tc),yC T r λq b=>h q (Gr _ b)]
end
theorem Q6h(T:iX tl S L){s:Th}(c:Cg tl s t):ev S L s=ev S L t:=
 Cg.rec (motive_1:=λs t _=>ev S L s=ev S L t) (motive_2:=λs t _=>evL S L s=evL S L t) (λ_=>rfl) (λ_ h=>h.symm) (λ_ _ h k=>h.trans k)
  (λm=>by have(a,b,d):=T.told _ _ m;rw[lr T _ a,lr T _ b,d]) (λ_ h=>by simp only[ev,h]) rfl (λ_ _ h k=>by simp only[evL,h,k]) c
theorem iX.complete(T:iX tl S L)(a:x∈S)(b:y∈S)(c:Cg tl x y):L x=L y:=by have e:=Q6h T c;rw[lr T x a,lr T y b]at e;injection e
structure Tells(tl:Tl)(S:List Th)(L:Th->Int):Prop where
 tab:iX tl S L
 sound:∀x∈S,∀y∈S,L x=L y->Cg tl x y
theorem Tells.iff(T:Tells tl S L)(a:x∈S)(b:y∈S):L x=L y↔Cg tl x y:={T.sound x a y b,T.tab.complete a b}
def mrg(L:Th->Int)(o n:Int):Th->Int:=λt=>if L t=o then n else L t
theorem tM{o n:Int}(h:L x=L y):mrg L o n x=mrg L o n y:=by unfold mrg;rw[h]
theorem KC{a b:Th}(i:a∈S)(j:b∈S)(s:∀x∈S,∀y∈S,L x=L y->Cg tl x y)(c:Cg tl a b):∀x∈S,∀y∈S,mrg L (L a) (L b) x=mrg L (L a) (L b) y->Cg tl x y:=by
 intro x g y h e;unfold mrg at e;by_cases f:L x=L a
 .by_cases d:L y=L a
  .exact s x g y h (f.trans d.symm)
  .rw[GX f,Gs d]at e;exact .trans (s x g a i f) (.trans c (s b j y h e))
 .by_cases d:L y=L a
  .rw[Gs f,GX d]at e;exact .trans (s x g b j e) (.trans (.symm c) (.symm (s y h a i d)))
  .rw[Gs f,Gs d]at e;exact s x g y h e
open PySem PySem.Spec PyProof.Rows L2
mutual
def kd:Th->KD
 |.mk w ps=>.tup (.str w::kds ps)
def kds:List Th->List KD
 |[]=>[]
 |p::r=>kd p::kds r
end
mutual
theorem Oy:∀t:Th,(kd t).toD=t.toD
 |.mk w a=>by simp only[kd,KD.toD,Ri,Th.toD,zK a]
theorem zK:∀a:List Th,Ri (kds a)=X9 a
 |[]=>by simp[kds,Ri,X9]
 |t::r=>by simp only[kds,Ri,X9,Oy t,zK r]
end
theorem XI(t:Th):(kd t).depth=t.depth:=by rw[<-ou,Oy,Xi]
theorem kM{s:Th}(h:kd s=kd t):s=t:=by
 have e:s.toD=t.toD:=by rw[<-Oy,<-Oy,h]
 exact(Ii s t).mp (by rw[e];exact(Ii t t).mpr Xb)
mutual
theorem AV{H:Hp}:∀(t:Th){v:V},Dt H v t.toD->Z5 H v t
 |.mk w c,v,h=>by
  simp only[Th.toD]at h;cases h with
  |tup e r=>
   cases r with
   |cons a b=>cases a;exact .mk e (yt c b)
theorem yt{H:Hp}:∀(b:List Th){a:List V},hF H a (X9 b)->Zw H a b
 |[],a,h=>by simp only[X9]at h;cases h;exact .nil
 |t::r,a,h=>by
  simp only[X9]at h;cases h with
  |cons c d=>exact .cons (AV t c) (yt r d)
end
theorem Ot(h:Z5 H ↑b t)(ok:t.ok=Gi)(a:t.depth<=8):ih H b (kd t):={by rw[Oy];exact h.dt,by rw[Oy];exact We t ok,by rw[XI];exact a}
mutual
theorem wH{H a:Hp}(e:Q6 H a):∀(k:KD){v:V},Dt H v k.toD->Dt a v k.toD
 |.int i,v,h=>by simp only[KD.toD]at h⊢;cases h;exact .int i
 |.str x,v,h=>by simp only[KD.toD]at h⊢;cases h;exact .str x
 |.tup d,v,h=>by
  simp only[KD.toD]at h⊢;cases h with
  |tup b c=>exact .tup (e _ _ b) (yM e d c)
theorem yM{H b:Hp}(e:Q6 H b):∀(c:List KD){a:List V},hF H a (Ri c)->hF b a (Ri c)
 |[],a,h=>by simp only[Ri]at h⊢;cases h;exact .nil
 |k::r,a,h=>by
  simp only[Ri]at h⊢;cases h with
  |cons d f=>exact .cons (wH e k d) (yM e r f)
end
theorem Zq(e:Q6 H H'){a:List KE}(h:U5 H a):U5 H' a:=λp b=>{wH e p.1 (h p b).1,(h p b).2}
structure Num(P:Gn)(w:Tf)(H:Hp)(d:Ge)(S:List Th)(L:Th->Int):Prop where
 ex:∃zw:List KE,H d/Uw P w d zw/\U5 H zw/\zw.map (·.1)=S.map kd/\∀t∈S,Ys zw (kd t)/.int (L t)
 ok:∀t∈S,t.ok=Gi/\t.depth<=8
theorem Num.at(N:Num P w H d S L):∃o,H d/.ext o:=by have(a,h,_):=N.ex;exact{_,h}
theorem Num.keep(N:Num P w H d S L)(h:∀o,H d/o->H' d/o)(e:Q6 H H'):Num P w H' d S L:=by have(a,b,c,f,g):=N.ex;exact{{a,h _ b,Zq e c,f,g},N.ok}
theorem Num.same(N:Num P w H d S L)(e:Za H H'):Num P w H' d S L:=N.keep (λo h=>e d o h) (Q6.of e)
theorem Num.get{Q:VK}(N:Num P w H d S L)(ht:t∈S)(h:Z5 H ↑b t)(q:Q (.int (L t)) H):lG P w ↑d ↑b H Q:=by have(a,c,e,g,f):=N.ex;exact{d,b,kd t,a,01,⟨c,e⟩,Ot h (N.ok t ht).1 (N.ok t ht).2,f t ht,q}
theorem Num.put{P:Gn}{w:Tf}{H:Hp}{d b:Ge}{S:List Th}{L:Th->Int}{t:Th}{i:Int}{Q:Hp->Prop}(N:Num P w H d S L)(f:⇑S<=1000000)(ht:t∈S)(h:Z5 H ↑b t)
  (q:∀f,(∀c o,H c/o->c≠d->f c/o)->Num P w f d S (λu=>if u=t then i else L u)->Q f):m8 P w ↑d ↑b (.int i) H Q:=by
 have(a,g,j,k,l):=N.ex;have s:⇑a=⇑S:=by have:=congrArg Sc k;simpa using this
 have m:=Ot h (N.ok t ht).1 (N.ok t ht).2;refine{d,b,kd t,a,11,⟨g,j⟩,m,by rw[TH];ext,q _ (λc o e f=>by rw[Qh f];exact e) ?_};have r:Q6 H (zj H d (Uw P w d (Vo a (kd t) b (.int i)))):=Z2 λv e=>by rw[g]at e;cases e
 refine{{_,Qb,Zq r (j.put m),?_,λu n=>?_},N.ok}
 .rw[zY b _ (l t ht),Di];rw[<-k];refine TY λp _=>?_;show(if p.1=kd t then(p.1,p.2.1,V.int i)else p).1=p.1;split<;>rfl
 .rw[Ia];by_cases e:u=t
  .subst e;rw[GX Xb,GX rfl]
  .rw[Gs (λz=>e (kM z)),Gs e];exact l u n
theorem Num.add{i:Int}{Q:Hp->Prop}(N:Num P w H d S L)(j:⇑S<=1000000)(ht:¬t∈S)(ok:t.ok=Gi)(l:t.depth<=8)(h:Z5 H ↑b t)
  (q:∀j,(∀c o,H c/o->c≠d->j c/o)->Num P w j d (S++[t]) (λu=>if u=t then i else L u)->Q j):m8 P w ↑d ↑b (.int i) H Q:=by
 have(f,m,n,k,y):=N.ex;have C:⇑f=⇑S:=by have:=congrArg Sc k;simpa using this
 have s:=Ot h ok l;have g:Ys f (kd t)=Gq:=by
  cases e:Ys f (kd t)with
  |none=>rfl
  |some v=>exfalso;unfold Ys at e;have(p,r,_):=L4.mp e;have z:=FA r;have A:p.1=kd t:=Do z;have j:kd t∈f.map (·.1):=Tx.mpr {p,So r,A};rw[k]at j;have(u,a,x):=Tx.mp j;exact ht (kM x▸a)
 refine{d,b,kd t,f,11,⟨m,n⟩,s,by rw[TH];ext,q _ (λc o e j=>by rw[Qh j];exact e) ?_};have B:Q6 H (zj H d (Uw P w d (Vo f (kd t) b (.int i)))):=Z2 λD e=>by rw[m]at e;cases e
 refine{{_,Qb,Zq B (n.put s),?_,λu a=>?_},λu a=>?_}
 .rw[sV b _ g,TZ,k,TZ];rfl
 .rw[Ia];by_cases e:u=t
  .subst e;rw[GX Xb,GX rfl]
  .rw[Gs (λz=>e (kM z)),Gs e];rcases Gh.mp a with a|a
   .exact y u a
   .rw[GV]at a;exact absurd a e
 .rcases Gh.mp a with a|a
  .exact N.ok u a
  .rw[GV]at a;subst a;exact⟨ok,l⟩
theorem Num.Pu{Q:VK}(N:Num P w H d S L)(ok:t.ok=Gi)(g:t.depth<=8)(h:Z5 H ↑b t)(q:Q (.bl (!decide (t∈S))) H):rQ P w (λb=>!b) ↑b ↑d H Q:=by
 have(a,j,k,l,m):=N.ex;exists b,d,kd t,a,11,⟨j,k⟩,Ot h ok g;have e:(Ys a (kd t)).isSome=decide (t∈S):=by
  by_cases ht:t∈S
  .rw[Tg ht,m t ht];rfl
  .rw[Td ht];cases e:Ys a (kd t)with
   |none=>rfl
   |some v=>exfalso;unfold Ys at e;have(p,f,_):=L4.mp e;have n:=FA f;have o:p.1=kd t:=Do n;have c:kd t∈a.map (·.1):=Tx.mpr {p,So f,o};rw[l]at c;have(u,r,i):=Tx.mp c;exact ht (kM i▸r)
 rw[e];exact q
theorem Num.names(N:Num P w H d S L):∃a,DH P w H d a/\⇑a=⇑S/\Zw H (a.map λp=>V.ref p.2.1) S:=by
 have(a,f,b,c,j):=N.ex;have i:⇑a=⇑S:=by have:=congrArg Sc c;simpa using this
 exists a,⟨f,b⟩,i;have all:∀(l:List KE)(S:List Th),(∀p∈l,p∈a)->l.map (·.1)=S.map kd->Zw H (l.map λp=>V.ref p.2.1) S:=by
  intro l;induction l with
  |nil=>intro S _ e;cases S with
   |nil=>exact .nil
   |cons t r=>simp at e
  |cons p l h=>intro S sub e;cases S with
   |nil=>simp at e
   |cons t r=>simp only[Tt,DB]at e;refine .cons (AV t ?_) (h r (λq g=>sub q (Gr _ g)) e.2);have:=(b p (sub p Tc)).1;rw[e.1,Oy]at this;exact this
 exact all a S (λ_ h=>h) c
def tw(b:Bool):TM:=if b then"same"else"unlike"
def Uk(H:Hp):List V->Tl->Prop:=Df λx p=>∃a v u,x=.ref a/\H a/.tup [.str (tw p.1),v,u]/\Z5 H v p.2.1/\Z5 H u p.2.2
theorem Uk.Qv{H b:Hp}(e:Q6 H b){d:List V}{c:Tl}(h:Uk H d c):Uk b d c:=Qr h λx p k=>by have(a,v,u,f,g,i,j):=k;exact{a,v,u,f,e _ _ g,i.Qv e,j.Qv e}
def iw(H:Hp):List V->List (Th×Th)->Prop:=Df λx p=>∃a v u,x=.ref a/\H a/.tup [v,u]/\Z5 H v p.1/\Z5 H u p.2
theorem iw.Qv{H b:Hp}(e:Q6 H b){c:List V}{l:List (Th×Th)}(h:iw H c l):iw b c l:=Qr h λx p j=>by have(a,v,u,d,f,g,i):=j;exact{a,v,u,d,e _ _ f,g.Qv e,i.Qv e}
theorem Qy{a d:Type}{F:a->d->Prop}{b:List a}{c:List d}{i:Nat}{x:a}(h:Df F b c)(e:b[i]?/x):∃y,c[i]?/y/\F x y:=by
 induction h generalizing i with
 |nil=>cases e
 |cons h _ f=>cases i with
  |zero=>cases e;exact{0,h}
  |succ=>exact f e
theorem Zs{e f:Type}{F:e->f->Prop}{a b:List e}{c d:List f}(h:Df F a c)(t:Df F b d):Df F (a++b) (c++d):=by
 induction h with
 |nil=>exact t
 |cons h _ g=>exact .cons h g
noncomputable def Ol(tl:Tl):List (Th×Th):=(tl.filter (·.1)).map (·.2)
theorem yO{a b:Th}:(a,b)∈Ol tl↔(Gi,a,b)∈tl:=by
 unfold Ol;rw[Tx];constructor
 .rintro⟨⟨c,x⟩,h,e⟩;rw[Fy]at h;have(d,f):=h;have:c=Gi:=f;subst this;cases e;exact d
 .intro h;exact{(Gi,a,b),Fy.mpr ⟨h,Xb⟩,1}
inductive tL(P:Gn)(w:Tf)(vs:List V)(H:Hp)(Q:VK):Prop
 |mk (a:Ge) (b:Ge) (us:List V) (vs':List V) (tl:Tl) (ts:List Th) (h0:vs=[↑a,↑b]) (h1:H a/.lst us) (h2:Uk H us tl) (h3:H b/.lst vs') (h4:Zw H vs' ts) (h5:(∀t∈ts,t.ok=Gi/\t.depth<=8)) (h6:(∀p∈tl,(p.2.1.ok=Gi/\p.2.1.depth<=8)/\p.2.2.ok=Gi/\p.2.2.depth<=8)) (h7:Q8 ts+Q8 (tl.map (·.2.1))+Q8 (tl.map (·.2.2))<=3000) (h8:∀(d:Ge)(S:List Th)(L:Th->Int)(H':Hp),Za H H'->H d=Gq->Num P w H' d S L->Tells tl S L->(∀t∈ts,t∈S)->(∀p∈tl,p.2.1∈S/\p.2.2∈S)->Q ↑d H'):tL P w vs H Q
def xQ(P:Gn)(w:Tf):Sp:=λa H Q _=>tL P w a H Q
end Sb
namespace L2
open PySem PySem.Spec PyProof.Rows
variable{d:Ge}{H:Hp}
theorem Rl{K:Gd}{a p:Ge}{xs:List V}{g:TG}{A:TT}{z:TE}{Q:Hp->Prop}{n:St}{t:Hp}(f:⇑xs<=TF)(h:Nat->List V->St->Hp->Prop)(B:h 0 [] n (zj t p (.lst [])))
  (D:∀i c d H,i<=⇑xs->h i c d H->Jf K H a xs)
  (hs:∀i x c d H,xs[i]?/x->h i c d H->H p/.lst c->g x d H λj H2=>A j H2 λb o=>if b=Gi then z j o λv u=>u p/.lst c/\h (i+1) (c++[v]) j (zj u p (.lst (c++[v])))else o p/.lst c/\h (i+1) c j o)
  (C:∀c d H,h ⇑xs c d H->H p/.lst c->Q H):jL p (iP K a) g A z Q n (zj t p (.lst [])):=by
 exists λi m d H=>m=⇑xs - i/\i<=⇑xs/\∃c,⇑c<=i/\h i c d H/\H p/.lst c,{⇑xs,by simp,Ts _,[],Gz _,B,Qb};rintro i m d H ⟨rfl,hi,c,E,pv,w⟩;have q:=D i c d H hi pv;by_cases l:i<⇑xs
 .refine .inr ⟨{xs,xs[i],q,by simp[l]},λv f k=>k p/.lst c/\h (i+1) (c++[v]) f (zj k p (.lst (c++[v]))),λf k=>k p/.lst c/\h (i+1) c f k,
   λv f k⟨r,s⟩=>{c,r,by lia,⇑xs - (i+1),by lia,1,l,c++[v],by simp[E],s,Qb},λf k⟨r,s⟩=>{⇑xs - (i+1),by lia,1,l,c,by lia,s,r},λx k y=>?_⟩
  have(e,y):=y;subst e;exact hs i x c d _ (y xs q) pv w
 .have e:i=⇑xs:=by lia
  subst e;exact .inl {{xs,q,Gz _},C c d H pv w}
def Tr(t:TS)(c a:St->Hp->Prop):Prop:=∀D σ H,c σ H->(∀b H',a b H'->D.nx b H')->t D σ H
def R7(d:Ge)(H H':Hp):Prop:=∀c o,H c/o->c≠d->H' c/o
theorem R7.refl:R7 d H H:=λ_ _ e _=>e
theorem R7.trans{f g:Hp}(a:R7 d H f)(b:R7 d f g):R7 d H g:=λc o e h=>b c o (a c o e h) h
theorem R7.of{a:Hp}(e:Za H a):R7 d H a:=λc o h _=>e c o h
end L2
namespace Sb
open PySem PySem.Spec PyProof.Rows L2
variable{H:Hp}{tl:Tl}
theorem _root_.L2.R7.Qv{d:Ge}{f:Hp}{o:HO}(b:R7 d H f)(h:H d/o)(g:∀a,o≠.tup a):Q6 H f:=λc a e=>b c _ e λz=>by subst z;rw[h]at e;exact g a (T3 e)
theorem YN{b:Type}{p q:b->Bool}{l:List b}(h:∀x∈l,p x=Gi->q x=Gi):l.countP p<=l.countP q:=by
 induction l with
 |nil=>exact Gz _
 |cons x r a=>
  have a:=a (λy d=>h y (Gr _ d));have c:=h x Tc;rw[Fi,Fi];cases e:p x with
  |true=>rw[c e];exact MC a
  |false=>exact Dl a (DF _ _)
theorem tq{g:Type}{p q:g->Bool}{l:List g}(h:∀x∈l,p x=Gi->q x=Gi)(k:∃x∈l,q x=Gi/\p x=Gx):l.countP p<l.countP q:=by
 induction l with
 |nil=>have(x,a,_):=k;cases a
 |cons x r b=>
  have f:∀x∈r,p x=Gi->q x=Gi:=λy a=>h y (Gr _ a);have(y,a,c,d):=k;rw[Fi,Fi];rcases Ti.mp a with rfl|a
  .rw[c,d];exact MC (YN f)
  .have b:=b f ⟨y,a,c,d⟩;have i:=h x Tc;cases e:p x with
   |true=>rw[i e];exact Nat.succ_lt_succ b
   |false=>exact TV b (DF _ _)
noncomputable def dis(S:List Th)(L:Th->Int):Nat:=(S.flatMap λx=>S.map λy=>(x,y)).countP λp=>decide (L p.1≠L p.2)
theorem Q26{S:List Th}{L a:Th->Int}(h:∀x∈S,∀y∈S,L x=L y->a x=a y)(i:∃x∈S,∃y∈S,L x≠L y/\a x=a y):dis S a<dis S L:=by
 have(x,c,y,d,f,g):=i;refine tq (λp b e=>?_) {(x,y),?_,Tg f,by simp[g]}
 .rw[Ez]at b;have(x,c,b):=b;have(y,d,rfl):=Tx.mp b;exact Tg λz=>(Do e) (h x c y d z)
 .rw[Ez];exact{x,c,Tx.mpr ⟨y,d,Xb⟩}
theorem Ug{H:Hp}:∀l:List Int,hF H (l.map V.int) (l.map Eh)
 |[]=>.nil
 |i::r=>.cons (.int i) (Ug r)
theorem Ue(l:List Int):Gw (l.map Eh)=Gi:=by
 induction l with
 |nil=>simp[Gw]
 |cons i r a=>simp[Gw,Tu,a]
theorem Os(l:List Int):TW (l.map Eh)<=1:=by
 induction l with
 |nil=>simp[TW]
 |cons i r a=>simp only[Tt,TW,Dp];ext
theorem rH(l m:List Int):Dx (l.map Eh) (m.map Eh)=decide (l=m):=by
 induction l generalizing m with
 |nil=>cases m<;>simp[Dx]
 |cons i l a=>cases m with
  |nil=>simp[Dx]
  |cons j m=>
   simp only[Tt,Dx,TX,a m];by_cases h:i=j
   .subst h;simp
   .simp[h]
theorem Ax{P:Gn}{w:Tf}{K:Gd}{r p d:Ge}{k:List V}{g S:List Th}{L:Th->Int}{Q:Hp->Prop}(u:H r/.tup k)(f:Zw H k g)(c:∀t∈g,t∈S)(N:Num P w H d S L)(m:H p=Gq)(b:⇑k<=3000)
  (q:∀b,Za H b->b p/.lst ((g.map L).map V.int)->Q b):jL p (jo K r) (Ui 0) mJ (tOp (lG P w) (Uj 1) (Uj 0)) Q [Gq,Ga ↑d] (zj H p (.lst [])):=by
 refine Jx (K:=K) (a:=r) (xs:=k) (small ∅) (λi h l j=>(∃s,l=[s,Ga ↑d])/\h=((g.take i).map L).map V.int/\j=zj H p (.lst h)) {{40},by simp,1} (λi h l j _⟨_,_,e⟩=>Qj (by rw[e];exact Qf m _ _ _ u)) ?_ ?_
 .rintro i x h l j hi n ⟨⟨s,rfl⟩,rfl,rfl⟩ a;have(t,ht,e):=f.get hi;have(b,_,_,_,rfl,_,_,_):=e.inv;have o:=Qf m (.lst (((g.take i).map L).map V.int));refine{00,(N.same o).get (c t (Gc ht)) (e.same o) {a,{40},?_,?_}}
  .rw[TD,ht];simp
  .rw[Vb]
 .rintro h l j n ⟨_,rfl,rfl⟩ a;rw[⇑f,Tw]at a⊢;exact q _ (Qf m _) a
inductive Dd where
 |tell (b:Bool) (x y:Th)
 |ask (x y:Th)
 |back (i:Int)
variable{d:Dd}
def Dd.fits(ts:List Th):Dd->Prop
 |.tell _ x y=>x∈ts/\y∈ts
 |.ask x y=>x∈ts/\y∈ts
 |.back _=>True
def iF(H:Hp)(x:V):Dd->Prop
 |.tell b t u=>∃a c d,x=.ref a/\H a/.tup [.str (tw b),c,d]/\Z5 H c t/\Z5 H d u
 |.ask t u=>∃a c d,x=.ref a/\H a/.tup [.str "ask",c,d]/\Z5 H c t/\Z5 H d u
 |.back i=>∃a,x=.ref a/\H a/.tup [.str "back",.int i]
theorem iF.Qv{H f:Hp}(e:Q6 H f){x:V}{d:Dd}(h:iF H x d):iF f x d:=by
 cases d with
 |back=>have(a,b,c):=h;exact{a,b,e _ _ c}
 |_=>have(a,j,k,b,c,g,i):=h;exact{a,j,k,b,e _ _ c,g.Qv e,i.Qv e}
def Vt(H:Hp):List V->List Dd->Prop:=Df λx d=>iF H x d
theorem Vt.Qv{H a:Hp}(e:Q6 H a){c:List V}{b:List Dd}(h:Vt H c b):Vt a c b:=Qr h λ_ _ h=>h.Qv e
theorem Vt.same{a:Hp}(e:Za H a){c:List V}{b:List Dd}(h:Vt H c b):Vt a c b:=h.Qv (Q6.of e)
inductive uq(K:Gd)(vs:List V)(H:Hp)(Q:VK):Prop
 |mk (a:Ge) (b:Ge) (ns:List Int) (us:List V) (ts:List Th) (h0:vs=[↑a,↑b]) (h1:Jf K H a (ns.map V.int)) (h2:⇑ns<=63) (h3:H b/.lst us) (h4:Zw H us ts) (h5:0<⇑ts) (h6:⇑ts<=1000) (h7:∀(r:Ge)(es:List V)(dl:List Dd)(H':Hp),Za H H'->H r=Gq->H' r/.lst es->Vt H' es dl->⇑dl=⇑ns->(∀d∈dl,d.fits ts)->Q ↑r H'):uq K vs H Q
def xT(K:Gd):Sp:=λa H Q _=>uq K a H Q
inductive yZ(vs:List V)(H:Hp)(Q:VK):Prop
 |mk (n:Int) (h0:vs=[.int n]) (h1:∀(m:Int)(H':Hp),Za H H'->Q (.int m) H'):yZ vs H Q
def zF:Sp:=λa H Q _=>yZ a H Q
inductive Xq(tl:Tl):Prop
 |mk (a:_) (b:_) (h0:(Gx,a,b)∈tl) (h1:Cg tl a b):Xq tl
inductive xc(vs:List V)(H:Hp)(Q:VK):Prop
 |mk (a:Ge) (e:Ge) (us:List V) (tl:Tl) (v1:V) (v2:V) (b:Bool) (x:Th) (y:Th) (h0:vs=[↑a,↑e]) (h1:H a/.lst us) (h2:Uk H us tl) (h3:H e/.tup [.str (tw b),v1,v2]) (h4:Z5 H v1 x) (h5:Z5 H v2 y) (h6:(x.ok=Gi/\x.depth<=8)) (h7:(y.ok=Gi/\y.depth<=8)) (h8:(∀p∈tl,(p.2.1.ok=Gi/\p.2.1.depth<=8)/\p.2.2.ok=Gi/\p.2.2.depth<=8)) (h9:Q8 (tl.map (·.2.1))+Q8 (tl.map (·.2.2))+x.size+y.size<=3000) (h10:∀(r:Bool)(H':Hp),Za H H'->(r=Gi↔Xq (tl++[(b,x,y)]))->Q (.bl r) H'):xc vs H Q
def qf:Sp:=λa H Q _=>xc a H Q
open Classical in
noncomputable def kindOf(tl:Tl)(x y:Th):TM:=if Cg tl x y then"equal"else if∃a b,(Gx,a,b)∈tl/\Cg (tl++[(Gi,x,y)]) a b then"unlike"else"open"
open Classical in
noncomputable def Uo(tl:Tl):Dd->Tl×V
 |.ask x y=>(tl,.str (kindOf tl x y))
 |.back i=>if 0<=i/\i<=(⇑tl:Int)then(tl.take i.toNat,.int ((⇑tl:Int) - i))else(tl,.str "no moment")
 |.tell b x y=>if Xq (tl++[(b,x,y)])then(tl,.str "clash")else(tl++[(b,x,y)],.int ((⇑tl:Int)+1))
noncomputable def after(tl:Tl):List Dd->Tl
 |[]=>tl
 |d::ds=>after (Uo tl d).1 ds
noncomputable def ma(tl:Tl):List Dd->List V
 |[]=>[]
 |d::ds=>(Uo tl d).2::ma (Uo tl d).1 ds
theorem Vn(c:Tl):∀(b a:List Dd),after c (b++a)=after (after c b) a
 |[],a=>rfl
 |d::b,a=>Vn (Uo c d).1 b a
theorem oX{a:List Dd}{k:Nat}(h:a[k]?/d):after tl (a.take (k+1))=(Uo (after tl (a.take k)) d).1:=by rw[TD,h,Vn];rfl
def Th.good(t:Th):Prop:=t.ok=Gi/\t.depth<=8/\t.size<=100
def Dd.good:Dd->Prop
 |.tell _ x y=>x.good/\y.good
 |.ask x y=>x.good/\y.good
 |.back _=>True
def iu(tl:Tl):Prop:=∀p∈tl,p.2.1.good/\p.2.2.good
theorem WQ(h:iu tl)(g:d.good):iu (Uo tl d).1:=by
 cases d with
 |ask x y=>exact h
 |back i=>
  simp only[Uo];split
  .exactλp a=>h p (Dm a)
  .exact h
 |tell b x y=>
  simp only[Uo];split
  .exact h
  .intro p a;rcases Gh.mp a with z|z
   .exact h p z
   .rw[GV]at z;subst z;exact g
theorem WS:⇑(Uo tl d).1<=⇑tl+1:=by
 cases d with
 |ask x y=>exact LW _
 |back i=>
  simp only[Uo];split
  .rw[Db];ext
  .exact LW _
 |tell b x y=>
  simp only[Uo];split
  .exact LW _
  .rw[Gk,GQ];ext
theorem O5:∀{ds:List Dd}{tl:Tl},iu tl->(∀d∈ds,d.good)->iu (after tl ds)
 |[],_,h,_=>h
 |d::ds,tl,h,g=>by have:=O5 (ds:=ds) (tl:=(Uo tl d).1) (WQ h (g d Tc)) λe a=>g e (Gr _ a);simp only[after];exact this
theorem Jy:∀{ds:List Dd}{tl:Tl},⇑(after tl ds)<=⇑tl+⇑ds
 |[],tl=>Gz _
 |d::ds,tl=>by have a:=Jy (ds:=ds) (tl:=(Uo tl d).1);have b:=WS (tl:=tl) (d:=d);simp only[after,TQ];lia
theorem vw(h:iu tl):Q8 (tl.map (·.2.1))<=⇑tl*100/\Q8 (tl.map (·.2.2))<=⇑tl*100:=by
 have b:=y8 (tl.map (·.2.1)) 100 λt ht=>by have(p,a,rfl):=Tx.mp ht;exact(h p a).1.2.2
 have c:=y8 (tl.map (·.2.2)) 100 λt ht=>by have(p,a,rfl):=Tx.mp ht;exact(h p a).2.2.2
 rw[Gv]at b c;exact⟨b,c⟩
noncomputable def tlD(p:Bool×Th×Th):DI:=.tuple [.str (tw p.1),p.2.1.toD,p.2.2.toD]
theorem Uk.dts{b:List V}(h:Uk H b tl):hF H b (tl.map tlD):=by
 unfold Uk at h;induction h with
 |nil=>exact .nil
 |cons h r g=>have(a,v,u,c,d,e,f):=h;subst c;exact .cons (.tup d (.cons (.str _) (.cons e.dt (.cons f.dt .nil)))) g
def pM(d:DI):Prop:=d.canLay0=Gi/\W0 d<=1000/\d.depth<=20
theorem UB{a:List DI}(h:∀d∈a,pM d)(f:⇑a<=100):(Fq a).canLay0=Gi/\W0 (Fq a)<=1000000/\(Fq a).depth<=60:=by
 have all:Gw a=Gi/\Z0 a<=⇑a*1000/\TW a<=20:=by
  clear f;induction a with
  |nil=>simp[Gw,Z0,TW]
  |cons d r i=>
   have(b,j,k):=h d Tc;have(g,l,m):=i λe c=>h e (Gr _ c);exists by simp[Gw,b,g],?_
   .simp only[Z0,TQ];lia
   .simp only[TW];lia
 exists by simp only[Tu];exact all.1,?_
 .simp only[W0];lia
 .simp only[Dp];lia
theorem xo(b:Bool):DM (tw b)=Gi:=by cases b<;>decide+kernel
theorem Pm{s:TM}{x y:Th}(hs:DM s=Gi)(a:x.good)(b:y.good):pM (.tuple [.str s,x.toD,y.toD]):=by
 have c:=We x a.1;have d:=We y b.1;have n1:=ph x;have n2:=ph y;have e:=Xi x;have f:=Xi y;have:=a.2;have:=b.2;exists by simp[Tu,Gw,c,d,hs],?_
 .simp only[W0,Z0];lia
 .simp only[Dp,TW];lia
theorem OM(h:iu tl):∀d∈tl.map tlD,pM d:=λd b=>by have(p,a,rfl):=Tx.mp b;exact Pm (xo p.1) (h p a).1 (h p a).2
structure jE(U:List Th):Prop where
 cl:Ux U
 good:∀t∈U,t.good
 len:⇑U<=60
theorem jE.oy{U:List Th}(h:jE U)(f:d.fits U):d.good:=by
 cases d with
 |tell b x y=>exact{h.good x f.1,h.good y f.2}
 |ask x y=>exact{h.good x f.1,h.good y f.2}
 |back i=>exact Ea
theorem WX{a:List Th}(h:∀t∈a,∀p∈t.parts,p∈a):Ux a:=by
 have b:∀n:Nat,∀t∈a,t.depth<=n->∀s∈t.inside,s∈a:=by
  intro n;induction n with
  |zero=>intro t _ c;have:=qO t;lia
  |succ n e=>
   intro t ht c s hs;cases t with
   |mk u f=>
    simp only[Th.inside,Gh,GV]at hs;rcases hs with hs|rfl
    .rw[X7,Ez]at hs;have(p,d,hs):=hs;have:=Wl d;simp only[Th.depth]at c;exact e p (h _ ht p d) (by lia) s hs
    .exact ht
 exactλt ht=>b _ t ht (Gz _)
def Sub(tl a:Tl):Prop:=∀b x y,(b,x,y)∈tl->(b,x,y)∈a\/(b,y,x)∈a
theorem Cg.sub{a:Tl}(h:Sub tl a){s t:Th}(c:Cg tl s t):Cg a s t:=
 Cg.rec (motive_1:=λs t _=>Cg a s t) (motive_2:=λs t _=>i0 a s t) .refl (λ_=>.symm) (λ_ _=>.trans) (λm=>(h _ _ _ m).elim .told λz=>.symm (.told z)) (λ_=>.cong) .nil (λ_ _=>.cons) c
theorem Ig{a:Tl}(h:Sub tl a)(b:Xq tl):Xq a:=by
 have(x,y,m,c):=b;rcases h _ _ _ m with z|z
 .exact{x,y,z,c.sub h}
 .exact{y,x,z,.symm (c.sub h)}
theorem qu(n:Nat):Sub (tl.take n) tl:=λ_ _ _ m=>.inl (Dm m)
theorem K8:¬Xq []:=λ⟨_,_,m,_⟩=>nomatch m
theorem UP(h:¬Xq tl):¬Xq (Uo tl d).1:=by
 cases d with
 |ask x y=>exact h
 |back i=>
  simp only[Uo];split
  .exactλb=>h (Ig (qu _) b)
  .exact h
 |tell b x y=>
  simp only[Uo];split
  .exact h
  .rename_i z;exact z
theorem Io:∀{ds:List Dd}{tl:Tl},¬Xq tl->¬Xq (after tl ds)
 |[],_,h=>h
 |d::ds,tl,h=>by have:=Io (ds:=ds) (tl:=(Uo tl d).1) (UP h);simp only[after];exact this
def Ww(p:Bool×Th×Th):Dd:=.tell p.1 p.2.1 p.2.2
theorem xw:∀(a d:Tl),¬Xq (d++a)->after d (a.map Ww)=d++a/\ma d (a.map Ww)=(EM ⇑a).map λk:Nat=>V.int ((⇑d:Int)+(k:Int)+1)
 |[],d,_=>by simp[after,ma]
 |p::a,d,h=>by
  have(b,x,y):=p;have j:¬Xq (d++[(b,x,y)]):=λz=>h (Ig (λc u v m=>.inl (by
   rcases Gh.mp m with m|m
   .exact Gu _ m
   .rw[GV]at m;rw[m];exact TJ _ Tc)) z)
  have e:Uo d (.tell b x y)=(d++[(b,x,y)],.int ((⇑d:Int)+1)):=by simp only[Uo];rw[Gs j]
  have f:d++(b,x,y)::a=(d++[(b,x,y)])++a:=by simp
  rw[f]at h⊢;have(g,i):=xw a (d++[(b,x,y)]) h;exists ?_
  .simp only[Tt,Ww,after,e];exact g
  .simp only[Tt,Ww,ma,e];have c:ma (d++[(b,x,y)]) (a.map Ww)=(EM ⇑a).map λk:Nat=>V.int ((⇑(d++[(b,x,y)]):Int)+(k:Int)+1):=i;have u:(a.map λp:Bool×Th×Th=>Dd.tell p.1 p.2.1 p.2.2)=a.map Ww:=rfl;first
    |rw[u,c]
    |rw[c]
   rw[TQ,List.range_succ_eq_map,Tt,Di];simp only[DB];refine{by simp,TY λk _=>?_};simp only[Cz,V.int.injEq,Gk,GQ];ext
end Sb
namespace L2
open PySem PySem.Spec PyProof.Rows
def lb(K:Gd)(a:Ge)(n:Nat):It:=
 {λi H=>∃xs,Jf K H a xs/\⇑xs=n/\i<n,λi H x H'=>H'=H/\∀xs,Jf K H a xs->xs[n - 1 - i]?/x,λi _=>i=n}
theorem VU{P:Gn}{w:Tf}{K:Gd}{tg:D0}(a m:Ge)(n:Nat):jc P w K tg (lb K a n) [m] m (λi h=>i<=n/\h.IsRevIter m a ((n:Int) - 1 - (i:Int))) where
 mem:=by simp
 obj:=λi h g b l=>by
  have e:b=m:=by simpa using l
  subst e;have(_,o,e,c,d):=g;exact{o,e,λv z=>by rw[d]at z;cases z}
 keep:=λi h r g k=>{g.1,g.2.at λo e=>k m ⋯ o e}
 item:=by
  intro X G hw F J i j s N H E I t g x;subst G hw F;have(M,v,hn,hi):=x;have(V,L,p,hz):=I.list v;have Z:=⇑L;have z:M[n - 1 - i]?/M[n - 1 - i]'∅:=Gf ∅;have(u,T,W):=L.get z;have(y,A,S,B,C,D):=t m ⋯;have e:(n:Int) - 1 - (i:Int)=((n - 1 - i:Nat):Int):=by ext
  have f:=g.2;rw[e]at f;refine Nh f p.isList (x:=u) (by simpa using T) λr q Y=>?_;have O:zv X j N H {s with heap:=r}:=I.turned (t':=s.toks) (λb o l e=>(Y.2 b l).trans e) y A B C D;have Q:((n - 1 - i:Nat):Int) - 1=(n:Int) - 1 - ((i+1:Nat):Int):=by ext
  rw[Q]at q;have(o,R,c,d):=id q;exact{u,1,kq (s:={s with heap:=r}) R c d (by decide) {_,H,O,W,{1,λys U=>by rw[I.qC U v];exact z},⟨hi,q⟩,λb l=>(t b l).1}}
 done:=by intro X G hw F J i j s N H E I t g x;subst G hw F;have x:i=n:=x;have(y,A,S,B,C,D):=t m ⋯;have f:=g.2;rw[show(n:Int) - 1 - (i:Int)= -1 by ext]at f;exact Nv (I.ok.hd J) f λr q=>{1,I.turned (t':=s.toks) (λb o l e=>q b o l e) y A B C D}
 self:=λ_ _ _ _ _ g h=>Fs g.2 h
inductive vg(K:Gd)(R:It->Hp->Prop)(vs:List V)(H1:Hp):Prop
 |mk (a:_) (xs:_) (h0:vs=[↑a]) (h1:Jf K H1 a xs) (h2:R (lb K a ⇑xs) H1):vg K R vs H1
def QR(K:Gd)(ta:TA):TI:=λσ H R=>ta σ H λa H1=>vg K R a H1
section
variable{X:Cx}{tg:D0}
theorem uC{a:D0}{n:TA}{p i:M4}(y:Gl X "reversed")(z:X.mg "reversed"=Gq)(w:PA X [a] n)(hs:T4 [a] X.env=[(Gx,eval a X.env)]:=by rfl):PI X tg (.Call (.Name "reversed" p) [a] [] i) (QR X.K n):=by
 intro d s r H R I h;refine JR (Jc I y z CA (EA (Xd (w i d s r H _ I h) λL f G=>?_) hs Xb));have(M,l,j,D,C):=G;have(b,k,e,A,q):=C;subst e;have(u,rfl,E):=vals1 D;cases(show u=Tn b from E);have(g,F,B,K):=j.list A;have J:=⇑F;refine NR B.isList ?_;have t:zv X d r l {f with heap:=f.heap.push (revObj b ((g.toArray.size:Int) - 1))}:=j.kept (t':=f.toks) λb o e=>Gp _ e;have m:(f.heap.push (revObj b ((g.toArray.size:Int) - 1))).IsRevIter f.heap.objs.size b ((⇑k:Int) - 1 - ((0:Nat):Int)):=by
  have v:(⇑k:Int) - 1 - ((0:Nat):Int)=(g.toArray.size:Int) - 1:=by rw[Tp];lia
  rw[v];exact{_,To _ Xb,11}
 refine Fs m {f.heap.objs.size,[f.heap.objs.size],2,l,1,t,VU b _ ⇑k,{Ts _,m},λc x=>?_,q};have e:c=f.heap.objs.size:=by simpa using x
 subst e;exact j.jh (Gz _) (j.Ye.fresh (Gz _))
end
theorem v9{K:Gd}{a:Ge}{xs:List V}{g:TG}{l:TS}{D:Ends}{b:St}{H:Hp}(c:Nat->St->Hp->Prop)(n:c 0 b H)(r:∀i b H,i<=⇑xs->c i b H->Jf K H a xs)
  (hs:∀i x b H,xs.reverse[i]?/x->c i b H->g x b H λk H2=>l {D with nx:=c (i+1),ct:=c (i+1),bk:=D.nx} k H2)(o:∀b H,c ⇑xs b H->D.nx b H):
  ∃W:Nat->Nat->St->Hp->Prop,(∃m,W 0 m b H)/\∀i m b H,W i m b H->
   ((lb K a ⇑xs).stop i H/\D.nx b H)\/((lb K a ⇑xs).go i H/\∃N:St->Hp->Prop,(∀j d,N j d->∃h,h<m/\W (i+1) h j d)/\∀x d,(lb K a ⇑xs).yld i H x d->g x b d λk H2=>l {D with nx:=N,ct:=N,bk:=D.nx} k H2):=by
 exists λi m b H=>m=⇑xs - i/\i<=⇑xs/\c i b H,{⇑xs,by simp,Ts _,n};rintro i m b H ⟨rfl,hi,p⟩;have q:=r i b H hi p;by_cases f:i<⇑xs
 .refine .inr {⟨xs,q,Xb,f⟩,c (i+1),λj d h=>{⇑xs - (i+1),by lia,1,f,h},λx d y=>?_};have(e,y):=y;subst e;exact hs i x b _ (by rw[EJ f];exact y xs q) p
 .have e:i=⇑xs:=by lia
  subst e;exact .inl {1,o b H p}
end L2
namespace Sb
open PySem PySem.Spec PyProof.Rows L2
variable{H:Hp}{d a f:Ge}{ts:List Th}{t:Th}
structure Mp(P:Gn)(w:Tf)(H:Hp)(d:Ge)(S:Th->Prop)(F:Th->Th):Prop where
 ex:∃zw:List KE,H d/Uw P w d zw/\U5 H zw/\∀t,S t->∃b,Ys zw (kd t)/↑b/\Z5 H ↑b (F t)
theorem Mp.at{P:Gn}{w:Tf}{S:Th->Prop}{F:Th->Th}(N:Mp P w H d S F):∃o,H d/.ext o:=by have(a,h,_):=N.ex;exact{_,h}
def jv(j:Nat):V:=.int (j:Int)
theorem Q3o{i j:Nat}(h:jv i=jv j):i=j:=by unfold jv at h;injection h with h;lia
abbrev Fm:=TM×List Nat
noncomputable def fm(ts:List Th)(t:Th):Fm:=(t.word,t.parts.map λp=>ts.idxOf p)
def ik(i:Nat):KD:=.int (i:Int)
noncomputable def Xn(f:Fm):KD:=.tup [.str f.1,.tup (f.2.map ik)]
theorem yX:∀{a b:List Nat},a.map ik=b.map ik->a=b
 |[],[],_=>rfl
 |[],_::_,h=>by simp at h
 |_::_,[],h=>by simp at h
 |x::a,y::b,h=>by
  simp only[Tt,DB]at h;have e:(x:Int)=(y:Int):=by have:=h.1;unfold ik at this;injection this
  have t:=yX h.2;rw[t,show x=y by ext]
theorem Js{f g:Fm}(h:Xn f=Xn g):f=g:=by unfold Xn at h;simp only[KD.tup.injEq,DB,KD.str.injEq,BE]at h;exact RE h.1 (yX h.2)
theorem Oa(h:t∈ts):ts[ts.idxOf t]?/t:=by have a:ts.idxOf t<⇑ts:=E9 h;rw[Gf a,Ma a]
theorem O6{j:Nat}(nd:ts.Nodup)(h:ts[j]?/t):ts.idxOf t=j:=by have(a,e):=Gg.mp h;subst e;exact nd.idxOf_getElem j a
theorem ri{s:Th}(hs:s∈ts)(ht:t∈ts)(e:ts.idxOf s=ts.idxOf t):s=t:=by have a:=Oa hs;have b:=Oa ht;rw[e,b]at a;exact(T3 a).symm
theorem XD{a:List Th}(h:t∈ts):(ts++a).idxOf t=ts.idxOf t:=by rw[RK,GX h]
theorem zP{c:List Th}:∀{a b:List Th},(∀x∈a,x∈c)->(∀x∈b,x∈c)->a.map (λp=>c.idxOf p)=b.map (λp=>c.idxOf p)->a=b
 |[],[],_,_,_=>rfl
 |[],_::_,_,_,h=>by simp at h
 |_::_,[],_,_,h=>by simp at h
 |x::a,y::b,e,f,h=>by simp only[Tt,DB]at h;rw[ri (e x Tc) (f y Tc) h.1,zP (λz d=>e z (Gr _ d)) (λz d=>f z (Gr _ d)) h.2]
theorem Wa(b:Ux ts)(h:t∈ts):∀p∈t.parts,p∈ts:=λp a=>by
 refine b t h p ?_;cases t with
 |mk w c=>simp only[Th.parts]at a;simp only[Th.inside,Gh];left;rw[X7,Ez];exact{p,a,yg p}
theorem rR{s:Th}(hs:∀p∈s.parts,p∈ts)(ht:∀p∈t.parts,p∈ts)(e:fm ts s=fm ts t):s=t:=by
 cases s with
 |mk w a=>
  cases t with
  |mk v b=>unfold fm at e;simp only[Th.word,Th.parts,Es]at e hs ht;rw[e.1,zP hs ht e.2]
theorem qa{b:List Th}(h:∀p∈t.parts,p∈ts):fm (ts++b) t=fm ts t:=by unfold fm;refine RE rfl (TY λp a=>XD (h p a))
inductive Og(H:Hp)(x:V)(f:Fm):Prop
 |mk (c:_) (e:_) (h0:x=↑c) (h1:H c/.tup [.str f.1,↑e]) (h2:H e/.tup (f.2.map jv)):Og H x f
theorem Og.Qv{a:Hp}{x:V}{f:Fm}(e:Q6 H a)(h:Og H x f):Og a x f:=by have(c,d,b,g,i):=h;exact{c,d,b,e _ _ g,e _ _ i}
theorem Ai{H:Hp}:∀l:List Nat,hF H (l.map jv) (Ri (l.map ik))
 |[]=>by simp only[L6,Ri];exact .nil
 |i::r=>by simp only[Tt,Ri,ik,KD.toD];exact .cons (.int _) (Ai r)
theorem sI:∀l:List Nat,Gw (Ri (l.map ik))=Gi
 |[]=>by simp[Ri,Gw]
 |i::r=>by simp only[Tt,Ri];simp only[Gw,sI r,SE];simp[ik,KD.toD,Tu]
theorem Au:∀l:List Nat,Rn (l.map ik)=0
 |[]=>by simp[Rn]
 |i::r=>by simp only[Tt,Rn,Au r];simp[ik,KD.depth]
theorem Og.key{c:Ge}{f:Fm}(h:Og H ↑c f)(ok:DM f.1=Gi):ih H c (Xn f):=by
 have(g,e,a,b,d):=h;cases a;unfold Xn;exists ?_,?_
 .simp only[KD.toD,Ri];exact .tup b (.cons (.str _) (.cons (.tup d (Ai f.2)) .nil))
 .simp only[KD.toD,Ri,Tu,Gw,ok,sI,LI]
 .simp only[KD.depth,Rn,Au];decide
noncomputable def Rr(a f d:Ge):List (TM×V):=[("things",↑a),("forms",↑f),("known",↑d)]
structure Pl(P:Gn)(w:Tf)(C:Ge)(H:Hp)(p a f d:Ge)(ts:List Th):Prop where
 ob:∃dx,H p/.ins C dx (Rr a f d)
 th:∃us,H a/.lst us/\Zw H us ts
 fo:∃ws,H f/.lst ws/\Df (Og H) ws (ts.map (fm ts))
 kn:∃zw,DH P w H d zw/\⇑zw<=⇑ts/\(∀(j:Nat)t,ts[j]?/t->Ys zw (Xn (fm ts t))/jv j)/\∀k v,Ys zw k/v->∃t∈ts,k=Xn (fm ts t)
 af:a≠f
 nd:ts.Nodup
 cl:Ux ts
 ok:∀t∈ts,t.ok=Gi/\t.depth<=50
structure hI(a f d:Ge)(H H':Hp):Prop where
 keep:∀b o,H b/o->b≠a->b≠f->b≠d->H' b/o
 there:∀b,H' b=Gq->H b=Gq
theorem hI.refl:hI a f d H H:={λ_ _ e _ _ _=>e,λ_ h=>h}
theorem hI.trans{c g:Hp}(x:hI a f d H c)(y:hI a f d c g):hI a f d H g:={λb o e i j k=>y.keep b o (x.keep b o e i j k) i j k,λb h=>x.there b (y.there b h)}
theorem hI.of{c:Hp}(g:Za H c):hI a f d H c:={λb o e _ _ _=>g b o e,λb h=>g.free h}
section
variable{P:Gn}{w:Tf}{C:Ge}{H H':Hp}{p a f d:Ge}{ts:List Th}
theorem hI.Qv(x:hI a f d H H')(y:Pl P w C H p a f d ts):Q6 H H':=λb k e=>by have(i,h,_):=y.th;have(j,c,_):=y.fo;have(g,n1,_):=y.kn;exact x.keep b _ e (Zt e h nofun) (Zt e c nofun) (Zt e n1.at_ nofun)
theorem Pl.keep(x:Pl P w C H p a f d ts)(m:∀o,H p/o->H' p/o)(j:∀o,H a/o->H' a/o)(l:∀o,H f/o->H' f/o)(k:∀o,H d/o->H' d/o)(c:Q6 H H'):Pl P w C H' p a f d ts:=by have(e,q):=x.ob;have(t,r,s):=x.th;have(u,g,i):=x.fo;have(b,n1,n2,n3,n):=x.kn;exact{{e,m _ q},{t,j _ r,s.Qv c},{u,l _ g,Qr i λ_ _ h=>h.Qv c},{b,{k _ n1.at_,Zq c n1.keys},n2,n3,n},x.af,x.nd,x.cl,x.ok}
theorem Pl.same(g:Za H H')(x:Pl P w C H p a f d ts):Pl P w C H' p a f d ts:=x.keep (g _) (g _) (g _) (g _) (Q6.of g)
theorem Pl.but{b:Ge}{l g:List V}(x:Pl P w C H p a f d ts)(c:H b/.lst l)(h:b≠a)(i:b≠f):Pl P w C (zj H b (.lst g)) p a f d ts:=by
 have(m,k):=x.ob;have(j,n1,_):=x.kn;refine x.keep (λo e=>?_) (λo e=>by rw[Qh (Tb h)];exact e) (λo e=>by rw[Qh (Tb i)];exact e) (λo e=>?_) (Z2 λn e=>by rw[c]at e;cases e)
 .rw[Qh (Zt k c nofun)];exact e
 .rw[Qh (Zt n1.at_ c nofun)];exact e
end
structure oo(a f d dn:Ge)(S S':List Ge)(H H':Hp):Prop where
 keep:∀b o,H b/o->b≠a->b≠f->b≠d->b≠dn->b∉S->H' b/o
 own:∀b∈S',b∈S\/H b=Gq
 sub:∀b∈S,b∈S'
 there:∀b,H' b=Gq->H b=Gq
theorem oo.trans{c:Ge}{S j k:List Ge}{g i:Hp}(x:oo a f d c S j H g)(y:oo a f d c j k g i):oo a f d c S k H i:=by
 refine{λb o e l m n p q=>y.keep b o (x.keep b o e l m n p q) l m n p λz=>?_,λb r=>?_,λb h=>y.sub b (x.sub b h),λb h=>x.there b (y.there b h)}
 .rcases x.own b z with z|z
  .exact q z
  .rw[e]at z;cases z
 .rcases y.own b r with h|h
  .exact x.own b h
  .exact .inr (x.there b h)
inductive vH(P:Gn)(w:Tf)(C:Ge)(vs:List V)(H:Hp)(Q:VK):Prop
 |mk (p:Ge) (dx:Ge) (h0:vs=[↑p]) (h1:H p/.ins C dx []) (h2:∀(a f d:Ge)(H':Hp),Pl P w C H' p a f d []->(∀b o,H b/o->b≠p->H' b/o)->H a=Gq->H f=Gq->H d=Gq->Q .non H'):vH P w C vs H Q
def wQ(P:Gn)(w:Tf)(C:Ge):Sp:=λa H Q _=>vH P w C a H Q
inductive yU(P:Gn)(w:Tf)(C:Ge)(vs:List V)(H:Hp)(Q:VK):Prop
 |mk (p:Ge) (c:Ge) (v:V) (t:Th) (a:Ge) (f:Ge) (d:Ge) (ts:List Th) (h0:vs=[↑p,v,↑c]) (h1:Pl P w C H p a f d ts) (h2:Z5 H v t) (h3:t.ok=Gi) (h4:t.depth<=50) (h5:(∀q∈t.parts,q∈ts)) (h6:Og H ↑c (fm ts t)) (h7:⇑ts<1000000) (h8:∀(j:Nat)(H':Hp),Pl P w C H' p a f d (if t∈ts then ts else ts++[t])->(if t∈ts then ts else ts++[t])[j]?/t->hI a f d H H'->Q (jv j) H'):yU P w C vs H Q
def rJ(P:Gn)(w:Tf)(C:Ge):Sp:=λa H Q _=>yU P w C a H Q
inductive sX(P:Gn)(w:Tf)(C:Ge)(vs:List V)(H:Hp)(Q:VK):Prop
 |mk (p:Ge) (v:V) (t:Th) (a:Ge) (f:Ge) (d:Ge) (ts:List Th) (h0:vs=[↑p,v]) (h1:Pl P w C H p a f d ts) (h2:Z5 H v t) (h3:t.ok=Gi) (h4:t.depth<=50) (h5:⇑ts+t.size<=500000) (h6:∀(j:Nat)(H':Hp),Pl P w C H' p a f d (Xh ts t.inside)->(Xh ts t.inside)[j]?/t->hI a f d H H'->Q (jv j) H'):sX P w C vs H Q
def AD(P:Gn)(w:Tf)(C:Ge):Sp:=λa H Q _=>sX P w C a H Q
end Sb
namespace L2
open PySem PySem.Spec PyProof.Rows
variable{G:Prop}
theorem QV{K:Gd}{a p:Ge}{xs:List V}{g:TG}{B:TT}{A:TE}{Q:Hp->Prop}{n:St}{t:Hp}(h:Nat->List V->St->Hp->Prop)(f:⇑xs<=TF)(C:h 0 [] n (zj t p (.lst [])))
  (E:∀i c d H,i<=⇑xs->h i c d H->hB K H a xs)
  (hs:∀i x c d H,xs[i]?/x->h i c d H->H p/.lst c->g x d H λj H2=>B j H2 λb o=>if b=Gi then A j o λv u=>u p/.lst c/\h (i+1) (c++[v]) j (zj u p (.lst (c++[v])))else o p/.lst c/\h (i+1) c j o)
  (D:∀c d H,⇑c<=⇑xs->h ⇑xs c d H->H p/.lst c->Q H):jL p (jo K a) g B A Q n (zj t p (.lst [])):=by
 exists λi m d H=>m=⇑xs - i/\i<=⇑xs/\∃c,⇑c<=i/\h i c d H/\H p/.lst c,{⇑xs,by simp,Ts _,[],Gz _,C,Qb};rintro i m d H ⟨rfl,hi,c,z,pv,w⟩;have q:=E i c d H hi pv;by_cases l:i<⇑xs
 .refine .inr ⟨{xs,xs[i],q,by simp[l]},λv f k=>k p/.lst c/\h (i+1) (c++[v]) f (zj k p (.lst (c++[v]))),λf k=>k p/.lst c/\h (i+1) c f k,
   λv f k⟨r,s⟩=>{c,r,by lia,⇑xs - (i+1),by lia,1,l,c++[v],by simp[z],s,Qb},λf k⟨r,s⟩=>{⇑xs - (i+1),by lia,1,l,c,by lia,s,r},λx k y=>?_⟩
  have(e,y):=y;subst e;exact hs i x c d _ (y xs q) pv w
 .have e:i=⇑xs:=by lia
  subst e;exact .inl {{xs,q,Gz _},D c d H z pv w}
theorem OH{X:Cx}{a b:D0}{l:M4}{i j:Nat}(A:PE X a (Uj i))(B:PE X b (Uj j)):PE X (.BoolOp .Or [a,b] l) (λσ H Q=>∃x y,σ[i]?/Ga (.int x)/\σ[j]?/Ga (.int y)/\∀z:Int,Q (.int z) H):=by
 intro d s σ H Q I h;have(x,y,u,w,q):=h;refine BoolOp_or (Xd (A d s σ H (λv f=>v=.int x/\f=H) I {_,u,11}) λv C m=>?_);have(E,f,p,o,r,t):=m;subst r t;refine Xd (xU d C σ f (.int x) v (λk g=>g=f) p o {401}) λc D m=>?_;have(g,n,e):=m;subst e;cases c with
 |true=>exact{.int x,g,n,o,q x}
 |false=>exact jR B d D σ g Q n {_,w,q y}
theorem XA{T:Int->Prop}(k:(∀i,T i)->G)(h:∀i,T i):G:=k h
theorem Q5a{F T:Ge->Hp->Prop}(k:(∀a H,F a H->T a H)->G)(h:∀a H,F a H->T a H):G:=k h
theorem Q3d{A B:Prop}(k:A->B->G)(a:A)(b:B):G:=k a b
theorem OF(a:List V)(h:0<⇑a):∃v,R8 a (-1)/v/\a[⇑a - 1]?/v:=by
 have hi:⇑a - 1<⇑a:=by ext
 refine{_,?_,Gf hi};unfold R8 ixN;rw[Gs (by decide),GX ∅];have e:((-1:Int)+(⇑a:Int)).toNat=⇑a - 1:=by ext
 rw[e];show a[⇑a - 1]?=_;exact Gf hi
end L2
namespace Sb
open PySem PySem.Spec PyProof.Rows L2
variable{a f d wk:Ge}{H H':Hp}{D S:List Ge}{m:Nat}{ts:List Th}
noncomputable def wfl(p:Ge)(n:Int):List (TM×V):=[("places",↑p),("steps",.int n)]
theorem Pa(p:Ge)(n k:Int):Y0 "steps" (.int k) (wfl p n)=wfl p k:=by
 have h:¬(("places":TM)="steps"):=by decide+kernel
 simp only[wfl,Y0,Gs h,Mm]
theorem XS(p:Ge):Y0 "steps" (.int 0) (Y0 "places" ↑p [])=wfl p 0:=by
 have h:¬(("places":TM)="steps"):=by decide+kernel
 simp only[wfl,Y0,Gs h]
inductive O2(CW:Ge)(H:Hp)(wk p:Ge):Prop
 |mk (dx:_) (n:_) (h0:H wk/.ins CW dx (wfl p n)):O2 CW H wk p
theorem P7{C b e c p:Ge}{n:Int}:HO.ins C e (Rr a f d)≠HO.ins b c (wfl p n):=by intro z;injection z with _ _ z;have:=congrArg Sc z;simp[Rr,wfl]at this
structure hH(H:Hp)(D S:List Ge)(m:Nat)(ts:List Th):Prop where
 at_:∀dn∈D,∃zw,H dn/.dT zw/\⇑zw<=m/\∀k v,Xo zw k/v->∃l∈S,v=.ref l
 ls:∀l∈S,∃es,H l/.lst es/\⇑es<=m/\∀e∈es,∃c v,∃(j:Nat)(t:Th),e=.ref c/\H c/.tup [v,jv j]/\Z5 H v t/\ts[j]?/t
theorem hH.keep{i:Nat}{a:List Th}(x:hH H D S m ts)(r:∀d∈D,∀o,H d/o->H' d/o)(u:∀l∈S,∀o,H l/o->H' l/o)(k:Q6 H H')(b:∀(j:Nat)t,ts[j]?/t->a[j]?/t)(c:m<=i):hH H' D S i a:=by
 refine{λf g=>?_,λl h=>?_}
 .obtain⟨c,e,p,n⟩:=x.at_ f g;exact{c,r f g _ e,by ext,n}
 .obtain⟨q,n,B,p⟩:=x.ls l h;refine{q,u l h _ n,by ext,λe s=>?_};have(c,v,j,t,w,y,z,A):=p e s;exact{c,v,j,t,w,k _ _ y,z.Qv k,b j t A}
theorem hH.same(g:Za H H')(x:hH H D S m ts):hH H' D S m ts:=x.keep (λd _=>g d) (λl _=>g l) (Q6.of g) (λ_ _ h=>h) (Gz _)
theorem hH.mono{a:Nat}(x:hH H D S m ts)(h:m<=a):hH H D S a ts:=x.keep (λ_ _ _ h=>h) (λ_ _ _ h=>h) (λ_ _ h=>h) (λ_ _ h=>h) h
theorem hH.more{c:Ge}(x:hH H D S m ts)(d:H c=Gq):hH (zj H c (.dT [])) (c::D) S m ts:=by
 have y:=x.same (Qf d (.dT []));refine{λb a=>?_,y.ls};rcases Ti.mp a with rfl|a
 .exact{[],Qb,Ts _,λk v e=>by rw[qj]at e;cases e}
 .exact y.at_ b a
structure hJ(a f d wk:Ge)(D D' S S':List Ge)(H H':Hp):Prop where
 keep:∀b o,H b/o->b≠a->b≠f->b≠d->b≠wk->b∉D->b∉S->H' b/o
 Qmy:∀b∈D',b∈D\/H b=Gq
 Qhh:∀b∈S',b∈S\/H b=Gq
 Qsc:∀b∈D,b∈D'
 Qso:∀b∈S,b∈S'
 there:∀b,H' b=Gq->H b=Gq
theorem hJ.of(g:Za H H'):hJ a f d wk D D S S H H':={λb o e _ _ _ _ _ _=>g b o e,λ_ h=>.inl h,λ_ h=>.inl h,λ_ h=>h,λ_ h=>h,λb h=>g.free h}
theorem hJ.trans{g i l m:List Ge}{j k:Hp}(x:hJ a f d wk D g S l H j)(y:hJ a f d wk g i l m j k):hJ a f d wk D i S m H k:=by
 refine{λb o e n p q r s t=>y.keep b o (x.keep b o e n p q r s t) n p q r (λz=>?_) (λz=>?_),λb c=>?_,λb c=>?_,λb h=>y.Qsc b (x.Qsc b h),λb h=>y.Qso b (x.Qso b h),λb h=>x.there b (y.there b h)}
 .rcases x.Qmy b z with z|z
  .exact s z
  .rw[e]at z;cases z
 .rcases x.Qhh b z with z|z
  .exact t z
  .rw[e]at z;cases z
 .rcases y.Qmy b c with h|h
  .exact x.Qmy b h
  .exact .inr (x.there b h)
 .rcases y.Qhh b c with h|h
  .exact x.Qhh b h
  .exact .inr (x.there b h)
theorem hJ.Qv{P:Gn}{w:Tf}{C g:Ge}{p:Ge}{i j:List Ge}(x:hJ a f d wk D i S j H H')(W:O2 g H wk p)(y:Pl P w C H p a f d ts)(z:hH H D S m ts):Q6 H H':=λb v e=>by
 have(t,q,_):=y.th;have(u,k,_):=y.fo;have(l,n1,_):=y.kn;have(r,n,o):=W;refine x.keep b _ e (Zt e q nofun) (Zt e k nofun) (Zt e n1.at_ nofun) (Zt e o nofun) (λc=>?_) λc=>?_
 .obtain⟨s,h,_⟩:=z.at_ b c;rw[e]at h;cases h
 .obtain⟨s,h,_⟩:=z.ls b c;rw[e]at h;cases h
theorem Ku{i n:Hp}{g q:Ge}{k:List Wg}{l:List (List Wg×V)}{w:V}(x:hH H D S m ts)(M:g∈D)(v:H g/.dT l)(B:Za H i)(E:i q=Gq)
  (P:(Xo l k/w/\n=zj i q (.lst []))\/(Xo l k=Gq/\w=.ref q/\n=zj (zj i q (.lst [])) g (.dT (l++[(k,↑q)])))):
  ∃e p,w=.ref e/\e∈p/\hH n D p (m+1) ts/\(∀b∈S,b∈p)/\(∀b∈p,b∈S\/H b=Gq)/\(∀b s,H b/s->b≠g->n b/s)/\(∀b,n b=Gq->H b=Gq):=by
 have f:=B.trans (Qf E (.lst []));have R:H q=Gq:=B.free E;have(aa,n1,n2,n3):=x.at_ g M;rw[v]at n1;cases n1;rcases P with⟨T,rfl⟩|⟨O,rfl,rfl⟩
 .obtain⟨e,h,rfl⟩:=n3 _ _ T;exact{e,S,1,h,x.keep (λd _=>f d) (λe _=>f e) (Q6.of f) (λ_ _ c=>c) (LW _),λ_ c=>c,λ_ c=>.inl c,λb s a _=>f _ _ a,λb c=>f.free c}
 .have C:=f _ _ v;have F:(zj i q (.lst [])) q/.lst []:=Qb;have Q:q≠g:=Zt F C (by intro y;cases y);have Y:Q6 (zj i q (.lst [])) (zj (zj i q (.lst [])) g (.dT (l++[(k,↑q)]))):=Z2 λI a=>by rw[C]at a;cases a
  have G:Q6 H (zj (zj i q (.lst [])) g (.dT (l++[(k,↑q)]))):=λb I a=>Y b I (f _ _ a);refine{q,q::S,1,Tc,{λz N=>?_,λe h=>?_},λb c=>Gr _ c,λb c=>?_,λb s a c=>by rw[Qh c];exact f _ _ a,λb c=>?_}
  .by_cases u:z=g
   .subst u;refine{_,Qb,by rw[Gk,GQ];lia,λo L a=>?_};rw[qT (κ:=List Wg) k o _ l O]at a;by_cases A:o=k
    .rw[GX A]at a;cases a;exact⟨q,Tc,Xb⟩
    .rw[Gs A]at a;have(e,h,r):=n3 _ _ a;exact{e,Gr _ h,r}
   .obtain⟨K,A,U,J⟩:=x.at_ z N;refine{K,by rw[Qh u];exact f _ _ A,by lia,λo L a=>?_};have(e,h,r):=J _ _ a;exact{e,Gr _ h,r}
  .rcases Ti.mp h with rfl|h
   .exact{[],by rw[Qh Q];exact F,Ts _,λa u=>nomatch u}
   .obtain⟨L,A,r,K⟩:=x.ls e h;refine{L,?_,by lia,λa u=>?_}
    .rw[Qh (Zt A v (by intro y;cases y))];exact f _ _ A
    .obtain⟨J,Z,j,t,U,o,W,X⟩:=K a u;exact{J,Z,j,t,U,G _ _ o,W.Qv G,X}
  .rcases Ti.mp c with rfl|c
   .exact .inr R
   .exact .inl c
  .by_cases u:b=g
   .subst u;rw[Qb]at c;cases c
   .rw[Qh u]at c;exact f.free c
inductive zT(CW:Ge)(vs:List V)(H:Hp)(Q:VK):Prop
 |mk (wk:Ge) (dx:Ge) (p:Ge) (h0:vs=[↑wk,↑p]) (h1:H wk/.ins CW dx []) (h2:∀H',O2 CW H' wk p->(∀b o,H b/o->b≠wk->H' b/o)->(∀b,H' b=Gq->H b=Gq)->Q .non H'):zT CW vs H Q
def AN(a:Ge):Sp:=λb H Q _=>zT a b H Q
inductive uc(vs:List V)(H:Hp)(Q:VK):Prop
 |mk (l:Ge) (v:V) (t:Th) (es:List V) (ts:List Th) (h0:vs=[↑l,v]) (h1:H l/.lst es) (h2:(∀e∈es,∃c v,∃(j:Nat)(t:Th),e=.ref c/\H c/.tup [v,jv j]/\Z5 H v t/\ts[j]?/t)) (h3:(∀t∈ts,t.ok=Gi/\t.depth<=50)) (h4:Z5 H v t) (h5:t.ok=Gi) (h6:t.depth<=50) (h7:(∀j:Nat,ts[j]?/t->Q (jv j) H)) (h8:Q .non H):uc vs H Q
def p7:Sp:=λa H Q _=>uc a H Q
inductive zD(vs:List V)(H:Hp)(Q:VK):Prop
 |mk (i:Int) (j:Int) (h0:vs=[.int i,.int j]) (h1:j<1000000) (h2:∀r:Int,Q (.int r) H):zD vs H Q
def qw:Sp:=λa H Q _=>zD a H Q
inductive ve(P:Gn)(w:Tf)(C:Ge)(CW:Ge)(n:Nat)(vs:List V)(H:Hp)(Q:VK):Prop
 |mk (wk:Ge) (p:Ge) (dn:Ge) (v:V) (sp:Int) (t:Th) (a:Ge) (f:Ge) (d:Ge) (D:List Ge) (S:List Ge) (m:Nat) (ts:List Th) (h0:vs=[↑wk,v,↑dn,.int sp]) (h1:O2 CW H wk p) (h2:Pl P w C H p a f d ts) (h3:hH H D S m ts) (h4:dn∈D) (h5:a∉S) (h6:f∉S) (h7:Z5 H v t) (h8:t.ok=Gi) (h9:t.depth<=n) (h10:t.depth<=50) (h11:m+2*t.size<=1000000) (h12:⇑ts+t.size<=1000000) (h13:∀(j:Nat)(D' S':List Ge)(H':Hp),O2 CW H' wk p->Pl P w C H' p a f d (Xh ts t.inside)->hH H' D' S' (m+2*t.size) (Xh ts t.inside)->(Xh ts t.inside)[j]?/t->hJ a f d wk D D' S S' H H'->Q (jv j) H'):ve P w C CW n vs H Q
def kg(P:Gn)(w:Tf)(C a:Ge)(n:Nat):Sp:=λb H Q _=>ve P w C a n b H Q
theorem Ih:∀(l:List Th)(i:Nat),Q8 (l.take i)<=Q8 l
 |[],_=>by simp
 |x::l,0=>by simp[Q8]
 |x::l,i+1=>by have:=Ih l i;simp only[Ly,Q8];lia
theorem VO(a:List Th)(i:Nat)(t:Th)(h:a[i]?/t):Zo (a.take (i+1))=Zo (a.take i)++t.inside:=by rw[TD,h,X7,NC,<-X7];simp
theorem O9:∀(a:List Th)(i:Nat)(t:Th),a[i]?/t->Q8 (a.take (i+1))=Q8 (a.take i)+t.size
 |[],_,_,h=>by simp at h
 |x::r,0,t,h=>by simp at h;subst h;simp[Q8]
 |x::r,i+1,t,h=>by have:=O9 r i t (by simpa using h);simp only[Ly,Q8]at this⊢;lia
theorem rM{a b:List Th}{j:Nat}{t:Th}(h:a[j]?/t):(Xh a b)[j]?/t:=by have(m,e):=Uh b a;rw[e,TB (Gg.mp h).1];exact h
end Sb
namespace L2
open PySem PySem.Spec PyProof.Rows
inductive xi(x:V)(vs:List V)(H:Hp)(Q:VK):Prop
 |mk (d:_) (b:_) (dv:_) (zw:_) (k:_) (h0:x=↑d) (h1:vs=[↑b,dv]) (h2:H d/.dT zw) (h3:H b/.tup (k.map kV)) (h4:⇑zw<TF) (h5:∀v H',((Xo zw k/v/\H'=H)\/(Xo zw k=Gq/\v=dv/\H'=zj H d (.dT (zw++[(k,dv)]))))->Q v H'):xi x vs H Q
def Pt:V->List V->Hp->VK->Prop:=λx a H Q=>xi x a H Q
theorem Qlt{X:Cx}(n:X.A.units+1<ET):iG X "dict.setdefault" Pt:=by intro a s w H x u v t Q I r p h;have(d,b,e,c,k,f,g,i,j,l,q):=h;exact Q2 n a s w H x u v t Q I r p {d,b,e,c,k,f,g,i,j,l,λv o=>q v H (.inl ⟨o,Xb⟩),λm=>q e _ (.inr ⟨m,Xb,Xb⟩)}
end L2
namespace Sb
open PySem L2
abbrev KI(K:Gd)(f:Ge):Prop:=DX K ↑f=Gi
abbrev MG(mg:TM->Option Gj)(x:TM)(f:Ge):Prop:=mg x=Ga ↑f
abbrev Vq(X:Cx)(s:DQ)(n:Nat):=Subtype (Xu X ((Q9 s).drop n))
end Sb
namespace K06
open PySem L2 Sb
variable{f C f0 CW:Ge}{fd:Dn}
structure I0(mg:TM->Option Gj):Prop where
 len:mg "len"=Gq
 list:mg "list"=Gq
 tuple:mg "tuple"=Gq
 range:mg "range"=Gq
 reversed:mg "reversed"=Gq
 enumerate:mg "enumerate"=Gq
 zip:mg "zip"=Gq
 sorted:mg "sorted"=Gq
theorem Oj(x:V)(a:List V):R8 (x::a) (0:Int)/x:=Zk (xs:=x::a) (j:=0) rfl
def oH(t:Th):List Wg:=(qD t).map MM
theorem WR(t:Th):(oH t).map kV=(qD t).map V.str:=by unfold oH;rw[Di];rfl
inductive Ag(vs:List V)(H:Hp)(Q:VK):Prop
 |mk (v:V) (t:Th) (h0:vs=[v]) (h1:Z5 H v t) (h2:t.size<=1000000) (h3:∀(r:Ge)(H':Hp),Za H H'->H' r/.tup ((oH t).map kV)->Q ↑r H'):Ag vs H Q
def qI:Sp:=λa H Q _=>Ag a H Q
section
variable{P:Gn}{w:Tf}{K:Gd}{mg:TM->Option Gj}{base:Heap}
theorem Q4z:Q7 ["thing"] ["thing"] (Qo oF):=by eq_refl
theorem Q30(F:Wd K "top_words" "top_words" oF f fd)(E:I0 mg):Q3 P w K mg base Ya 1 f fd ["thing"] qI:=by
 refine F.ok Q4z (λb u H G d=>?_) (λX W ab s u b H G Y d=>?_)
 .obtain⟨T,t,rfl,_⟩:=d;rfl
 ac_nf;have(T,t,rfl,ht,O,q):=d;have(a,m,b,j,rfl,rfl,z,B):=ht.inv;intros;exists _,Qg (Qt (Xz Ub rfl E.tuple Dg (Qa (Zg X5 (Zu (Qa (Qn Qs {0} Qi) Qd))
  (Ua (own:=["part"]) (fv:=[]) rfl (S:=(by eq_refl:X8 (Qo oF) _)) .nil (Uy (Z3 V2 {0} (Yd Qi) Yv))
   (λ_ _ _ _ _=>Yz (i:=0) (nd1 _) rfl (DW Xb) (Si Xb)) (λ_ _ _ _ _=>Wk) (λ_ _ _ _ _=>Qn (r:=jr K) Qs {0} Qi (λ_ _=>rfl)))) Qd)))
 simp only[Th.size]at O;have Z:=Zl j;have S:=⇑B;refine{0,a,2,.str m,11,Qj z,Oj _ _,Wx,λv L=>?_};have k:=Qf L (.lst [.str m]);refine{00,a,0,Qj (k _ _ z),Wj _ _,λr N=>?_};rw[iD];have l:=Qf N (.tup b);refine{r,1,{_,Qj Qb},λp A=>?_};have C:=Qf A (.lst []);have ac:=(k.trans l).trans C;refine Jx (K:=K) (a:=r) (xs:=b) (small (by lia)) (λi n o e=>(∃D,o=[D])/\Za (zj (zj u v (.lst [.str m])) r (.tup b)) e/\n=(j.take i).map λt=>V.str t.word)
  {{40},C,by simp} (λi n o e _ d=>Qj (d.2.1 _ _ Qb)) ?_ ?_
 .rintro i x n o e hi R ⟨⟨D,rfl⟩,c,rfl⟩ h;ac_nf;have(t,M,Q):=B.get hi;have(I,U,us,qs,rfl,rfl,J,_):=Q.inv;intros;exists 0,I,2,.str U,11,Qj (c _ _ (l _ _ (k _ _ J))),Oj _ _,h,{40},λy aa g=>?_
  .rw[Qh (Qe g A)];exact c _ _ g
  .rw[TD,M,TZ];rfl
 .rintro n o e R ⟨_,c,rfl⟩ h;have g:j.take ⇑b=j:=by rw[S,Tw]
  rw[g]at h;have I:=c _ _ (l _ _ (@Qb u v (.lst [.str m])));refine{v,p,301,I,h,small (by rw[Gv,GQ];lia),λy J=>?_};refine{y,0,.inl {Qk Qb,λQ M=>?_}};refine q Q _ ((((k.trans l).trans c).trans (Qf J _)).trans (Qf M _)) ?_;rw[Qb,WR];simp[qD,Th.word,Th.parts]
theorem n1:¬(("things":TM)="forms"):=by decide+kernel
theorem n2:¬(("things":TM)="known"):=by decide+kernel
theorem n3:¬(("forms":TM)="known"):=by decide+kernel
theorem Pj(a f d:Ge):Y0 "known" ↑d (Y0 "forms" ↑f (Y0 "things" ↑a []))=Rr a f d:=by simp only[Y0,Gs n1,Gs n2,Gs n3,Rr]
theorem yR(a f d:Ge):(Rr a f d).lookup ("things":TM)/↑a:=by rfl
theorem SB(a f d:Ge):(Rr a f d).lookup ("forms":TM)/↑f:=by rfl
theorem ng(a f d:Ge):(Rr a f d).lookup ("known":TM)/↑d:=by rfl
theorem Qy5(a f d:Ge):(Rr a f d).lookup ("place_by_form":TM)=Gq:=by rfl
structure iK(K:Gd)(mg:TM->Option Gj)(C:Ge):Prop where
 cl:hZ K C
 nT:Xg K C "things"
 nF:Xg K C "forms"
 nN:Xg K C "known"
 mgC:mg "Places"/↑C
theorem KZ:Q7 ["self"] ["self"] (Qo rD):=by eq_refl
theorem Qsh(F:Wd K "__init__" "Places.__init__" rD f fd)(T:iK K mg C):Q3 P w K mg base Ya 1 f fd ["self"] (wQ P w C):=by
 refine F.ok KZ (λN H Q E h=>?_) (λM A L s H N Q E O h=>?_)
 .obtain⟨p,x,rfl,_⟩:=h;rfl
 have(p,x,rfl,G,q):=h;exists _,Qc (Xk {0} (Zu Qd) rfl) (Qc (Xk {0} (Zu Qd) rfl) (Qg (Xk {0} Rv Xb)));refine{Ts _,λa I=>?_};have c:p≠a:=Qe G I;refine{0,p,C,x,[],1,(by rw[Qh c];exact G),T.cl,T.nT,by show 0<1000;decide,Ts _,λf u=>?_};have g:p≠f:=Qe Qb u;have i:a≠f:=Qe (o:=.lst []) (by rw[Qh (Tb c),Qb]) u;refine{0,p,C,x,0,(by rw[Qh g,Qb]),T.cl,T.nF,by show 1<1000;decide,λd n=>?_};have l:p≠d:=Qe Qb n;have D:f≠d:=Qe (o:=.lst []) (by rw[Qh (Tb g),Qb]) n;have B:a≠d:=Qe (o:=.lst []) (by rw[Qh (Tb c),Qh i,Qh (Tb c),Qb]) n;exists 0,p,C,x,0,(by rw[Qh l,Qb]),T.cl,T.nN,(by show 2<1000;decide);refine q a f d _ {{x,?_},{[],?_,.nil},{[],?_,.nil},{[],{?_,λp G=>nomatch G},Gz _,λj t e=>?_,λk v e=>?_},i,SK,WY,λt ht=>by simp at ht} (λb o e r=>?_) I ?_ ?_
 .rw[Qb,Pj]
 .rw[Qh (Tb c),Qh B,Qh (Tb c),Qh i,Qh (Tb c),Qb]
 .rw[Qh (Tb g),Qh D,Qh (Tb g),Qb]
 .rw[Qh (Tb l),Qb];rfl
 .simp at e
 .simp[Ys]at e
 .have m:b≠a:=Qe e I;have y:b≠f:=λz=>by subst z;rw[Qh r,Qh m,e]at u;cases u
  have J:b≠d:=λz=>by subst z;rw[Qh r,Qh y,Qh r,Qh m,e]at n;cases n
  rw[Qh r,Qh J,Qh r,Qh y,Qh r,Qh m];exact e
 .rw[Qh (Tb g),Qh (Tb i)]at u;exact u
 .rw[Qh (Tb l),Qh (Tb D),Qh (Tb l),Qh (Tb B)]at n;exact n
theorem UK:Q7 ["self","thing","form"] ["self","thing","form"] (Qo nB):=by eq_refl
theorem uB{P:Gn}{w:Tf}{H:Hp}{p a d:Ge}{b:List Th}{c:List KE}{t:Th}(x:Pl P w C H p a f d b)(ht:∀q∈t.parts,q∈b)(i:∀(j:Nat)t,b[j]?/t->Ys c (Xn (fm b t))/jv j)(l:∀k v,Ys c k/v->∃t∈b,k=Xn (fm b t)):
  (Ys c (Xn (fm b t))).isSome=decide (t∈b):=by
 by_cases h:t∈b
 .rw[Tg h,i _ t (Oa h)];rfl
 .rw[Td h];cases e:Ys c (Xn (fm b t))with
  |none=>rfl
  |some v=>exfalso;have(s,hs,g):=l _ _ e;exact h (rR ht (Wa x.cl hs) (Js g)▸hs)
theorem QZ{P:Gn}{w:Tf}{H:Hp}{p a d c:Ge}{g:List Th}{i:List KE}{E F:List V}{v:V}{t:Th}(x:Pl P w C H p a f d g)(A:DH P w H d i)(h:⇑i<=⇑g)(G:∀(j:Nat)t,g[j]?/t->Ys i (Xn (fm g t))/jv j)(I:∀k v,Ys i k/v->∃t∈g,k=Xn (fm g t))
  (o:H a/.lst E)(L:Zw H E g)(hw:H f/.lst F)(M:Df (Og H) F (g.map (fm g)))(T:Z5 H v t)(ok:t.ok=Gi)(Q:t.depth<=50)(ht:∀q∈t.parts,q∈g)(J:Og H ↑c (fm g t))(m:¬t∈g):
  Pl P w C (zj (zj (zj H d (Uw P w d (Vo i (Xn (fm g t)) c (jv ⇑g)))) a (.lst (E++[v]))) f (.lst (F++[↑c]))) p a f d (g++[t]):=by
 have(R,B):=x.ob;have N:d≠a:=Zt A.at_ o nofun;have O:d≠f:=Zt A.at_ hw nofun;have X:p≠d:=Zt B A.at_ nofun;have W:p≠a:=Zt B o nofun;have Y:p≠f:=Zt B hw nofun;have D:Q6 H (zj (zj (zj H d (Uw P w d (Vo i (Xn (fm g t)) c (jv ⇑g)))) a (.lst (E++[v]))) f (.lst (F++[↑c]))):=λb xs e=>by rw[Qh (Zt e hw nofun),Qh (Zt e o nofun),Qh (Zt e A.at_ nofun)];exact e
 have Z:Ys i (Xn (fm g t))=Gq:=by
  have:=uB x ht G I;rw[Td m]at this;cases e:Ys i (Xn (fm g t))with
  |none=>rfl
  |some u=>rw[e]at this;cases this
 have U:ih H c (Xn (fm g t)):=J.key (by cases t;simp only[Th.ok,T5]at ok;exact ok.1);have n:∀s∈g,fm (g++[t]) s=fm g s:=λs hs=>qa (Wa x.cl hs);have l:fm (g++[t]) t=fm g t:=qa ht;exists {R,?_},{_,?_,(L.append (.one T)).Qv D},{_,Qb,?_},{Vo i (Xn (fm g t)) c (jv ⇑g),{?_,Zq D (A.keys.put U)},?_,λj s e=>?_,λk y e=>?_},x.af,?_,?_
 .rw[Qh Y,Qh W,Qh X];exact B
 .rw[Qh x.af,Qb]
 .have r:(g++[t]).map (fm (g++[t]))=g.map (fm g)++[fm g t]:=by rw[TZ,TY n,Tt,L6,l]
  rw[r];exact Zs (Qr M λ_ _ h=>h.Qv D) (.cons (J.Qv D) .nil)
 .rw[Qh O,Qh N,Qb]
 .have:=nH i (Xn (fm g t)) c (jv ⇑g);rw[Gk,GQ];lia
 .rw[Ia];rcases Dh j ⇑g with h|h
  .rw[TB h]at e;have hs:=Gc e;rw[n s hs,Gs (λz=>m (rR (Wa x.cl hs) ht (Js z)▸hs))];exact G j s e
  .rw[TU h]at e;have r:j - ⇑g=0:=by have:=(Gg.mp e).1;simp at this;lia
   rw[r]at e;simp at e;subst e;have:j=⇑g:=by lia
   subst this;rw[l,GX rfl]
 .rw[Ia]at e;by_cases h:k=Xn (fm g t)
  .exact{t,by simp,by rw[l];exact h}
  .rw[Gs h]at e;have(s,hs,r):=I _ _ e;exact{s,Gu _ hs,by rw[n s hs];exact r}
 .rw[DP];refine{x.nd,by simp,λs hs u o=>?_};simp at o;subst o;exactλz=>m (z▸hs)
 .intro s hs r h;rcases Gh.mp hs with hs|hs
  .exact Gu _ (x.cl s hs r h)
  .simp at hs;subst hs;cases s with
   |mk w0 ps=>
    simp only[Th.inside,Gh,GV]at h;rcases h with h|h
    .rw[X7,Ez]at h;have(K,S,h):=h;exact Gu _ (x.cl K (ht K S) r h)
    .subst h;simp
 .intro s hs;rcases Gh.mp hs with hs|hs
  .exact x.ok s hs
  .simp at hs;subst hs;exact⟨ok,Q⟩
theorem Pq(F:Wd K "place_by_form" "Places.place_by_form" nB f0 fd)(e:iK K mg C)(ab:I0 mg):Q3 P w K mg base Ya 1 f0 fd ["self","thing","form"] (rJ P w C):=by
 refine F.ok UK (λvs h ad ac L=>?_) (λai ah ak s h vs ad ac hr L=>?_)
 .obtain⟨p,c,D,t,b,f,d,a,rfl,_⟩:=L;rfl
 have(p,c,D,t,b,f,d,a,rfl,x,hv,ok,dp,ht,M,hl,q):=L;have N:=hr.units;show∃t,Xu ?my _ t/\_;let ag:Subtype (Xu ?my (sub [0,0,1] (Q9 nB))):={_,Qc (Zn (X0 Te Tv Tz Z4 (Qx {0}) (Qa {1} Qd))) (Qg (Zn (X0 Te Tv Tz Z4 (Qx {0}) (Qa {2} Qd))))}
 exists _,Qc (Zc (Qp (t9 N) {2} (Qx {0}) rfl) (Qc (Rw (Qm Zp rfl ab.len GY (Qa (Qx {0}) Qd)) (jY (Qx {0}) {2} (jZ N))) ag.2) Qw) (Qg (Qt (Qn (jd N) (Qx {0}) {2})));ac_nf;have(l,n):=x.ob;have(g,z,u2):=x.th;have(H,G,w2):=x.fo;have(m,o,kl,O,X):=x.kn;intros;have Q:ih h c (Xn (fm a t)):=M.key (by cases t;simp only[Th.ok,T5]at ok;exact ok.1);have ul:=⇑u2;have wl:⇑H=⇑a:=by rw[GJ w2,Gv]
 exists 00,p,C,l,30,n,e.cl,e.nN,ng _ _ _,c,d,Xn (fm a t),m,11,o,Q,0;rw[uB x ht O X];by_cases j:t∈a
 .rw[Tg j];refine Q4 ?_;have J:=q (a.idxOf t) h (by rw[GX j];exact x) (by rw[GX j];exact Oa j) hI.refl;exact{0,p,C,l,30,n,e.cl,e.nN,ng _ _ _,0,d,c,Xn (fm a t),m,01,o,Q,O _ t (Oa j),J}
 .rw[Td j];refine Yo ?_;have S:=QZ (c:=c) x o kl O X z u2 G w2 hv ok dp ht M j;have da:d≠b:=Zt o.at_ z (by intro k;cases k);have df:d≠f:=Zt o.at_ G (by intro k;cases k);have pd:p≠d:=Zt n o.at_ (by intro k;cases k);have pa:p≠b:=Zt n z (by intro k;cases k);have pf:p≠f:=Zt n G (by intro k;cases k);have e1:(⇑g:Int)=((⇑a:Nat):Int):=by rw[ul]
  exists 0,p,C,l,30,n,e.cl,e.nT,yR _ _ _,b,g,1,.inl (Qk z),0,p,C,l,30,n,e.cl,e.nN,ng _ _ _,0,d,c,Xn (fm a t),m,11,o,Q,(by rw[TH];lia);have Z:(zj h d (Uw P w d (Vo m (Xn (fm a t)) c (.int ⇑g)))) b/.lst g:=by rw[Qh (Tb da)];exact z
  have Y:(zj h d (Uw P w d (Vo m (Xn (fm a t)) c (.int ⇑g)))) p/.ins C l (Rr b f d):=by rw[Qh pd];exact n
  exists 0,p,C,l,30,Y,e.cl,e.nT,yR _ _ _,.inl {13,Qk Z},0,b,g,01,Z,(by rw[TH];lia);have o2:(zj (zj h d (Uw P w d (Vo m (Xn (fm a t)) c (.int ⇑g)))) b (.lst (g++[D]))) p/.ins C l (Rr b f d):=by rw[Qh pa];exact Y
  have aa:(zj (zj h d (Uw P w d (Vo m (Xn (fm a t)) c (.int ⇑g)))) b (.lst (g++[D]))) f/.lst H:=by rw[Qh (Tb x.af),Qh (Tb df)];exact G
  exists 0,p,C,l,30,o2,e.cl,e.nF,SB _ _ _,.inl {13,Qk aa},0,f,H,01,aa,(by rw[TH];lia);rw[e1];have B:hI b f d h (zj (zj (zj h d (Uw P w d (Vo m (Xn (fm a t)) c (jv ⇑a)))) b (.lst (g++[D]))) f (.lst (H++[↑c]))):=⟨λA aj J h1 h2 h3=>by rw[Qh h2,Qh h1,Qh h3];exact J,λA i=>by
    by_cases V:A=f
    .subst V;rw[Qb]at i;cases i
    .rw[Qh V]at i;by_cases T:A=b
     .subst T;rw[Qb]at i;cases i
     .rw[Qh T]at i;by_cases U:A=d
      .subst U;rw[Qb]at i;cases i
      .rw[Qh U]at i;exact i⟩
  have tn:fm (a++[t]) t=fm a t:=qa ht;have W:(a++[t])[⇑a]?/t:=by simp
  have ae:∀r,Pl P w C r p b f d (a++[t])->hI b f d h r->∃v u,r p/.ins C v (Rr b f d)/\DH P w r d u/\ih r c (Xn (fm a t))/\Ys u (Xn (fm a t))/jv ⇑a:=λr y B=>by have(v,R):=y.ob;have(u,I,_,T,_):=y.kn;have E:=T ⇑a t W;rw[tn]at E;exact{v,u,R,I,(M.Qv (B.Qv x)).key (by cases t;simp only[Th.ok,T5]at ok;exact ok.1),E}
  ac_nf;have(v,u,R,I,af,E):=ae _ S B;intros;exact{0,p,C,v,30,R,e.cl,e.nN,ng _ _ _,0,d,c,Xn (fm a t),u,01,I,af,E,q ⇑a _ (by rw[Gs j];exact S) (by rw[Gs j];exact W) B}
structure lq(K:Gd)(mg:TM->Option Gj)(CW:Ge):Prop where
 cl:hZ K CW
 nP:Xg K CW "places"
 nS:Xg K CW "steps"
 mgC:mg "Walk"/↑CW
 few:∃u,mg "FEW_PARTS"/u/\zu (.int 4) u
 walks:∃u,mg "WALKS_ANEW"/u/\zu (.int 1024) u
 steps:∃u,mg "STEPS_ANEW"/u/\zu (.int 40000) u
theorem Kc(p:Ge)(n:Int):(wfl p n).lookup ("places":TM)/↑p:=by rfl
theorem qZ(p:Ge)(n:Int):(wfl p n).lookup ("steps":TM)/.int n:=by rfl
theorem sO(p:Ge)(n:Int):(wfl p n).lookup ("place_within":TM)=Gq:=by rfl
theorem Q0n:Q7 ["spare","inner"] ["spare","inner"] (Qo rj):=by eq_refl
theorem Qte(F:Wd K "share_of" "share_of" rj f0 fd):Q3 P w K mg base Ya 1 f0 fd ["spare","inner"] qw:=by
 refine F.ok Q0n (λe H Q E h=>?_) (λd A a s H e Q E g h=>?_)
 .obtain⟨i,j,rfl,_⟩:=h;rfl
 have(i,j,rfl,f,q):=h;exists _,Qc (Zc (PW.pt (Yu (Qp Vh {1} Qi (Qu _)) (Xe (Qp Vh (Zg Wo {0} {1}) (Zg Ru {1} Qi) (Qu _))))) (Qg (Qt Qi)) Qw)
  (Qg (Qt (Zg Wo {0} {1})))
 exists 403010;by_cases b:j<2
 .rw[Tg b];exact Yo (Yo (q 0))
 .rw[Td b];have c:tN i j:={by ext,by ext};refine Q4 {00301,c,03013010,?_};refine Us (λ_=>q 0) (λ_=>?_);exact{00301,c,q _}
theorem vm:Q7 ["met","thing","twin","place"] ["met","thing"] (Qo pQ):=by eq_refl
theorem Qvp(F:Wd K "place_among" "place_among" pQ f0 fd)(B:I0 mg):Q3 P w K mg base Ya 1 f0 fd ["met","thing"] p7:=by
 refine F.ok vm (λR H Q E h=>?_) (λz A n s H R Q E G h=>?_)
 .obtain⟨l,v,t,g,N,rfl,_⟩:=h;rfl
 have(l,v,t,g,N,rfl,p,k,m,ht,x,D,J,L):=h;have I:=G.units;have q:=vm.nd;exists _,Qc (Yb Tj rfl (uC rfl B.reversed (Qa {0} Qd)) (V8 rfl (Zr (Z7 2 q) (Zr (Z7 3 q) Wp)))
   (Qg (Zc (Qp (Jh I) {2} {1} (Qu _)) (Qg (Qt {3})) Qw)))
  (Qg (Qt U9))
 refine⟨_,Xb,l,g,Xb,Qk p,v9 (K:=K) (a:=l) (xs:=g) (λi f d=>d=H/\∃r u,f=[Ga ↑l,Ga v,r,u])
  {4130} (by rintro i f d _ ⟨e,_⟩;rw[e];exact Qk p) ?_ ?_⟩
 .rintro i y f d hi ⟨rfl,r,u,rfl⟩;ac_nf;have(c,O,j,M,rfl,C,e,o):=k y (SM.mp (Gc hi));intros;have b:=m _ (Gc o);exists c,0,Qj C,1,O,0,jv j,01002,e.dt,ht.dt,We _ b.1,We _ x,?_,0
  .rw[Xi,Xi];have:=b.2;lia
  rw[lF];by_cases a:M=t
  .subst a;rw[Tg rfl];exact Yo {0,J j o}
  .rw[Td a];exact Q4 {4130}
 .rintro f d ⟨rfl,_⟩;exact L
theorem VE:Q7 ["self","places"] ["self","places"] (Qo pL):=by eq_refl
theorem KS(F:Wd K "__init__" "Walk.__init__" pL f0 fd)(T:lq K mg CW):Q3 P w K mg base Ya 1 f0 fd ["self","places"] (AN CW):=by
 refine F.ok VE (λi H Q E h=>?_) (λg A f s H i Q E j h=>?_)
 .obtain⟨d,c,p,rfl,_⟩:=h;rfl
 have(d,c,p,rfl,hw,q):=h;exists _,Qc (Xk {0} {1} rfl) (Qg (Xk {0} Qi Xb));exists 00,d,CW,c,[],1,hw,T.cl,T.nP,(by show 0<1000;decide);exists 0,d,CW,c,0,Qb,T.cl,T.nS,(by show 1<1000;decide);refine q _ {c,(0),by rw[Qb,XS]} (λb o e a=>by rw[Qh a,Qh a];exact e) λb a=>?_;by_cases h:b=d
 .subst h;rw[Qb]at a;cases a
 .rw[Qh h,Qh h]at a;exact a
theorem y7:Q7 ["self","thing","near","spare","met","place","inner","share","scope","parts","part"] ["self","thing","near","spare"] (Qo Wb):=by eq_refl
theorem UQ{n:Nat}{fT fA fS fB:Ge}{bo bk bn bm:Dn}(F:Wd K "place_within" "Walk.place_within" Wb f0 fd)(bR:iK K mg C)(X:lq K mg CW)(aF:I0 mg)(mP:Yp K CW "place_within" f0)(bP:zk K fd ["self","thing","near","spare"] [])
  (bQ:Q3 P w K mg base Ya (n+1) f0 fd ["self","thing","near","spare"] (kg P w C CW n))(GT:Q3 P w K mg base Ya 1 fT bo ["thing"] qI)(kT:KI K fT)(bT:zk K bo ["thing"] [])(mT:MG mg "top_words" fT)
  (GA:Q3 P w K mg base Ya 1 fA bk ["met","thing"] p7)(kA:KI K fA)(bA:zk K bk ["met","thing"] [])(mA:MG mg "place_among" fA)
  (GS:Q3 P w K mg base Ya 1 fS bn ["spare","inner"] qw)(kS:KI K fS)(bS:zk K bn ["spare","inner"] [])(mS:MG mg "share_of" fS)
  (mB:Yp K C "place_by_form" fB)(GB:Q3 P w K mg base Ya 1 fB bm ["self","thing","form"] (rJ P w C))(bB:zk K bm ["self","thing","form"] []):
  Q3 P w K mg base Ya (n+2) f0 fd ["self","thing","near","spare"] (kg P w C CW (n+1)):=by
 refine F.ok y7 (λB aa aU bO o=>?_) (λcN cL cY s aa B aU bO hr o=>?_)
 .obtain⟨m,p,dn,ar,sp,t,a,v,d,D,S,aj,u,rfl,_⟩:=o;rfl
 ac_nf;have(m,p,dn,ar,sp,t,a,v,d,D,S,aj,u,rfl,W,x,xn,hD,aS,fS,ht,Ye,ca,bt,hm,ch,q):=o;have hu:=hr.units;have aN:Yj 1 _:=hr.mono ∅;have nd:=y7.nd;have(u1,mF,rF):=X.few;have(u3,mN,rN):=X.steps;intros;show∃t,Xu ?my _ t/\_;let cB:Vq ?my Wb 9:={_,Qc (Qz 5 nd (Zm (Qx {0}) bR.cl mB GB aN bB .nil Q5 (Qa {1} (Qa (Zf (Qa (Qn Qs {1} Qi) (Qa (Xz Ub rfl aF.tuple Dg (Qa {9} Qd)) Qd))) Qd)))) (Qc (Zn (X0 Te Tv Tz Z4 {4} (Qa (Zf (Qa {1} (Qa {5} Qd))) Qd))) (Qg (Qt {5})))}
 let cC:Subtype (Xu ?my (sub [8,0,1] (Q9 Wb))):={_,Qg (Zn (X0 Te Tv Tz Z4 {9} (Qa (Zm {0} X.cl mP bQ hr bP .nil Q5 (Qa {10} (Qa {8} (Qa (OH {7} {3}) Qd)))) Qd)))}
 let cD:Subtype (Xu ?my (sub [8,0,0,1] (Q9 Wb))):={_,Qg (Zc (PW.pt (Iu (vM {9} (λ_=>rfl)) (Jn (Qp (Jh hu) {10} (Qn Qs {1} (Qm Zp rfl aF.len GY (Qa {9} Qd))) (Qu _))))) (Qc (Zn (X0 Te Tv Tz Z4 {9} (Qa (Qn Ze {9} (Jz V4 Qi)) Qd))) (Qg P3)) Qw)}
 let cE:Subtype (Xu ?my (sub [8,0] (Q9 Wb))):={_,Qc (Zc (PW.pt (Iu (Qp oi {7} Qi (Qu _)) (Jn (PW.pt (Yu (Qp j7 {6} (lD rfl mF rF) (Qu _)) (Xe (Qp Vh (Qx {0}) (lD rfl mN rN) (Qu _)))))))) (Qg (Qz 8 nd nt)) cD.2) cC.2}
 let cF:Vq ?my Wb 6:={_,Qc (Qz 8 nd {2}) (Qc (Qz 9 nd (Zu Qd)) (Qc (Yb Tj rfl (Uy (Z3 V2 {1} (Yd Qi) Yv)) (Z7 10 nd) cE.2) cB.2))}
 let cG:Vq ?my Wb 4:=⟨_,Qc (Qz 6 nd (Qm Zp rfl aF.len GY (Qa (Ua (own:=["part"]) (fv:=[]) rfl (S:=(by eq_refl:X8 (Qo Wb) _)) .nil (Uy (Z3 V2 {1} (Yd Qi) Yv))
   (λ_ _ _ _ _=>Yz (i:=0) (nd1 _) rfl (DW Xb) (Si Xb)) (λ_ _ _ _ _=>m9 (Qp oi (Qm (r:=λxs aa aU=>∃p ys,xs=[↑p]/\(Jf K aa p ys\/hB K aa p ys)/\aU (.int ⇑ys) aa) Zp rfl aF.len GY (Qa {0} Qd)) Qi (Qu _))) (λ_ _ _ _ _=>pv 0)) Qd))) (Qc (Qz 7 nd (Qw9 (Qp Vh (Qx {0}) (lD rfl mN rN) (Qu _)) (Zb GS aN rfl mS kS bS .nil Q5 (Qa {3} (Qa {6} Qd))) Qi)) cF.2)⟩
 let cH:Vq ?my Wb 1:={_,Qc (Qz 4 nd (X0 SN La Lb (Qlt (Ju hr)) {2} (Qa (Zb GT aN rfl mT kT bT .nil Q5 (Qa {1} Qd)) (Qa (Zu Qd) Qd)))) (Qc (Qz 5 nd (Zb GA aN rfl mA kA bA .nil Q5 (Qa {4} (Qa {1} Qd)))) (Qc (Zc (Oz (sF {5})) (Qg (Qt {5})) Qw) cG.2))}
 exists _,Qc (Xk {0} (Zg Vf (Qx {0}) Qi) rfl) cH.2;have(ax,k0,ow):=W;exists 0,m,CW,ax,30,ow,X.cl,X.nS,qZ _ _,3010,m,CW,ax,0,ow,X.cl,X.nS,(by show 2<1000;decide);rw[Pa];ac_nf;have(cO,op):=x.ob;have(c1,u1,_):=x.th;have(c3,w1,_):=x.fo;have(cU,D1,_):=x.kn;intros;generalize aJ:zj aa m (.ins CW ax (wfl p (k0+1)))=H0;have ai:∀f z,aa f/z->f≠m->H0 f/z:=λf z c o=>by rw[<-aJ,Qh o];exact c
 have bf:H0 m/.ins CW ax (wfl p (k0+1)):=by rw[<-aJ,Qb]
 have bM:∀f,H0 f=Gq->aa f=Gq:=λf l=>by
  by_cases o:f=m
  .subst o;rw[bf]at l;cases l
  .rw[<-aJ,Qh o]at l;exact l
 clear aJ;have t0:Q6 aa H0:=λf xs c=>ai f _ c (Zt c ow (by intro b;cases b));have x0:Pl P w C H0 p a v d u:=x.keep (λz c=>ai _ _ c (Zt op ow P7)) (λz c=>ai _ _ c (Zt u1 ow (by intro b;cases b))) (λz c=>ai _ _ c (Zt w1 ow (by intro b;cases b))) (λz c=>ai _ _ c (Zt D1.at_ ow (by intro b;cases b))) t0;have bN:hH H0 D S aj u:=xn.keep (λf l z c=>by
   have(kv,o,_):=xn.at_ f l;exact ai _ _ c (Zt o ow (by intro b;cases b))) (λf l z c=>by
   have(kv,o,_):=xn.ls f l;exact ai _ _ c (Zt o ow (by intro b;cases b))) t0 (λ_ _ o=>o) (Gz _)
 have bD:=ht.Qv t0;have sz:=Rj t;have(bF,ag,cR,_):=bN.at_ dn hD;refine{0,.inr (.inr (.inl {1,.inr ⟨bF,ag⟩})),0,ar,t,1,bD,by ext,λr H1 g1 R=>{Ts _,λq1 aM=>?_}};have g2:=g1.trans (Qf aM (.lst []));refine{dn,r,↑q1,bF,oH t,11,g2 _ _ ag,(Qf aM (.lst [])) _ _ R,by rw[TH];ext,λnv H3 bv=>?_};ac_nf;have(I,S1,rfl,lS,bh,cw,cr,ao,cy):=Ku bN hD ag g1 aM bv;intros;clear bv g2 R g1 aM;have t3:Q6 H0 H3:=λf xs c=>ao f _ c (Zt c ag (by intro b;cases b));have a9:=bD.Qv t3;have bg:H3 m/.ins CW ax (wfl p (k0+1)):=ao _ _ bf (Zt bf ag (by intro b;cases b));have W3:O2 CW H3 m p:={2,bg};have x3:Pl P w C H3 p a v d u:=by have(dx,o1):=x0.ob;have(us,u1,_):=x0.th;have(ws,w1,_):=x0.fo;have(kv,D,_):=x0.kn;exact x0.keep (λz c=>ao _ _ c (Zt o1 ag (by intro b;cases b))) (λz c=>ao _ _ c (Zt u1 ag (by intro b;cases b))) (λz c=>ao _ _ c (Zt w1 ag (by intro b;cases b))) (λz c=>ao _ _ c (Zt D.at_ ag (by intro b;cases b))) t3
 have F3:hJ a v d m D D S S1 aa H3:={λf z c _ _ _ h4 h5 _=>ao f z (ai f z c h4) (λb=>h5 (b▸hD)),λ_ o=>.inl o,λf l=>(cr f l).elim .inl λb=>.inr (bM f b),λ_ o=>o,cw,λf l=>bM f (cy f l)};have bI:∀N,N∉S->aa N≠Gq->N∉S1:=λN R h2 b=>by
  rcases F3.Qhh N b with b|b
  .exact R b
  .exact h2 b
 have bU:a∉S1:=bI a aS (by rw[u1];intro b;cases b);have b7:v∉S1:=bI v fS (by rw[w1];intro b;cases b);have(es,hl,cW,b3):=bh.ls I lS;exists 00,I,ar,t,es,u,1,hl,b3,x3.ok,a9,Ye,bt,λj ej=>?_
 .have c:=tU x.cl (Gc ej);refine{0,Gi,by rw[Td nofun];rfl,Yo {0,q j D S1 H3 W3 (by rw[c];exact x3) (by rw[c];exact bh.mono ∅) (by rw[c];exact ej) F3}}
 refine{0,Gx,by rw[Tg rfl];rfl,Q4 ?_};ac_nf;have(Y,wd,B,e,rfl,rfl,bq,a7):=a9.inv;intros;simp only[Th.size,Th.depth]at hm ch ca bt;have ay:okL e=Gi:=by simp only[Th.ok,T5]at Ye;exact Ye.2
 have cl:=⇑a7;have cX:=Zl e;refine{00,Y,0,Qj bq,Wj _ _,λrA bx=>?_};rw[iD];have sA:=Qf bx (.tup B);refine{rA,1,{_,Qj Qb},λpA a6=>?_};refine QV (K:=K) (a:=rA) (xs:=B) (λi ys ah H2=>(∃x0,ah=[x0])/\Za (zj H3 rA (.tup B)) H2) (small ∅) {{40},Qf a6 (.lst [])} (λi ys ah H2 _ o=>Qj (o.2 _ _ Qb)) ?_ ?_
 .rintro i y ys ah H2 hi ⟨⟨x0,rfl⟩,aZ⟩ gp;ac_nf;have(ty,Q,hy):=a7.get hi;have(f,wb,us,qs,rfl,rfl,l,_):=hy.inv;intros;exists 0,f,0,.inr (Qj (aZ _ _ (sA _ _ l))),3010;refine Us (λ_=>?_) (λ_=>{gp,{40},aZ});exact{0,gp,{40},λN z c=>by rw[Qh (Qe c a6)];exact aZ _ _ c}
 rintro ys ah O cj ⟨_,gA⟩ gp;have ak:Za H3 O:=sA.trans gA;exists pA,ys,1,.inl (Qk gp);exists 0,m,CW,ax,30,ak _ _ bg,X.cl,X.nS,qZ _ _,3010;refine XA (λX6=>Us (λ_=>{0030,by ext,λr=>X6 r}) (λ_=>X6 0)) (λsh=>?_);have W4:O2 CW O m p:={2,ak _ _ bg};have x4:=x3.same ak;have az:=bh.same ak;have F4:hJ a v d m D D S S1 aa O:=F3.trans (hJ.of ak);have bE:=a9.same ak;have a0:=ak _ _ bq;have a8:=a7.same ak;generalize (⇑ys:Int)=ba;clear gA gp cj bx a6;refine{0,Ts _,λh T=>?_};have s4:=Qf T (.lst []);refine{00,Y,0,Qj (s4 _ _ a0),Wj _ _,λr2 bw=>?_};rw[iD];have s5:=Qf bw (.tup B);have aR:=s4.trans s5;have q5:=s5 _ _ (@Qb O h (.lst []));have r5:=@Qb (zj O h (.lst [])) r2 (.tup B);have cf:h≠r2:=Qe Qb bw;have x5:=x4.same aR;have cK:=az.same aR;have W5:O2 CW (zj (zj O h (.lst [])) r2 (.tup B)) m p:=by have(dx,k,z):=W4;exact{dx,k,aR _ _ z}
 generalize cP:zj (zj O h (.lst [])) r2 (.tup B)=H5 at*;ac_nf;have(cZ,cz,cM):=x4.th;have(c2,b8,_):=x4.fo;have(cS,D3,_):=x4.kn;have(bY,k4,o4):=W4;intros;have bJ:h≠a:=λb=>by rw[b,cz]at T;cases T
 have bK:h≠v:=λb=>by rw[b,b8]at T;cases T
 have cv:h≠d:=λb=>by rw[b,D3.at_]at T;cases T
 have bL:h≠m:=λb=>by rw[b,o4]at T;cases T
 have cu:h∉S1:=λb=>by have(xs,o,_):=az.ls _ b;rw[o]at T;cases T
 have ct:h∉D:=λb=>by have(xs,o,_):=az.at_ _ b;rw[o]at T;cases T
 have W4:O2 CW O m p:=⟨bY,k4,o4⟩;refine⟨r2,Xb,{_,Qj r5},qg (K:=K) (a:=r2) (xs:=B) (λi ah A=>iO λ(H E:List Ge)(ds:Ge)(g:List Nat)(au:Option V)=>lW (ah=[Ga ↑m,Ga ↑Y,Ga ↑dn,Ga (.int sp),Ga ↑I,Ga .non,Ga (.int ba),Ga (.int sh),Ga ↑ds,Ga ↑h,au]) (O2 CW A m p) (Pl P w C A p a v d (Xh u (Zo (e.take i)))) (hH A H E (aj+1+2*Q8 (e.take i)) (Xh u (Zo (e.take i)))) (ds∈H) (hJ a v d m D H S1 E O A) (h∉H) (h∉E) (a∉E) (v∉E) (A h/.lst (g.map jv)) (⇑g=i) (∀(k j:Nat),g[k]?/j->∃s,e[k]?/s/\(Xh u (Zo (e.take i)))[j]?/s) (A r2/.tup B))
  {D,S1,dn,[],0,W5,?_,?_,hD,hJ.of aR,ct,cu,bU,b7,q5,1,λk j o=>by simp at o,r5} (by rintro i ah A _ ⟨_,_,_,_,_,_,_,_,_,_,_,_,_,_,_,_,_,_,o⟩;exact Qj o) ?_ ?_⟩
 .simp only[Nw,Zo,Rp];exact x5
 .simp only[Nw,Zo,Q8,Rp,Nat.mul_zero,RJ];exact cK
 .intro i y;have eS:∀ty,e[i]?/ty->Xh (Xh u (Zo (e.take i))) ty.inside=Xh u (Zo (e.take (i+1))):=λty Q=>by rw[VO e i ty Q,Jp]
  have bp:∀(ty:Th)(aH:Ge)(D7 U:List Ge)(L:Hp)(g:List Nat)(j:Nat)(au:Option V),e[i]?/ty->⇑g=i->(∀(k j:Nat),g[k]?/j->∃s,e[k]?/s/\(Xh u (Zo (e.take i)))[j]?/s)->O2 CW L m p->Pl P w C L p a v d (Xh u (Zo (e.take (i+1))))->hH L D7 U (aj+1+2*Q8 (e.take (i+1))) (Xh u (Zo (e.take (i+1))))->aH∈D7->hJ a v d m D D7 S1 U O L->h∉D7->h∉U->a∉U->v∉U->L h/.lst (g.map jv)->L r2/.tup B->(Xh u (Zo (e.take (i+1))))[j]?/ty->
    iO λ(H E:List Ge)(ds:Ge)(bb:List Nat)(cJ:Option V)=>lW ([Ga ↑m,Ga ↑Y,Ga ↑dn,Ga (.int sp),Ga ↑I,Ga .non,Ga (.int ba),Ga (.int sh),Ga ↑aH,Ga ↑h,au]=[Ga ↑m,Ga ↑Y,Ga ↑dn,Ga (.int sp),Ga ↑I,Ga .non,Ga (.int ba),Ga (.int sh),Ga ↑ds,Ga ↑h,cJ]) (O2 CW (zj L h (.lst (g.map jv++[jv j]))) m p) (Pl P w C (zj L h (.lst (g.map jv++[jv j]))) p a v d (Xh u (Zo (e.take (i+1))))) (hH (zj L h (.lst (g.map jv++[jv j]))) H E (aj+1+2*Q8 (e.take (i+1))) (Xh u (Zo (e.take (i+1))))) (ds∈H) (hJ a v d m D H S1 E O (zj L h (.lst (g.map jv++[jv j])))) (h∉H) (h∉E) (a∉E) (v∉E) ((zj L h (.lst (g.map jv++[jv j]))) h/.lst (bb.map jv)) (⇑bb=i+1) (∀(k j:Nat),bb[k]?/j->∃s,e[k]?/s/\(Xh u (Zo (e.take (i+1))))[j]?/s) ((zj L h (.lst (g.map jv++[jv j]))) r2/.tup B):=by
   intro ty aH D7 U L g j au Q lw ab W7 x7 aE bX G aP aQ aV aY q7 r7 e7;have(bZ,k7,o7):=W7;exists D7,U,aH,g++[j],au,1,{bZ,k7,by rw[Qh (Tb bL)];exact o7},x7.but q7 bJ bK,?_,bX,?_,aP,aQ,aV,aY,?_,by rw[Gk,GQ,lw],λk j' hk=>?_
   .refine aE.keep (λf l z c=>?_) (λf l z c=>?_) (Z2 λxs c=>by rw[q7]at c;cases c) (λ_ _ o=>o) (Gz _)
    .rw[Qh (show f≠h fromλb=>aP (by rw[<-b];exact l))];exact c
    .rw[Qh (show f≠h fromλb=>aQ (by rw[<-b];exact l))];exact c
   .refine{λf z c R h2 h3 h4 h5 h6=>?_,G.Qmy,G.Qhh,G.Qsc,G.Qso,λf l=>?_}
    .rw[Qh (Qe c T)];exact G.keep f z c R h2 h3 h4 h5 h6
    .by_cases bs:f=h
     .subst bs;rw[Qb]at l;cases l
     .rw[Qh bs]at l;exact G.there f l
   .rw[Qb,TZ];rfl
   .rcases Dh k ⇑g with a4|a4
    .rw[TB a4]at hk;have(s0,R,h2):=ab k j' hk;exists s0,R;rw[<-eS ty Q];exact rM h2
    .rw[TU a4]at hk;have h0:k - ⇑g=0:=by have:=(Gg.mp hk).1;simp at this;ext
     rw[h0]at hk;simp at hk;subst hk;have:k=i:=by ext
     subst this;exact⟨ty,Q,e7⟩
   .rw[Qh (Tb cf)];exact r7
  refine' Q5a (F:=λbW H'=>B[i]?/y/\∃(D' S':List Ge)(g:List Nat),O2 CW H' m p/\Pl P w C H' p a v d (Xh u (Zo (e.take i)))/\hH H' D' S' (aj+1+2*Q8 (e.take i)) (Xh u (Zo (e.take i)))/\bW∈D'/\hJ a v d m D D' S1 S' O H'/\h∉D'/\h∉S'/\a∉S'/\v∉S'/\H' h/.lst (g.map jv)/\⇑g=i/\(∀(k j:Nat),g[k]?/j->∃s,e[k]?/s/\(Xh u (Zo (e.take i)))[j]?/s)/\H' r2/.tup B) (λX6=>?myk) ?myh
  case myk=>
   rintro ah A hi ⟨H,E,ds,g,au,rfl,W6,J,ac,aw,F6,ap,aq,ad,af,M,lw,ab,r6⟩;have cd:i<⇑B:=(Gg.mp hi).1;have(ty,Q,hy):=a8.get hi;have aB:ty∈e:=Gc Q;have be:ty.ok=Gi:=by rw[Uq,ER]at ay;exact ay ty aB
   have m2:=Wl aB;have m4:=O9 e i ty Q;have t6:Q6 O A:=F6.Qv W4 x4 az;have a1:=t6 _ _ a0;have(ae,k6,Z):=W6;have W6:O2 CW A m p:=⟨ae,k6,Z⟩;have bu:=X6 ds A ⟨hi,H,E,g,W6,J,ac,aw,F6,ap,aq,ad,af,M,lw,ab,r6⟩;dsimp only[Ui,List.set_cons_succ,List.set_cons_zero]
   refine' Q3d (λXd bi=>?mykk) ?mythn ?myels
   case mykk=>refine{03010,Us (λ_=>?_) (λ_=>Q4 bi)};refine{03010,Us (λ_=>Yo Xd) (λ_=>?_)};exact{0,m,CW,ae,30,Z,X.cl,X.nS,qZ _ _,3010,Us (λ_=>Xd) (λ_=>bi)}
   case myels=>
    by_cases a5:g=[]
    .exact{0,Gx,.inl {_,Qk M,by rw[a5];rfl},Q4 (Q4 bu)}
    .have cQ:0<⇑g:=Lz.mpr a5;have bc:⇑(g.map jv)=⇑g:=Gv _;obtain⟨vp,bj⟩:∃vp,B[i - 1]?/vp:={_,Gf (show i - 1<⇑B by ext)};have(tp,aX,ci):=a8.get bj;have cp:tp.ok=Gi:=by rw[Uq,ER]at ay;exact ay tp (Gc aX)
     have m3:=Wl (Gc aX);have bV:R8 (V.str wd::B) ((⇑(g.map jv):Nat):Int)/vp:=by refine Zk ?_;rw[bc,lw,show i=(i - 1)+1 by ext,SO];exact bj
     refine{0,Gi,.inl {_,Qk M,by cases g with|nil=>exact absurd rfl a5|cons _ _=>rfl},Yo ?_};exists 000,h,g.map jv,1,.inl (Qk M),Y,2,vp,11,Qj a1,bV,2,(hy.Qv t6).dt,(ci.Qv t6).dt,We _ be,We _ cp,?_,0
     .rw[Xi,Xi];ext
     rw[lF];by_cases a3:ty=tp
     .rw[Tg a3];refine Yo ?_;have(vl,al,bl):=OF (g.map jv) ∅;rw[Tq,bc]at bl;ac_nf;obtain⟨jl,ce,rfl⟩:∃jl,g[⇑g - 1]?/jl/\vl=jv jl:=by
       cases c:g[⇑g - 1]? with
       |none=>rw[c]at bl;cases bl
       |some jl=>rw[c]at bl;exact{jl,1,(T3 bl).symm}
      have(sl,bz,bC):=ab _ _ ce;intros;have b6:sl=ty:=by rw[lw,aX]at bz;rw[a3];exact(T3 bz).symm
      subst b6;have eD:Xh u (Zo (e.take (i+1)))=Xh u (Zo (e.take i)):=by rw[<-eS sl Q];exact tU J.cl (Gc bC)
      exists 0,.inl {13,Qk M},00,h,g.map jv,301,Qk M,al,h,g.map jv,jv jl,11,M,(by rw[bc,TH];ext);exact bp sl ds H E A g jl _ Q lw ab W6 (by rw[eD];exact J) (by rw[eD];exact ac.mono ∅) aw F6 ap aq ad af M r6 (by rw[eD];exact bC)
     .rw[Td a3];exact Q4 bu
   case mythn=>
    intro cc aA;have sc:=Qf aA (.dT []);refine X6 cc (zj A cc (.dT [])) {hi,cc::H,E,g,{ae,k6,sc _ _ Z},J.same sc,ac.more aA,Tc,?_,?_,aq,ad,af,sc _ _ M,lw,ab,sc _ _ r6}
    .have G:=F6.trans (hJ.of (D:=H) (S:=E) sc);exact{G.keep,λf l=>(Ti.mp l).elim (λb=>.inr (by rw[b];exact F6.there _ aA)) (G.Qmy f),G.Qhh,λf l=>Gr _ (G.Qsc f l),G.Qso,G.there}
    .intro b;rcases Ti.mp b with b|b
     .rw[<-b,M]at aA;cases aA
     .exact ap b
  case myh=>
   rintro ds A ⟨hi,H,E,g,W6,J,ac,aw,F6,ap,aq,ad,af,M,lw,ab,r6⟩;have cd:i<⇑B:=(Gg.mp hi).1;have(ty,Q,hy):=a8.get hi;have aB:ty∈e:=Gc Q;have m1:=O9 e i ty Q;have m2:=Wl aB;have m3:=Ih e (i+1);have be:ty.ok=Gi:=by rw[Uq,ER]at ay;exact ay ty aB
   have t6:Q6 O A:=F6.Qv W4 x4 az;have an:=qA (Zo (e.take i)) u;rw[Jk]at an;have(ae,k6,Z):=W6;have W6:O2 CW A m p:=⟨ae,k6,Z⟩;refine{0,.inl {13,Qk M},0,m,ae,0,Z,sO _ _,00,sh,sp,11,λb=>?_};refine{m,p,ds,y,b,ty,a,v,d,H,E,30,W6,J,ac,aw,ad,af,hy.Qv t6,be,by ext,by ext,by ext,by ext,λj D7 U L W7 x7 aE e7 G=>?_};have q7:L h/.lst (g.map jv):=G.keep _ _ M bJ bK cv bL ap aq;have bd:∀N,N∉E->A N≠Gq->N∉U:=λN R h2 b=>by
    rcases G.Qhh N b with b|b
    .exact R b
    .exact h2 b
   have aQ:h∉U:=bd h aq (by rw[M];intro b;cases b);have aP:h∉D7:=λb=>by
    rcases G.Qmy _ b with b|b
    .exact ap b
    .rw[M]at b;cases b
   ac_nf;have(cA,aT,_):=J.th;have(cI,aI,_):=J.fo;intros;have aV:a∉U:=bd a ad (by rw[aT];intro b;cases b);have aY:v∉U:=bd v af (by rw[aI];intro b;cases b);exists h,g.map jv,jv j,11,q7,(by rw[Gv,TH];ext);have r7:L r2/.tup B:=G.Qv W6 J ac _ _ r6;rw[eS ty Q]at x7 aE e7;have eM:aj+1+2*Q8 (e.take i)+2*ty.size=aj+1+2*Q8 (e.take (i+1)):=by ext
   rw[eM]at aE;exact bp ty ds D7 U L g j _ Q lw ab W7 x7 aE (G.Qsc _ aw) (F6.trans G) aP aQ aV aY q7 r7 e7
 .rintro ah A ⟨H,E,ds,g,au,rfl,W6,J,ac,aw,F6,ap,aq,ad,af,M,lw,ab,r6⟩;have ep:e.take ⇑B=e:=by rw[cl,Tw]
  rw[ep]at J ac ab;have t6:Q6 O A:=F6.Qv W4 x4 az;have a1:=t6 _ _ a0;have(b1,cq):=J.ob;have(ae,k6,Z):=W6;have ck:=qA (Zo e) u;rw[Jk]at ck;have aO:=F6.Qso I lS;have cs:∀s0∈e,s0∈Xh u (Zo e):=λs0 cg=>(qp _ _ _).mpr (.inr (by rw[X7,Ez];exact{s0,cg,yg s0}));have b4:g=e.map λs0=>(Xh u (Zo e)).idxOf s0:=by
   refine L8 λk=>?_;rw[Tq];cases c:g[k]? with
   |none=>
    have:⇑g<=k:=by simpa using c
    rw[De ∅];rfl
   |some j0=>have(s0,R,h2):=ab k j0 c;rw[R,DZ,O6 J.nd h2]
  refine{0,m,CW,ae,30,Z,X.cl,X.nP,Kc _ _,p,b1,0,cq,Qy5 _ _ _,00,Y,2,.str wd,11,Qj a1,Oj _ _,0,h,0,.inl {Qk M,λe0 cb=>?_}};have s6:=Qf cb (.tup (g.map jv));refine{Yy,λc0 b9=>?_};have s7:=Qf b9 (.tup [.str wd,↑e0]);have aC:=s6.trans s7;refine{p,c0,↑Y,.mk wd e,a,v,d,0,J.same aC,(bE.Qv t6).same aC,Ye,by simp only[Th.depth];ext,cs,{c0,e0,1,Qb,?_},by ext,λj H8 x8 e8 F8=>?_}
  .rw[s7 _ _ Qb,b4];rfl
  have eI:(Th.mk wd e).inside=Zo e++[Th.mk wd e]:=by simp[Th.inside]
  have eD:Xh u (Th.mk wd e).inside=if Th.mk wd e∈Xh u (Zo e)then Xh u (Zo e)else Xh u (Zo e)++[Th.mk wd e]:=by rw[eI,Qq5]
  rw[<-eD]at x8 e8;have cx:Q6 A H8:=λf xs c=>(F8.Qv (J.same aC)) f xs (aC _ _ c);have av:hI a v d A H8:=(hI.of aC).trans F8;ac_nf;have(aW,an,cV,b2):=ac.ls I aO;have bG:I≠a:=λb=>ad (b▸aO);have bH:I≠v:=λb=>af (b▸aO);have(cA,aT,_):=J.th;have(cI,aI,_):=J.fo;have(cT,aG,_):=J.kn;intros;have cn:I≠d:=Zt an aG.at_ (by intro b;cases b);have co:I≠m:=Zt an Z (by intro b;cases b);have aL:=av.keep _ _ an bG bH cn;have o8:=av.keep _ _ Z (Zt Z aT (by intro b;cases b)) (Zt Z aI (by intro b;cases b)) (Zt Z aG.at_ (by intro b;cases b));refine{0,.inl {13,Qk aL},00,Yy,λc9 a2=>?_};have s9:=Qf a2 (.tup [↑Y,jv j]);exists I,aW,↑c9,11,s9 _ _ aL,(by rw[TH];ext);have x9:=x8.same s9;have sE:(Th.mk wd e).size=Q8 e+1:=by simp[Th.size]
  have aD:Q6 A (zj (zj H8 c9 (.tup [↑Y,jv j])) I (.lst (aW++[↑c9]))):=λf xs c=>by rw[Qh (Zt c an (by intro b;cases b))];exact s9 _ _ (cx _ _ c)
  have cm:(zj (zj H8 c9 (.tup [↑Y,jv j])) I (.lst (aW++[↑c9]))) c9/.tup [↑Y,jv j]:=by rw[Qh (λb=>by rw[b,aL]at a2;cases a2),Qb]
  refine{0,q j H E _ {ae,k6,by rw[Qh (Tb co)];exact s9 _ _ o8} (x9.but (s9 _ _ aL) bG bH) {λf l=>?_,λf l=>?_} e8 ?_}
  .obtain⟨kv,k1,k2,k3⟩:=ac.at_ f l;refine{kv,?_,by rw[sE];ext,k3};rw[Qh (Zt k1 an (by intro b;cases b))];exact s9 _ _ (av.keep _ _ k1 (Zt k1 aT (by intro b;cases b)) (Zt k1 aI (by intro b;cases b)) (Zt k1 aG.at_ (by intro b;cases b)))
  .by_cases aK:f=I
   .subst aK;refine{_,Qb,by rw[Gk,GQ,sE];ext,λc he=>?_};rcases Gh.mp he with he|he
    .subst_vars;have(N,ar,j0,t0,k1,k2,k3,k4):=b2 c he;intros;exists N,ar,j0,t0,k1,aD _ _ k2,k3.Qv aD;rw[eI,Jp];exact rM k4
    .rw[GV]at he;subst he;exact{c9,↑Y,j,0,cm,(bE.Qv t6).Qv aD,e8}
   .obtain⟨b5,k1,k2,k3⟩:=ac.ls f l;refine{b5,?_,by rw[sE];ext,λc he=>?_}
    .rw[Qh aK];exact s9 _ _ (av.keep _ _ k1 (λb=>ad (b▸l)) (λb=>af (b▸l)) (Zt k1 aG.at_ (by intro b;cases b)))
    .subst_vars;have(N,ar,j0,t0,k4,k5,k6,k7):=k3 c he;intros;exists N,ar,j0,t0,k4,aD _ _ k5,k6.Qv aD;rw[eI,Jp];exact rM k7
  .have am:=F4.trans F6;refine{λf z c R h2 h3 h4 h5 h6=>?_,am.Qmy,am.Qhh,am.Qsc,am.Qso,λf l=>?_}
   .have e9:=am.keep f z c R h2 h3 h4 h5 h6;have aK:f≠I:=λb=>by
     rcases am.Qhh I aO with w1|w1
     .exact h6 (b▸w1)
     .rw[<-b,c]at w1;cases w1
    rw[Qh aK];exact s9 _ _ (av.keep _ _ e9 R h2 h3)
   .refine am.there f (av.there f ?_);by_cases br:f=I
    .subst br;rw[Qb]at l;cases l
    .rw[Qh br]at l;exact s9.free l
theorem WI:Q3 P w K mg base Ya 1 f fd ["self","thing","near","spare"] (kg P w C CW 0):=by
 have g:∀b H Q E,¬kg P w C CW 0 b H Q E:=λb H Q E h=>by have(o,p,i,v,k,t,a,f,d,D,S,m,l,_,_,_,_,_,_,_,_,_,j,_):=h;have:=qO t;lia
 exact{λb H Q E h=>absurd h (g b H Q E),λA c s H e n b Q E _ _ _ _ h=>absurd h (g b H Q E)}
theorem si{f i g h v C e:Ge}{j d a c b:Dn}(F:Wd K "place_within" "Walk.place_within" Wb f j)(T:iK K mg C)(p:lq K mg e)(B:I0 mg)(E:Yp K e "place_within" f)(s:zk K j ["self","thing","near","spare"] [])
  (o:Q3 P w K mg base Ya 1 i d ["thing"] qI)(z:KI K i)(u:zk K d ["thing"] [])(H:MG mg "top_words" i)
  (k:Q3 P w K mg base Ya 1 g a ["met","thing"] p7)(x:KI K g)(q:zk K a ["met","thing"] [])(A:MG mg "place_among" g)
  (m:Q3 P w K mg base Ya 1 h c ["spare","inner"] qw)(y:KI K h)(t:zk K c ["spare","inner"] [])(G:MG mg "share_of" h)
  (D:Yp K C "place_by_form" v)(l:Q3 P w K mg base Ya 1 v b ["self","thing","form"] (rJ P w C))(r:zk K b ["self","thing","form"] []):∀n:Nat,Q3 P w K mg base Ya (n+1) f j ["self","thing","near","spare"] (kg P w C e n)
 |0=>WI
 |n+1=>UQ F T p B E s (si F T p B E s o z u H k x q A m y t G D l r n) o z u H k x q A m y t G D l r
theorem Kf:Q7 ["self","thing"] ["self","thing"] (Qo qK):=by eq_refl
theorem OT{R S:Ge}{n r:Dn}(F:Wd K "place_of" "Places.place_of" qK f0 fd)(I:lq K mg CW)(MW:Mk K CW R)(Y:Q3 P w K mg base Ya 1 R n ["self","places"] (AN CW))(bI:zk K n ["self","places"] [])(mW:Yp K CW "place_within" S)(bW:zk K r ["self","thing","near","spare"] [])
  (G:Q3 P w K mg base Ya 51 S r ["self","thing","near","spare"] (kg P w C CW 50)):Q3 P w K mg base Ya 52 f0 fd ["self","thing"] (AD P w C):=by
 refine F.ok Kf (λvs H Q E h=>?_) (λaa A z s H vs Q E T h=>?_)
 .obtain⟨p,v,t,a,f,d,X,rfl,_⟩:=h;rfl
 have(p,v,t,a,f,d,X,rfl,x,ht,Ye,y,ac,q):=h;have(u2,mN,rN):=I.walks;have M:Yj 2 _:=T.mono (by decide);exists _,Qg (Qt (Zm (rL MW Y M rfl I.mgC bI .nil Q5 (Qa {0} Qd)) I.cl mW G T bW .nil Q5 (Qa {1} (Qa nt (Qa (lD rfl mN rN) Qd)))));refine{0,λB J i L ab=>?_};have s0:Za H (zj (zj H J (.own B)) B (.ins CW J [])):=λc o e=>by rw[Qh (Qe e i),Qh (Qe e L)];exact e
 refine{B,J,p,1,Qb,λH1 W1 k1 ad=>{1,?_}};have V:Za H H1:=λc o e=>k1 c o (s0 c o e) (Qe e i);have(m,kw,U):=W1;refine{B,m,0,U,sO _ _,0,λO u=>?_};have W:=Qf u (.dT []);have g:=V.trans W;refine{B,p,O,v,_,t,a,f,d,[O],[],(0),X,1,{m,kw,W _ _ U},x.same g,{λb D=>?_,λl hl=>nomatch hl},by simp,by simp,by simp,ht.same g,Ye,y,y,by lia,by lia,λj D' S' Z W' x' n' e' N=>?_}
 .rw[GV]at D;subst D;exact{[],Qb,Gz _,λk v e=>by rw[qj]at e;cases e}
 .refine q j Z x' e' {λb o e A E Q=>N.keep b o (g _ _ e) A E Q (Qe e i) (λz=>?_) ⋯,λb D=>g.free (N.there b D)};rw[GV]at z;exact Qe (V _ _ e) u z
end
end K06
namespace Nt
variable{up:Nat->Option Nat}{p m over q x y n v lo hi:Nat}{l a b low S s cl:List Nat}{Xr:Nat->Nat->Option Nat}{f f':Nat->Nat}
inductive Ch(up:Nat->Option Nat):Nat->List Nat->Prop
 |top {p:Nat}:up p=Gq->Ch up p [p]
 |step {p q:Nat} {l:List Nat}:up p/q->Ch up q l->Ch up p (p::l)
theorem Ch.uniq{m:List Nat}(h:Ch up p l)(k:Ch up p m):l=m:=by
 induction h generalizing m with
 |top e=>cases k with
  |top=>rfl
  |step f=>rw[e]at f;cases f
 |step e _ a=>cases k with
  |top f=>rw[e]at f;cases f
  |step f k=>rw[e]at f;cases f;rw[a k]
theorem Ch.ne(h:Ch up p l):l≠[]:=by cases h<;>simp
theorem Ch.head(h:Ch up p l):∃r,l=p::r:=by cases h<;>exact{40}
theorem Ch.suffix{z:Nat}(h:Ch up p l)(e:l=a++z::b):Ch up z (z::b):=by
 induction h generalizing a with
 |top f=>cases a with
  |nil=>cases e;exact .top f
  |cons x a=>simp at e
 |step f h c=>cases a with
  |nil=>cases e;exact .step f h
  |cons x a=>cases e;exact c rfl
theorem Ch.nodup(h:Ch up p l):l.Nodup:=by
 induction h with
 |top=>simp
 |@step p _ l e h d=>rw[Du];refine{λc=>?_,d};have(a,b,rfl):=Sj c;have:=congrArg Sc ((h.suffix Xb).uniq (.step e h));simp at this;lia
def Yf(l:List Nat):Nat:=l.getLastD 0
theorem pU(h:l≠[]):Yf (p::l)=Yf l:=by
 cases l with
 |nil=>exact absurd rfl h
 |cons x r=>simp[Yf,List.getLastD]
theorem Quw(h:b≠[]):Yf (a++b)=Yf b:=by
 induction a with
 |nil=>rfl
 |cons x r c=>rw[DG,pU (by simp[h]),c]
theorem Ch.nh{z:Nat}(h:Ch up p l)(c:z∈l):∃m,Ch up z m/\Yf m=Yf l:=by have(a,b,rfl):=Sj c;exact{z::b,h.suffix Xb,by rw[Quw ⋯]}
def mf(up:Nat->Option Nat)(p:Nat)(v:Nat):Nat->Option Nat:=λq=>if q=p then Ga v else up q
def Ws(up:Nat->Option Nat):Nat->List Nat->(Nat->Option Nat)
 |_,[]=>up
 |over,c::r=>Ws (mf up c over) c r
theorem Ob(h:q∉l):Ws up over l q=up q:=by
 induction l generalizing up over with
 |nil=>rfl
 |cons c r a=>simp only[Ti,not_or]at h;exact(a h.2).trans (Gs h.1)
theorem Ch.uz(h:Ch up p l)(k:∀z∈l,z∉low):Ch (Ws up over low) p l:=by
 induction h with
 |top e=>exact .top ((Ob (k _ Tc)).trans e)
 |step e _ b=>exact .step ((Ob (k _ Tc)).trans e) (b λz a=>k z (Gr _ a))
theorem zB{m:List Nat}(nd:low.Nodup)(e:Ch (Ws up over low) over m):∀z∈low,∃l,Ch (Ws up over low) z l/\Yf l=Yf m:=by
 induction low generalizing up over m with
 |nil=>nofun
 |cons c r f=>
  rw[Du]at nd;have d:Ch (Ws up over (c::r)) c (c::m):=.step ((Ob nd.1).trans (GX Xb)) e;have b:Yf (c::m)=Yf m:=pU e.ne;intro z a;rcases Ti.mp a with rfl|a
  .exact{_,d,b}
  .obtain⟨l,g,h⟩:=f nd.2 d z a;exact{l,g,by rw[h,b]}
theorem Qwo{m:List Nat}(nd:low.Nodup)(f:Ch (Ws up over low) over m):∀{p:Nat}{l:List Nat},Ch up p l->(∃z∈l,z∈low)->∃c,Ch (Ws up over low) p c/\Yf c=Yf m:=by
 intro p l h;induction h with
 |@top p e=>rintro⟨z,a,b⟩;simp at a;subst a;exact zB nd f _ b
 |@step p q l e k i=>
  rintro⟨z,a,b⟩;by_cases d:p∈low
  .exact zB nd f p d
  .rcases Ti.mp a with rfl|a
   .exact absurd b d
   .obtain⟨c,g,j⟩:=i ⟨z,a,b⟩;exact{p::c,.step (by rw[Ob d];exact e) g,by rw[pU g.ne,j]}
theorem QJ(nd:l.Nodup)(h:Ws up over l p/q):up p/q\/(∃r,l=p::r/\q=over)\/∃a b,l=a++q::p::b:=by
 induction l generalizing up over with
 |nil=>exact .inl h
 |cons c r d=>
  rw[Du]at nd;rcases d nd.2 h with h|⟨f,rfl,rfl⟩|⟨a,b,rfl⟩
  .unfold mf at h;by_cases e:p=c
   .rw[GX e]at h;cases h;subst e;exact .inr (.inl ⟨r,Xb,Xb⟩)
   .rw[Gs e]at h;exact .inl h
  .exact .inr (.inr {[],f,1})
  .exact .inr (.inr {c::a,b,1})
theorem Ch.jx(h:Ch up p l)(e:l=a++x::y::b):up x/y:=by
 have k:=h.suffix e;cases k with
 |step f h=>have(r,c):=h.head;cases c;exact f
variable{α:Type}
inductive Cn(ls:List (Nat×Nat×α)):Nat->Nat->Prop
 |refl (p:Nat):Cn ls p p
 |symm {p q:Nat}:Cn ls p q->Cn ls q p
 |trans {p q r:Nat}:Cn ls p q->Cn ls q r->Cn ls p r
 |link {p q:Nat} {r:α}:(p,q,r)∈ls->Cn ls p q
theorem Cn.mono{a b:List (Nat×Nat×α)}(h:∀x∈a,x∈b):∀{p q:Nat},Cn a p q->Cn b p q:=by
 intro p q c;induction c with
 |refl p=>exact .refl p
 |symm _ d=>exact .symm d
 |trans _ _ d e=>exact .trans d e
 |link m=>exact .link (h _ m)
theorem Cn.Qqz{a:List (Nat×Nat×α)}(h:m<=n)(c:Cn (a.take m) p q):Cn (a.take n) p q:=
 c.mono λx b=>by
  have:a.take m=(a.take n).take m:=by rw[Mb,FC h]
  rw[this]at b;exact Dm b
structure hY(S:List Nat)(ls:List (Nat×Nat×α))(Xr:Nat->Nat->Option Nat)(up:Nat->Option Nat):Prop where
 jx:∀p q,up p/q->∃n,Xr p q/n
 Qij:∀p q n,Xr p q/n->∃r,ls[n]?/(p,q,r)\/ls[n]?/(q,p,r)
 all:∀(n p q:Nat)r,ls[n]?/(p,q,r)->Xr p q/n/\Xr q p/n
 sep:∀(n p q:Nat)r,ls[n]?/(p,q,r)->¬Cn (ls.take n) p q
 chain:∀p∈S,∃l,Ch up p l
 inS:∀p q,up p/q->p∈S/\q∈S
theorem hY.oQ{a:List (Nat×Nat×α)}(F:hY S a Xr up)(h:Xr p q/n):Xr q p/n:=by
 obtain⟨r,h|h⟩:=F.Qij p q n h
 .exact(F.all _ _ _ _ h).2
 .exact(F.all _ _ _ _ h).1
inductive hV(Xr:Nat->Nat->Option Nat):Nat->List Nat->Nat->Prop
 |nil (p:Nat):hV Xr p [] p
 |cons {p q r n:Nat} {ns:List Nat}:Xr p q/n->hV Xr q ns r->hV Xr p (n::ns) r
theorem hV.app{r:Nat}(h:hV Xr p a q)(k:hV Xr q b r):hV Xr p (a++b) r:=by
 induction h with
 |nil=>exact k
 |cons e _ c=>exact .cons e (c k)
theorem hV.rev(c:∀p q n,Xr p q/n->Xr q p/n)(h:hV Xr p a q):hV Xr q a.reverse p:=by
 induction h with
 |nil=>exact .nil _
 |cons e _ b=>rw[Lj];exact b.app (.cons (c _ _ _ e) (.nil _))
theorem hV.split(h:hV Xr p l q)(e:l=a++n::b):∃x y,hV Xr p a x/\Xr x y/n/\hV Xr y b q:=by
 induction h generalizing a with
 |nil=>simp at e
 |cons f h i=>cases a with
  |nil=>cases e;exact{2,.nil _,f,h}
  |cons z a=>cases e;have(x,y,c,d,g):=i rfl;exact{x,y,.cons f c,d,g}
theorem ZS(h:l≠[]):∃m∈l,∀k∈l,k<=m:=by
 induction l with
 |nil=>exact absurd rfl h
 |cons x r d=>
  cases r with
  |nil=>exact{x,Tc,λk a=>LX (GV.mp a)}
  |cons y r=>
   have(m,c,b):=d ⋯;by_cases e:x<=m
   .refine{m,Gr _ c,λk a=>?_};rcases Ti.mp a with rfl|a
    .exact e
    .exact b k a
   .refine{x,Tc,λk a=>?_};rcases Ti.mp a with rfl|a
    .exact Gz _
    .exact Dl (b k a) (Nat.le_of_not_le e)
section
variable{S:List Nat}{ls:List (Nat×Nat×α)}{Xr:Nat->Nat->Option Nat}{up:Nat->Option Nat}
theorem hY.xt(F:hY S ls Xr up){M:Nat}(h:hV Xr p a q)(c:∀k∈a,k<M):Cn (ls.take M) p q:=by
 induction h with
 |nil=>exact .refl _
 |@cons _ _ _ n _ e h g=>
  refine .trans ?_ (g λk f=>c k (Gr _ f));have d:=c n Tc;obtain⟨r,b|b⟩:=F.Qij _ _ _ e
  .exact .link (r:=r) (Gc (i:=n) (by rw[NS,GX d];exact b))
  .exact .symm (.link (r:=r) (Gc (i:=n) (by rw[NS,GX d];exact b)))
theorem hY.early(F:hY S ls Xr up)(h:hV Xr p a q)(nd:a.Nodup)(c:Cn (ls.take n) p q):∀k∈a,k<n:=by
 intro k g;have(M,A,f):=ZS (l:=a) (by intro z;rw[z]at g;simp at g);by_cases i:M<n
 .exact Sd (f k g) i
 exfalso;have(b,d,rfl):=Sj A;have(x,y,u,v,w):=h.split rfl;rw[DP]at nd;have(n1,n2,n3):=nd;rw[Du]at n2;have l:∀k∈b,k<M:=λk g=>by have:=f k (Gu _ g);have:=n3 k g M Tc;lia
 have t:∀k∈d,k<M:=λk g=>by have:=f k (TJ _ (Gr _ g));have:k≠M:=λz=>n2.1 (z▸g);lia
 have m:=F.xt u l;have o:=F.xt w t;have s:Cn (ls.take M) p q:=c.Qqz (by lia);have j:Cn (ls.take M) x y:=.trans (.symm m) (.trans s (.symm o));obtain⟨r,e|e⟩:=F.Qij _ _ _ v
 .exact F.sep _ _ _ _ e j
 .exact F.sep _ _ _ _ e (.symm j)
def num(Xr:Nat->Nat->Option Nat)(up:Nat->Option Nat)(x:Nat):Nat:=((up x).bind (Xr x)).getD 0
theorem hY.kY(F:hY S ls Xr up)(h:up x/y):Xr x y/num Xr up x:=by have(n,a):=F.jx x y h;unfold num;rw[h];simp[a]
theorem hY.WD(F:hY S ls Xr up){n o:Nat}(h:up x/n)(k:up y/o)(e:num Xr up x=num Xr up y):x=y:=by
 have j:=F.kY h;have q:=F.kY k;rw[e]at j;have(r,d):=F.Qij _ _ _ j;have(v,a):=F.Qij _ _ _ q;have b:x=o->n=y->x=y:=λt u=>by
  subst t u;exfalso;have(l,m):=F.chain x (F.inS _ _ h).1;have s:=m.nodup;cases m with
  |top f=>rw[h]at f;cases f
  |step f g=>
   rw[h]at f;cases f;cases g with
   |top c=>rw[k]at c;cases c
   |step c p=>rw[k]at c;cases c;have(w,i):=p.head;subst i;simp at s
 rcases d with d|d<;>rcases a with a|a<;>rw[d]at a<;>simp only[IT,Es]at a
 .exact a.1
 .exact b a.1 a.2.1
 .exact b a.2.1 a.1
 .exact a.2.1
theorem hY.vk(F:hY S ls Xr up){P:List Nat}(h:Ch up p l)(e:l=P++m::s):hV Xr p (P.map (num Xr up)) m:=by
 induction h generalizing P with
 |top=>cases P with
  |nil=>cases e;exact .nil _
  |cons z P=>simp at e
 |step f _ a=>cases P with
  |nil=>cases e;exact .nil _
  |cons z P=>cases e;exact .cons (F.kY f) (a Xb)
theorem Ch.zU{P:List Nat}(h:Ch up p l)(e:l=P++m::s)(c:x∈P):∃y,up x/y:=by
 have(a,b,rfl):=Sj c;cases b with
 |nil=>exact{m,h.jx (a:=a) (b:=s) (by rw[e];simp)}
 |cons y b=>exact{y,h.jx (a:=a) (b:=b++m::s) (by rw[e];simp)}
theorem ZU(nd:l.Nodup)(h:∀x∈l,∀y∈l,f x=f y->x=y):(l.map f).Nodup:=by
 induction l with
 |nil=>simp
 |cons x r i=>rw[Du]at nd;rw[Tt,Du];refine{λz=>?_,i nd.2 λa d b g=>h a (Gr _ d) b (Gr _ g)};have(y,c,e):=Tx.mp z;exact nd.1 (h y (Gr _ c) x Tc e▸c)
theorem PU(h:(x,y)∈l.zip (l.drop 1)):∃a b,l=a++x::y::b:=by
 induction l with
 |nil=>simp at h
 |cons z r c=>
  cases r with
  |nil=>simp at h
  |cons w r=>
   rcases Ti.mp h with h|h
   .cases h;exact{[],r,1}
   .obtain⟨a,b,e⟩:=c h;exact{z::a,b,by rw[e];rfl}
theorem Ch.two{P R:List Nat}(h:Ch up p (P++m::s))(e:P++m::R=a++x::y::b):(x∈P/\up x/y)\/∃c,m::R=c++x::y::b:=by
 induction P generalizing p a with
 |nil=>exact .inr {_,e}
 |cons z P i=>
  generalize d:z::P++m::s=l at h;cases h with
  |top=>simp at d
  |step f h=>
   cases d;cases a with
   |nil=>
    have(r,g):=h.head;have(rfl,k):=LJ e;refine .inl {Tc,f.trans (congrArg Ga ?_)};cases P with
    |nil=>exact(LJ g).1.symm.trans (LJ k).1
    |cons=>exact(LJ g).1.symm.trans (LJ k).1
   |cons=>exact(i h (LJ e).2).imp_left λh=>{Gr _ h.1,h.2}
theorem hY.way(F:hY S ls Xr up){f d:Nat}{G H P Q:List Nat}(p:Ch up f G)(q:Ch up d H)(i:G=P++m::s)(j:H=Q++m::s)(w:P=[]\/Q=[]\/P.getLast?≠Q.getLast?):
  ∀x y,(x,y)∈(P++m::Q.reverse).zip ((P++m::Q.reverse).drop 1)->∃k,Xr x y/k/\∀n,Cn (ls.take n) f d->k<n:=by
 have dis:∀z∈P,z∉Q:=λz O R=>by
  have(J,r,rfl):=Sj O;have(K,L,rfl):=Sj R;have M:=p.suffix (a:=J) (z:=z) (b:=r++m::s) (by rw[i];simp);have N:=q.suffix (a:=K) (z:=z) (b:=L++m::s) (by rw[j];simp);have e:=M.uniq N;simp only[DB,true_and]at e;have e:=Mw e;subst e;rcases w with h|h|h
  .simp at h
  .simp at h
  .refine h ?_;rw[Sw,Sw];have:(z::r).getLast?/(z::r).getLast ⋯:=Eo ⋯;rw[this];rfl
 have B:P.Nodup:=by have:=p.nodup;rw[i,DP]at this;exact this.1
 have C:Q.Nodup:=by have:=q.nodup;rw[j,DP]at this;exact this.1
 have u:∀x∈P++Q.reverse,∃y,up x/y:=λx g=>by
  rcases Gh.mp g with g|g
  .exact p.zU i g
  .exact q.zU j (SM.mp g)
 have V:(P++Q.reverse).Nodup:=by rw[DP];refine{B,by rw[IF,List.pairwise_reverse];exact C.imp λh=>Tb h,λa r b J z=>?_};subst z;exact dis a r (SM.mp J)
 have D:((P++Q.reverse).map (num Xr up)).Nodup:=ZU V λx g y U e=>by have(K,r):=u x g;have(L,J):=u y U;exact F.WD r J e
 have E:hV Xr f ((P++Q.reverse).map (num Xr up)) d:=by rw[TZ,List.map_reverse];exact(F.vk p i).app ((F.vk q j).rev λ_ _ _=>F.oQ)
 intro x y A;have(a,b,e):=PU A;have l:∀z I,up z/I->z∈P++Q.reverse->Xr x y/num Xr up z->∃k,Xr x y/k/\∀n,Cn (ls.take n) f d->k<n:=λz I _ v T=>{_,T,λn c=>F.early E D c _ (Tx.mpr ⟨z,v,Xb⟩)}
 have o:(x∈P/\up x/y)\/y∈Q/\up y/x:=by subst i j;refine(p.two e).imp_right λ⟨c,e⟩=>?_;have r:=congrArg List.reverse e;simp only[List.reverse_append,Lj,List.reverse_reverse,Dq,DG,LQ]at r;refine(q.two r).resolve_right λ⟨c,e⟩=>?_;simp[List.cons_eq_append_iff]at e
 rcases o with⟨v,t⟩|⟨v,t⟩
 .exact l x y t (Gu _ v) (F.kY t)
 .exact l y x t (TJ _ (SM.mpr v)) (F.oQ (F.kY t))
end
variable{W ρ:Type}[DecidableEq W]
set_option genInjectivity false in
structure ia(W ρ:Type) where
 S:List Nat
 zg:Nat->Nat
 mem:Nat->List Nat
 Xv:Nat->List Nat
 tab:W×List Nat->Option Nat
 zt:List (Nat×Nat×Option ρ)
 Xr:Nat->Nat->Option Nat
 up:Nat->Option Nat
variable{a b:Nat}
noncomputable def Zv(wd:Nat->W)(pt:Nat->List Nat)(ld:Nat->Nat)(p:Nat):W×List Nat:=(wd p,(pt p).map ld)
inductive Cj(S:List Nat)(ld:Nat->Nat)(pend:List (Nat×Nat×Option ρ)):Nat->Nat->Prop
 |zg {p q:Nat}:p∈S->q∈S->ld p=ld q->Cj S ld pend p q
 |wait {p q:Nat} {r:Option ρ}:(p,q,r)∈pend->Cj S ld pend p q
 |symm {p q:Nat}:Cj S ld pend p q->Cj S ld pend q p
 |trans {p q r:Nat}:Cj S ld pend p q->Cj S ld pend q r->Cj S ld pend p r
theorem Cj.map{ld g:Nat->Nat}{f d:List (Nat×Nat×Option ρ)}(h:∀p∈S,∀q∈S,ld p=ld q->Cj S g d p q)(i:∀p q r,(p,q,r)∈f->Cj S g d p q):∀{p q:Nat},Cj S ld f p q->Cj S g d p q:=by
 intro p q c;induction c with
 |zg a b e=>exact h _ a _ b e
 |wait m=>exact i _ _ _ m
 |symm _ a=>exact .symm a
 |trans _ _ a b=>exact .trans a b
theorem Cj.nil{ld:Nat->Nat}(c:Cj (ρ:=ρ) S ld [] p q):ld p=ld q:=by
 induction c with
 |zg _ _ e=>exact e
 |wait m=>simp at m
 |symm _ a=>exact a.symm
 |trans _ _ a b=>exact a.trans b
def mQ(F:Nat->Nat->Prop)(ps a:List Nat):Prop:=⇑ps=⇑a/\∀(i p q:Nat),ps[i]?/p->a[i]?/q->F p q
theorem oJ{a b:List Nat}:a.map f=b.map f↔mQ (λp q=>f p=f q) a b:=by
 constructor
 .intro h;have c:=congrArg Sc h;simp at c;refine{c,λi p q d e=>?_};have:(a.map f)[i]?=(b.map f)[i]?:=by rw[h]
  simpa[d,e]using this
 .rintro⟨c,h⟩;refine L8 λi=>?_;rw[Tq,Tq];rcases Dh i ⇑a with hi|hi
  .have d:=Gf hi;have e:=Gf (show i<⇑b by lia);rw[d,e,DZ,DZ,h i _ _ d e]
  .rw[De hi,De (by lia)]
structure Wv(wd:Nat->W)(pt:Nat->List Nat)(x:ia W ρ)(pend:List (Nat×Nat×Option ρ)):Prop where
 nd:x.S.Nodup
 pt_:∀p∈x.S,∀q∈pt p,q∈x.S
 ld:∀p∈x.S,x.zg p∈x.S
 idem:∀p∈x.S,x.zg (x.zg p)=x.zg p
 Qcv:∀l∈x.S,x.zg l=l->∀p,p∈x.mem l↔p∈x.S/\x.zg p=l
 Qna:∀l∈x.S,x.zg l=l->(x.mem l).Nodup
 Qk7:∀l∈x.S,∀p∈x.Xv l,p∈x.S
 Qzm:∀p∈x.S,∀q∈pt p,p∈x.Xv (x.zg q)
 tabS:∀k u,x.tab k/u->u∈x.S/\wd u=k.1/\(∀q∈k.2,q∈x.S)/\(pt u).map x.zg=k.2.map x.zg
 Qxs:∀p∈x.S,∃u,x.tab (Zv wd pt x.zg p)/u/\Cj x.S x.zg pend u p
 pnd:∀a b r,(a,b,r)∈pend->a∈x.S/\b∈x.S/\(r=Gq->wd a=wd b/\(pt a).map x.zg=(pt b).map x.zg)
 fst:hY x.S x.zt x.Xr x.up
 lnk:∀(n a b:Nat)r,x.zt[n]?/(a,b,r)->a∈x.S/\b∈x.S/\(r=Gq->wd a=wd b/\mQ (Cn (x.zt.take n)) (pt a) (pt b))
 conn:∀p∈x.S,∀q∈x.S,(x.zg p=x.zg q↔Cn x.zt p q)
 root:∀p q l m,p∈x.S->q∈x.S->Ch x.up p l->Ch x.up q m->(x.zg p=x.zg q↔Yf l=Yf m)
noncomputable def zm(a:Nat->W×List Nat):List Nat->(W×List Nat->Option Nat)->List (Nat×Nat×Option ρ)->(W×List Nat->Option Nat)×List (Nat×Nat×Option ρ)
 |[],t,f=>(t,f)
 |u::r,t,f=>match t (a u)with
  |some v=>zm a r t (if v=u then f else f++[(u,v,Gq)])
  |none=>zm a r (λk=>if k=a u then Ga u else t k) f
theorem oG{b:Nat->W×List Nat}{t:W×List Nat->Option Nat}{f:List (Nat×Nat×Option ρ)}{k:W×List Nat}(h:t k/v):(zm b l t f).1 k/v:=by
 induction l generalizing t f with
 |nil=>exact h
 |cons u r a=>
  unfold zm;cases e:t (b u)with
  |some w=>exact a h
  |none=>exact a ((Gs λz=>by rw[z,e]at h;cases h).trans h)
theorem scan_keep{b:Nat->W×List Nat}{t:W×List Nat->Option Nat}{f:List (Nat×Nat×Option ρ)}{y}(h:y∈f):y∈(zm b l t f).2:=by
 induction l generalizing t f with
 |nil=>exact h
 |cons u r a=>
  unfold zm;cases e:t (b u)with
  |some w=>
   refine a ?_;split
   .exact h
   .exact Gu _ h
  |none=>exact a h
theorem YS{ky:Nat->W×List Nat}{t:W×List Nat->Option Nat}{f:List (Nat×Nat×Option ρ)}{u:Nat}(h:u∈l):∃v,(zm ky l t f).1 (ky u)/v/\(v=u\/(u,v,Gq)∈(zm ky l t f).2):=by
 induction l generalizing t f with
 |nil=>cases h
 |cons z r a=>
  unfold zm;rcases Ti.mp h with rfl|h
  .cases e:t (ky u)with
   |some w=>
    exists w,oG e;by_cases hw:w=u
    .exact .inl hw
    .right;refine scan_keep ?_;rw[Gs hw];simp
   |none=>exact{u,oG (GX Xb),.inl Xb}
  .cases e:t (ky z)<;>exact a h
theorem Px{a:Nat->W×List Nat}{t:W×List Nat->Option Nat}{f:List (Nat×Nat×Option ρ)}{k:W×List Nat}(h:(zm a l t f).1 k/v):t k/v\/(v∈l/\k=a v):=by
 induction l generalizing t f with
 |nil=>exact .inl h
 |cons u r c=>
  unfold zm at h;cases e:t (a u)with
  |some w=>rw[e]at h;exact(c h).imp_right λh=>{Gr _ h.1,h.2}
  |none=>
   rw[e]at h;rcases c h with h|⟨d,g⟩
   .by_cases b:k=a u
    .cases(GX b).symm.trans h;exact .inr ⟨Tc,b⟩
    .exact .inl ((Gs b).symm.trans h)
   .exact .inr {Gr _ d,g}
theorem O0{c:Nat->W×List Nat}{t:W×List Nat->Option Nat}{f:List (Nat×Nat×Option ρ)}{r:Option ρ}(h:(a,b,r)∈(zm c l t f).2):(a,b,r)∈f\/(r=Gq/\a∈l/\(zm c l t f).1 (c a)/b):=by
 induction l generalizing t f with
 |nil=>exact .inl h
 |cons u l j=>
  unfold zm at h⊢;cases e:t (c u)with
  |some w=>
   rw[e]at h;rcases j h with h|⟨d,g,i⟩
   .split at h
    .exact .inl h
    .rcases Gh.mp h with h|h
     .exact .inl h
     .simp at h;have(rfl,rfl,rfl):=h;exact .inr {1,Tc,oG e}
   .exact .inr {d,Gr _ g,i}
  |none=>
   rw[e]at h;rcases j h with h|⟨d,g,i⟩
   .exact .inl h
   .exact .inr {d,Gr _ g,i}
theorem scan_len{ky:Nat->W×List Nat}{t:W×List Nat->Option Nat}{f:List (Nat×Nat×Option ρ)}:⇑(zm ky l t f).2<=⇑f+⇑l:=by
 induction l generalizing t f with
 |nil=>exact Gz _
 |cons u l a=>
  unfold zm;cases e:t (ky u)with
  |some w=>refine Dl a ?_;split<;>simp<;>lia
  |none=>exact NW a
noncomputable def Zj(x:ia W ρ)(a b:Nat):Nat->Nat:=λp=>if p∈x.mem a then b else x.zg p
noncomputable def Jd(wd:Nat->W)(pt:Nat->List Nat)(x:ia W ρ)(a b:Nat):ia W ρ×List (Nat×Nat×Option ρ):=
 ({x with zg:=Zj x a b,mem:=(λp=>if p=b then x.mem b++x.mem a else x.mem p),Xv:=(λp=>if p=b then x.Xv b++x.Xv a else x.Xv p),tab:=(zm (ρ:=ρ) (Zv wd pt (Zj x a b)) (x.Xv a) x.tab []).1},(zm (Zv wd pt (Zj x a b)) (x.Xv a) x.tab []).2)
noncomputable def iv(Xr:Nat->Nat->Option Nat)(a b n:Nat):Nat->Nat->Option Nat:=λp q=>if(p=a/\q=b)\/(p=b/\q=a)then Ga n else Xr p q
noncomputable def Y1(wd:Nat->W)(pt:Nat->List Nat)(x:ia W ρ)(a b:Nat)(r:Option ρ)(lo hi:Nat)(c:List Nat):ia W ρ×List (Nat×Nat×Option ρ):=
 Jd wd pt {x with zt:=x.zt++[(a,b,r)],Xr:=iv x.Xr a b ⇑x.zt,up:=Ws x.up hi c} (x.zg lo) (x.zg hi)
section
variable{wd:Nat->W}{pt:Nat->List Nat}{x:ia W ρ}{pend:List (Nat×Nat×Option ρ)}
theorem UW{g:List (Nat×Nat×Option ρ)}{r:Option ρ}(c:Cn (g++[(a,b,r)]) p q):Cn g p q\/(Cn g p a/\Cn g b q)\/(Cn g p b/\Cn g a q):=by
 induction c with
 |refl p=>exact .inl (.refl p)
 |symm _ f=>
  rcases f with h|⟨d,e⟩|⟨d,e⟩
  .exact .inl (.symm h)
  .exact .inr (.inr {.symm e,.symm d})
  .exact .inr (.inl {.symm e,.symm d})
 |trans _ _ j l=>
  rcases j with h|⟨d,e⟩|⟨d,e⟩<;>rcases l with k|⟨i,f⟩|⟨i,f⟩
  .exact .inl (.trans h k)
  .exact .inr (.inl {.trans h i,f})
  .exact .inr (.inr {.trans h i,f})
  .exact .inr (.inl {d,.trans e k})
  .exact .inr (.inl ⟨d,f⟩)
  .exact .inl (.trans d f)
  .exact .inr (.inr {d,.trans e k})
  .exact .inl (.trans d f)
  .exact .inr (.inr ⟨d,f⟩)
 |link m=>
  rcases Gh.mp m with m|m
  .exact .inl (.link m)
  .simp at m;have(rfl,rfl,rfl):=m;exact .inr (.inl {.refl _,.refl _})
theorem Wv.Qwl(I:Wv wd pt x pend){g k:Nat}(b:g∈x.S)(a:x.zg g=g)(c:p∈x.S):Zj x g k p=if x.zg p=g then k else x.zg p:=by
 unfold Zj;by_cases h:x.zg p=g
 .rw[GX h,GX ((I.Qcv g b a p).mpr ⟨c,h⟩)]
 .rw[Gs h,Gs λz=>h ((I.Qcv g b a p).mp z).2]
end
variable{W ρ:Type}[DecidableEq W]
section
variable{wd:Nat->W}{pt:Nat->List Nat}{x:ia W ρ}{pend:List (Nat×Nat×Option ρ)}
theorem Wv.join(d:Wv wd pt x (pend++[(a,b,r)]))(ah:x.zg a≠x.zg b)(ad:(lo=a/\hi=b)\/(lo=b/\hi=a))(P:Ch x.up lo cl):
  Wv wd pt (Y1 wd pt x a b r lo hi cl).1 (pend++(Y1 wd pt x a b r lo hi cl).2)/\(∀p∈x.S,(Y1 wd pt x a b r lo hi cl).1.zg p=if x.zg p=x.zg lo then x.zg hi else x.zg p):=by
 have(J,K,ai):=d.pnd a b r ⋯;have ac:lo∈x.S:=by rcases ad with⟨c,_⟩|⟨c,_⟩<;>rw[c]<;>assumption
 have aa:hi∈x.S:=by rcases ad with⟨_,c⟩|⟨_,c⟩<;>rw[c]<;>assumption
 have V:x.zg lo≠x.zg hi:=by
  rcases ad with⟨f,g⟩|⟨f,g⟩<;>rw[f,g]
  .exact ah
  .exact Tb ah
 have(lh,ae):=d.fst.chain hi aa;have gS:=d.ld lo ac;have gg:=d.idem lo ac;have kS:=d.ld hi aa;have kk:=d.idem hi aa;generalize hG:x.zg lo=e at*;generalize hK:x.zg hi=k at*;have ab:(x.zg a=e/\x.zg b=k)\/(x.zg a=k/\x.zg b=e):=by
  rcases ad with⟨f,g⟩|⟨f,g⟩
  .left;rw[<-f,<-g];exact⟨hG,hK⟩
  .right;rw[<-f,<-g];exact⟨hK,hG⟩
 have o:∀p∈x.S,Zj x e k p=if x.zg p=e then k else x.zg p:=λp h=>d.Qwl gS gg h;have eJ:Y1 wd pt x a b r lo hi cl=Jd wd pt {x with zt:=x.zt++[(a,b,r)],Xr:=iv x.Xr a b ⇑x.zt,up:=Ws x.up hi cl} e k:=by unfold Y1;rw[hG,hK]
 rw[eJ];have nC:¬Cn x.zt a b:=λX=>ah ((d.conn a J b K).mpr X);have U:∀p∈x.S,∀q∈x.S,x.zg p=x.zg q->Zj x e k p=Zj x e k q:=λp h q m j=>by rw[o p h,o q m,j]
 have LS:∀p∈x.S,Zj x e k p∈x.S:=λp h=>by
  rw[o p h];split
  .exact kS
  .exact d.ld p h
 have Lk:Zj x e k k=k:=by rw[o k kS,kk,Gs (Tb V)]
 have Li:∀p∈x.S,Zj x e k (Zj x e k p)=Zj x e k p:=λp h=>by
  by_cases c:x.zg p=e
  .rw[o p h,GX c,Lk]
  .rw[o p h,Gs c,o _ (d.ld p h),d.idem p h,Gs c]
 have Mp:∀p∈x.S,∀q∈x.S,(pt p).map x.zg=(pt q).map x.zg->(pt p).map (Zj x e k)=(pt q).map (Zj x e k):=λp h q m j=>by rw[oJ]at j⊢;exact{j.1,λi u v C I=>U u (d.pt_ p h u (Gc C)) v (d.pt_ q m v (Gc I)) (j.2 i u v C I)}
 have TS:∀ky u,(zm (ρ:=ρ) (Zv wd pt (Zj x e k)) (x.Xv e) x.tab []).1 ky/u->u∈x.S/\wd u=ky.1/\(∀q∈ky.2,q∈x.S)/\(pt u).map (Zj x e k)=ky.2.map (Zj x e k):=λky u c=>by
  rcases Px c with c|⟨f,g⟩
  .obtain⟨k1,k2,k3,k4⟩:=d.tabS ky u c;exists k1,k2,k3;rw[oJ]at k4⊢;exact{k4.1,λi E v C I=>U E (d.pt_ u k1 E (Gc C)) v (k3 v (Gc I)) (k4.2 i E v C I)}
  .have F:=d.Qk7 e gS u f;subst g;exists F,1,λq m=>?_
   .obtain⟨E,Q,rfl⟩:=Tx.mp m;exact LS E (d.pt_ u F E Q)
   .show(pt u).map (Zj x e k)=((pt u).map (Zj x e k)).map (Zj x e k);rw[Di];refine TY λq m=>?_;exact(Li q (d.pt_ u F q m)).symm
 have dis:∀w∈lh,w∉cl:=λw hz af=>by
  have(m1,Y,M):=ae.nh hz;have(m2,Z,H):=P.nh af;have:Yf lh=Yf cl:=by rw[<-M,<-H,Y.uniq Z]
  exact V ((d.root lo hi cl lh ac aa P ae).mpr this.symm|>λj=>by rw[hG,hK]at j;exact j)
 have hh:Ch (Ws x.up hi cl) hi lh:=ae.uz dis;have R:∀p∈x.S,∀A,Ch x.up p A->∃l,Ch (Ws x.up hi cl) p l/\(x.zg p=e->Yf l=Yf lh)/\(x.zg p≠e->Yf l=Yf A):=λp h A L=>by
  by_cases c:∃w∈A,w∈cl
  .obtain⟨l,f,g⟩:=Qwo P.nodup hh L c;refine{l,f,λ_=>g,λs=>?_};exfalso;have(w,hz,af):=c;have(m1,Y,M):=L.nh hz;have(m2,Z,H):=P.nh af;have:Yf A=Yf cl:=by rw[<-M,<-H,Y.uniq Z]
   exact s (by rw[<-hG];exact(d.root p lo A cl h ac L P).mpr this)
  .have f:Ch (Ws x.up hi cl) p A:=L.uz λw hz af=>c ⟨w,hz,af⟩;refine{A,f,λj=>?_,λ_=>rfl};exfalso;have:=(d.root p lo A cl h ac L P).mp (by rw[hG];exact j);have m1:Yf A∈A:=by have:=L.ne;unfold Yf;rw[Lw,Eo this];exact Bc this
   have m2:Yf cl∈cl:=by have:=P.ne;unfold Yf;rw[Lw,Eo this];exact Bc this
   exact c {_,m1,by rw[this];exact m2}
 have C1:∀p∈x.S,∀q∈x.S,(Zj x e k p=Zj x e k q↔Cn (x.zt++[(a,b,r)]) p q):=λp h q m=>by
  have mono:∀{u v:Nat},Cn x.zt u v->Cn (x.zt++[(a,b,r)]) u v:=λX=>X.mono λy hy=>Gu _ hy;have W:Cn (x.zt++[(a,b,r)]) a b:=.link (r:=r) ⋯;have F:∀u∈x.S,∀v∈x.S,x.zg u=e->x.zg v=k->Cn (x.zt++[(a,b,r)]) u v:=λu C v I M H=>by
   rcases ab with⟨f,g⟩|⟨f,g⟩
   .exact .trans (mono ((d.conn u C a J).mp (M.trans f.symm))) (.trans W (mono ((d.conn b K v I).mp (g.trans H.symm))))
   .exact .trans (mono ((d.conn u C b K).mp (M.trans g.symm))) (.trans (.symm W) (mono ((d.conn a J v I).mp (f.trans H.symm))))
  constructor
  .intro j;rw[o p h,o q m]at j;by_cases f:x.zg p=e<;>by_cases g:x.zg q=e
   .exact mono ((d.conn p h q m).mp (f.trans g.symm))
   .rw[GX f,Gs g]at j;exact F p h q m f j.symm
   .rw[Gs f,GX g]at j;exact .symm (F q m p h g j)
   .rw[Gs f,Gs g]at j;exact mono ((d.conn p h q m).mp j)
  .intro X;have E:Zj x e k a=Zj x e k b:=by
    rw[o a J,o b K];rcases ab with⟨f,g⟩|⟨f,g⟩
    .rw[GX f,Gs (by rw[g];exact Tb V),g]
    .rw[GX g,Gs (by rw[f];exact Tb V),f]
   rcases UW X with X|⟨Y,Z⟩|⟨Y,Z⟩
   .exact U p h q m ((d.conn p h q m).mpr X)
   .exact(U p h a J ((d.conn p h a J).mpr Y)).trans (E.trans (U b K q m ((d.conn b K q m).mpr Z)))
   .exact(U p h b K ((d.conn p h b K).mpr Y)).trans (E.symm.trans (U a J q m ((d.conn a J q m).mpr Z)))
 have tk:∀{n:Nat},n<=⇑x.zt->(x.zt++[(a,b,r)]).take n=x.zt.take n:=λc=>SU c;have gl:∀{n:Nat}{y},(x.zt++[(a,b,r)])[n]?/y->(n<⇑x.zt/\x.zt[n]?/y)\/(n=⇑x.zt/\y=(a,b,r)):=λ{n y}c=>by
  rcases Dh n ⇑x.zt with s|s
  .rw[TB s]at c;exact .inl ⟨s,c⟩
  .rw[TU s]at c;have:n - ⇑x.zt=0:=by have:=(Gg.mp c).1;simp at this;lia
   rw[this]at c;simp at c;exact .inr {by lia,c.symm}
 have aj:∀p q,Ws x.up hi cl p/q->x.up p/q\/(p=lo/\q=hi)\/x.up q/p:=λp q c=>by
  rcases QJ P.nodup c with c|⟨z,j,H⟩|⟨G,N,j⟩
  .exact .inl c
  .obtain⟨F,E⟩:=P.head;rw[j]at E;cases E;exact .inr (.inl ⟨Xb,H⟩)
  .exact .inr (.inr (P.jx j))
 refine{{d.nd,d.pt_,LS,Li,λl S j p=>?_,λl S j=>?_,λl S p h=>?_,λp h q m=>?_,TS,λp h=>?_,λG N z c=>?_,{λp q c=>?_,λp q n c=>?_,λn p q z c=>?_,λn p q z c=>?_,λp h=>?_,λp q c=>?_},λn G N z c=>?_,C1,λp q l T h m f g=>?_},λp h=>o p h}
 ·
  have j:Zj x e k l=l:=j;have lg:x.zg l≠e:=λw=>by rw[o l S,GX w]at j;rw[<-j,kk]at w;exact V w.symm
  have ll:x.zg l=l:=by rw[o l S,Gs lg]at j;exact j
  show p∈(if l=k then x.mem k++x.mem e else x.mem l)↔p∈x.S/\Zj x e k p=l;by_cases B:l=k
  .rw[GX B,Gh,d.Qcv k kS kk,d.Qcv e gS gg];constructor
   .rintro(⟨f,g⟩|⟨f,g⟩)
    .exact{f,by rw[o p f,g,Gs (Tb V),B]}
    .exact{f,by rw[o p f,GX g,B]}
   .rintro⟨f,g⟩;rw[o p f]at g;by_cases O:x.zg p=e
    .exact .inr ⟨f,O⟩
    .rw[Gs O]at g;exact .inl {f,g.trans B}
  .rw[Gs B,d.Qcv l S ll];constructor
   .rintro⟨f,g⟩;exact{f,by rw[o p f,Gs (by rw[g,<-ll];exact lg),g]}
   .rintro⟨f,g⟩;rw[o p f]at g;by_cases O:x.zg p=e
    .rw[GX O]at g;exact absurd g.symm B
    .rw[Gs O]at g;exact⟨f,g⟩
 .have j:Zj x e k l=l:=j;have lg:x.zg l≠e:=λw=>by rw[o l S,GX w]at j;rw[<-j,kk]at w;exact V w.symm
  have ll:x.zg l=l:=by rw[o l S,Gs lg]at j;exact j
  show(if l=k then x.mem k++x.mem e else x.mem l).Nodup;by_cases B:l=k
  .rw[GX B,DP];refine{d.Qna k kS kk,d.Qna e gS gg,λu C v I w=>?_};subst w;have f:=((d.Qcv k kS kk u).mp C).2;have g:=((d.Qcv e gS gg u).mp I).2;exact V (g.symm.trans f)
  .rw[Gs B];exact d.Qna l S ll
 .have h:p∈(if l=k then x.Xv k++x.Xv e else x.Xv l):=h;by_cases B:l=k
  .rw[GX B]at h;rcases Gh.mp h with c|c
   .exact d.Qk7 k kS p c
   .exact d.Qk7 e gS p c
  .rw[Gs B]at h;exact d.Qk7 l S p h
 .show p∈(if Zj x e k q=k then x.Xv k++x.Xv e else x.Xv (Zj x e k q));have D:=d.Qzm p h q m;have E:=d.pt_ p h q m;by_cases c:x.zg q=e
  .rw[o q E,GX c,GX rfl];rw[c]at D;exact TJ _ D
  .rw[o q E,Gs c];by_cases B:x.zg q=k
   .rw[GX B];rw[B]at D;exact Gu _ D
   .rw[Gs B];exact D
 ·
  show∃u,(zm (ρ:=ρ) (Zv wd pt (Zj x e k)) (x.Xv e) x.tab []).1 (Zv wd pt (Zj x e k) p)/u/\Cj x.S (Zj x e k) (pend++(zm (Zv wd pt (Zj x e k)) (x.Xv e) x.tab []).2) u p;by_cases c:∃q∈pt p,x.zg q=e
  .obtain⟨q,m,j⟩:=c;have C:=d.Qzm p h q m;rw[j]at C;have(v,f,g):=YS (ρ:=ρ) (ky:=Zv wd pt (Zj x e k)) (t:=x.tab) (f:=[]) C;exists v,f;rcases g with rfl|g
   .exact .zg h h rfl
   .exact .symm (.wait (r:=Gq) (TJ _ g))
  .obtain⟨u,f,g⟩:=d.Qxs p h;have E:Zv wd pt (Zj x e k) p=Zv wd pt x.zg p:=by unfold Zv;refine RE rfl (TY λq m=>?_);rw[o q (d.pt_ p h q m),Gs λw=>c ⟨q,m,w⟩]
   refine{u,by rw[E];exact oG f,g.map (λp h q m j=>.zg h m (U p h q m j)) λp q z T=>?_};rcases Gh.mp T with T|T
   .exact .wait (Gu _ T)
   .simp at T;have(rfl,rfl,rfl):=T;exact .zg J K ((C1 _ J _ K).mpr (.link (r:=z) ⋯))
 ·
  rcases Gh.mp c with c|c
  .obtain⟨f,g,O⟩:=d.pnd G N z (Gu _ c);exact{f,g,λj=>{(O j).1,Mp G f N g (O j).2}}
  .rcases O0 (show(G,N,z)∈(zm (Zv wd pt (Zj x e k)) (x.Xv e) x.tab []).2 from c)with c|⟨f,g,O⟩
   .simp at c
   .have E:=d.Qk7 e gS G g;have(k1,k2,k3,k4):=TS _ _ O;refine{E,k1,λ_=>{k2.symm,?_}};show(pt G).map (Zj x e k)=(pt N).map (Zj x e k);rw[k4];show _=((pt G).map (Zj x e k)).map (Zj x e k);rw[Di];exact TY λq m=>(Li q (d.pt_ G E q m)).symm
 ·
  show∃n,iv x.Xr a b ⇑x.zt p q/n;unfold iv;by_cases s:(p=a/\q=b)\/(p=b/\q=a)
  .exact{_,GX s}
  .rw[Gs s];rcases aj p q c with c|⟨M,H⟩|c
   .exact d.fst.jx p q c
   .exfalso;apply s;rcases ad with⟨f,g⟩|⟨f,g⟩
    .exact .inl {M.trans f,H.trans g}
    .exact .inr {M.trans f,H.trans g}
   .obtain⟨n,s⟩:=d.fst.jx q p c;exact{n,d.fst.oQ s}
 .have c:iv x.Xr a b ⇑x.zt p q/n:=c;unfold iv at c;show∃z,(x.zt++[(a,b,r)])[n]?/(p,q,z)\/(x.zt++[(a,b,r)])[n]?/(q,p,z);by_cases s:(p=a/\q=b)\/(p=b/\q=a)
  .rw[GX s]at c;cases c;exists r;rcases s with⟨rfl,rfl⟩|⟨rfl,rfl⟩
   .left;simp
   .right;simp
  .rw[Gs s]at c;obtain⟨z,c|c⟩:=d.fst.Qij p q n c
   .exact{z,.inl (by rw[TB (Gg.mp c).1];exact c)}
   .exact{z,.inr (by rw[TB (Gg.mp c).1];exact c)}
 .show iv x.Xr a b ⇑x.zt p q/n/\iv x.Xr a b ⇑x.zt q p/n;rcases gl c with⟨s,W⟩|⟨s,c⟩
  .have no:¬((p=a/\q=b)\/(p=b/\q=a)):=by
    rintro(⟨rfl,rfl⟩|⟨rfl,rfl⟩)
    .exact nC (.link (Gc W))
    .exact nC (.symm (.link (Gc W)))
   have ag:¬((q=a/\p=b)\/(q=b/\p=a)):=λw=>no (w.elim (λ⟨E,F⟩=>.inr ⟨F,E⟩) λ⟨E,F⟩=>.inl ⟨F,E⟩);unfold iv;rw[Gs no,Gs ag];exact d.fst.all n p q z W
  .simp only[Es]at c;have(rfl,rfl,rfl):=c;subst s;unfold iv;exact{GX (.inl ⟨Xb,Xb⟩),GX (.inr ⟨Xb,Xb⟩)}
 .show¬Cn ((x.zt++[(a,b,r)]).take n) p q;rcases gl c with⟨s,c⟩|⟨s,c⟩
  .rw[tk (by lia)];exact d.fst.sep n p q z c
  .simp only[Es]at c;have(rfl,rfl,rfl):=c;rw[tk (by lia),s,Tw];exact nC
 .obtain⟨A,L⟩:=d.fst.chain p h;have(l,f,_):=R p h A L;exact⟨l,f⟩
 .rcases aj p q c with c|⟨M,H⟩|c
  .exact d.fst.inS p q c
  .rw[M,H];exact⟨ac,aa⟩
  .exact(d.fst.inS q p c).symm
 .show G∈x.S/\N∈x.S/\(z=Gq->wd G=wd N/\mQ (Cn ((x.zt++[(a,b,r)]).take n)) (pt G) (pt N));rcases gl c with⟨s,c⟩|⟨s,c⟩
  .rw[tk (by lia)];exact d.lnk n G N z c
  .simp only[Es]at c;have(rfl,rfl,rfl):=c;rw[tk (by lia),s,Tw];refine{J,K,λj=>{(ai j).1,?_}};have t:=oJ.mp (ai j).2;exact{t.1,λi u v C I=>(d.conn u (d.pt_ _ J u (Gc C)) v (d.pt_ _ K v (Gc I))).mp (t.2 i u v C I)}
 .show Zj x e k p=Zj x e k q↔Yf l=Yf T;have(A,L):=d.fst.chain p h;have(F,E):=d.fst.chain q m;have(l',p1,p2,p3):=R p h A L;have(m',q1,q2,q3):=R q m F E;have el:=Ch.uniq (show Ch (Ws x.up hi cl) p l from f) p1;have em:=Ch.uniq (show Ch (Ws x.up hi cl) q T from g) q1;subst el em;have rp:=d.root p hi A lh h aa L ae;have W:=d.root q hi F lh m aa E ae;rw[hK]at rp W;rw[o p h,o q m];by_cases D:x.zg p=e<;>by_cases Q:x.zg q=e
  .rw[GX D,GX Q,p2 D,q2 Q];exact{λ_=>rfl,λ_=>rfl}
  .rw[GX D,Gs Q,p2 D,q3 Q];exact{λj=>(W.mp j.symm).symm,λj=>(W.mpr j.symm).symm}
  .rw[Gs D,GX Q,p3 D,q2 Q];exact rp
  .rw[Gs D,Gs Q,p3 D,q3 Q];exact d.root p q A F h m L E
end
variable{W ρ:Type}[DecidableEq W]
section
variable{wd:Nat->W}{pt:Nat->List Nat}{x:ia W ρ}{pend pend':List (Nat×Nat×Option ρ)}
theorem Wv.su(I:Wv wd pt x pend)(f:∀p q r,(p,q,r)∈pend->Cj x.S x.zg pend' p q)(g:∀a b r,(a,b,r)∈pend'->a∈x.S/\b∈x.S/\(r=Gq->wd a=wd b/\(pt a).map x.zg=(pt b).map x.zg)):Wv wd pt x pend':=
 {I.nd,I.pt_,I.ld,I.idem,I.Qcv,I.Qna,I.Qk7,I.Qzm,I.tabS,λp d=>by have(u,e,c):=I.Qxs p d;exact{u,e,c.map (λp d q a e=>.zg d a e) f},g,I.fst,I.lnk,I.conn,I.root}
theorem Wv.drop{r:Option ρ}(I:Wv wd pt x (pend++[(a,b,r)]))(e:x.zg a=x.zg b):Wv wd pt x pend:=by
 have(f,h,_):=I.pnd a b r ⋯;refine I.su (λp q c m=>?_) λd g c m=>I.pnd d g c (Gu _ m);rcases Gh.mp m with m|m
 .exact .wait m
 .simp at m;have(rfl,rfl,rfl):=m;exact .zg f h e
theorem Wv.cong(I:Wv wd pt x [])(c:p∈x.S)(d:q∈x.S)(e:Zv wd pt x.zg p=Zv wd pt x.zg q):x.zg p=x.zg q:=by have(u,a,b):=I.Qxs p c;have(v,f,g):=I.Qxs q d;rw[e,f]at a;cases a;exact b.nil.symm.trans g.nil
structure Ec(wd:Nat->W)(pt:Nat->List Nat)(S:List Nat)(E:Nat->Nat->Prop):Prop where
 refl:∀p,E p p
 symm:∀p q,E p q->E q p
 trans:∀p q r,E p q->E q r->E p r
 cong:∀p∈S,∀q∈S,wd p=wd q->mQ E (pt p) (pt q)->E p q
def ic(E:Nat->Nat->Prop)(x:ia W ρ)(pend:List (Nat×Nat×Option ρ)):Prop:=(∀p∈x.S,∀q∈x.S,x.zg p=x.zg q->E p q)/\∀a b r,(a,b,r)∈pend->E a b
theorem ic.join{E:Nat->Nat->Prop}{a b:Nat}{r:Option ρ}(H:ic E x (pend++[(a,b,r)]))(X:Ec wd pt x.S E)(I:Wv wd pt x (pend++[(a,b,r)]))(F:x.zg a≠x.zg b){d hi:Nat}{l:List Nat}(g:(d=a/\hi=b)\/(d=b/\hi=a))(O:Ch x.up d l):
  ic E (Y1 wd pt x a b r d hi l).1 (pend++(Y1 wd pt x a b r d hi l).2):=by
 have(J,L):=I.join F g O;have(P,Q,_):=I.pnd a b r ⋯;have n:E a b:=H.2 a b r ⋯;have G:d∈x.S:=by rcases g with⟨h,_⟩|⟨h,_⟩<;>rw[h]<;>assumption
 have D:hi∈x.S:=by rcases g with⟨_,h⟩|⟨_,h⟩<;>rw[h]<;>assumption
 have C:E d hi:=by
  rcases g with⟨c,f⟩|⟨c,f⟩<;>rw[c,f]
  .exact n
  .exact X.symm _ _ n
 have M:∀u∈x.S,∀v∈x.S,x.zg u=x.zg d->x.zg v=x.zg hi->E u v:=λu w v y A B=>X.trans _ _ _ (H.1 u w d G A) (X.trans _ _ _ C (H.1 hi D v y B.symm));have K:∀p∈x.S,∀q∈x.S,(Y1 wd pt x a b r d hi l).1.zg p=(Y1 wd pt x a b r d hi l).1.zg q->E p q:=λp o q s e=>by
  rw[L p o,L q s]at e;by_cases c:x.zg p=x.zg d<;>by_cases f:x.zg q=x.zg d
  .exact H.1 p o q s (c.trans f.symm)
  .rw[GX c,Gs f]at e;exact M p o q s c e.symm
  .rw[Gs c,GX f]at e;exact X.symm _ _ (M q s p o f e)
  .rw[Gs c,Gs f]at e;exact H.1 p o q s e
 refine{K,λj k z m=>?_};rcases Gh.mp m with h|h
 .exact H.2 j k z (Gu _ h)
 .obtain⟨c,f,N⟩:=J.pnd j k z m;have rn:z=Gq:=by
   rcases O0 (show(j,k,z)∈(zm _ _ _ []).2 from h)with h|⟨c,_⟩
   .simp at h
   .exact c
  have(A,B):=N rn;have t:=oJ.mp B;exact X.cong j c k f A {t.1,λi u v w y=>K u (I.pt_ j c u (Gc w)) v (I.pt_ k f v (Gc y)) (t.2 i u v w y)}
theorem WU{r:Option ρ}{d e:Nat}{c:Option ρ}(h:(d,e,c)∈(Y1 wd pt x a b r lo hi cl).2):c=Gq:=by
 rcases O0 (show(d,e,c)∈(zm _ _ _ []).2 from h)with h|⟨f,_⟩
 .simp at h
 .exact f
noncomputable def cls(x:ia W ρ):Nat:=x.S.countP λp=>decide (x.zg p=p)
noncomputable def Ja(x:ia W ρ):Nat:=(x.S.map λp=>if x.zg p=p then ⇑(x.Xv p) else 0).sum
theorem UX:∀{S:List Nat},(∀p∈S,f p=f' p)->(S.map f).sum=(S.map f').sum:=λh=>by rw[TY h]
theorem vB{u:Nat}(nd:S.Nodup)(b:v∈S)(c:u∉S)(d:∀p∈S,p≠u->p≠v->f' p=f p):(S.map f').sum+f v=(S.map f).sum+f' v:=by
 induction S with
 |nil=>cases b
 |cons z s e=>
  rw[Du]at nd;simp only[Ti,not_or]at c;simp only[Tt,Fo];rcases Ti.mp b with rfl|b
  .have:(s.map f').sum=(s.map f).sum:=UX λp a=>d p (Gr _ a) (λz=>c.2 (z▸a)) (λz=>nd.1 (z▸a));lia
  .have:=e nd.2 b c.2 λp a=>d p (Gr _ a);have g:=d z Tc (Tb c.1) (λy=>nd.1 (y▸b));lia
theorem ZI{g k:Nat}(c:g≠k)(nd:S.Nodup)(j:g∈S)(l:k∈S)(e:f' g+f' k=f g+f k)(h:∀p∈S,p≠g->p≠k->f' p=f p):(S.map f').sum=(S.map f).sum:=by
 induction S with
 |nil=>cases j
 |cons x r m=>
  rw[Du]at nd;simp only[Tt,Fo];by_cases a:x=g
  .subst a;have:=vB nd.2 ((Ti.mp l).resolve_left (Tb c)) nd.1 λp d e i=>h p (Gr _ d) e i;lia
  .by_cases b:x=k
   .subst b;have:=vB nd.2 ((Ti.mp j).resolve_left c) nd.1 λp d e i=>h p (Gr _ d) i e;lia
   .have:=m nd.2 ((Ti.mp j).resolve_left (Tb a)) ((Ti.mp l).resolve_left (Tb b)) λp d=>h p (Gr _ d);have:=h x Tc a b;lia
theorem rg(h:p∈S):f p<=(S.map f).sum:=by
 induction h with
 |head=>exact DF _ _
 |tail _ _ a=>exact Dl a (Bl _ _)
theorem Wv.less{r:Option ρ}(I:Wv wd pt x (pend++[(a,b,r)]))(i:x.zg a≠x.zg b)(d:(lo=a/\hi=b)\/(lo=b/\hi=a))(v:Ch x.up lo cl):
  cls (Y1 wd pt x a b r lo hi cl).1<cls x/\Ja (Y1 wd pt x a b r lo hi cl).1=Ja x/\⇑(Y1 wd pt x a b r lo hi cl).2<=Ja x/\⇑(Y1 wd pt x a b r lo hi cl).1.zt=⇑x.zt+1:=by
 have(J,L):=I.join i d v;have(w,y,_):=I.pnd a b r ⋯;have n:lo∈x.S:=by rcases d with⟨h,_⟩|⟨h,_⟩<;>rw[h]<;>assumption
 have m:hi∈x.S:=by rcases d with⟨_,h⟩|⟨_,h⟩<;>rw[h]<;>assumption
 have c:x.zg lo≠x.zg hi:=by
  rcases d with⟨j,g⟩|⟨j,g⟩<;>rw[j,g]
  .exact i
  .exact Tb i
 have l:=I.ld lo n;have q:=I.idem lo n;have t:=I.ld hi m;have s:=I.idem hi m;have f:∀p∈x.S,(Y1 wd pt x a b r lo hi cl).1.zg p=p->x.zg p=p/\p≠x.zg lo:=λp k e=>by
  rw[L p k]at e;by_cases h:x.zg p=x.zg lo
  .rw[GX h]at e;rw[<-e,s]at h;exact absurd h.symm c
  .rw[Gs h]at e;exact{e,λz=>h (by rw[e];exact z)}
 refine{Sb.tq (λp k e=>Tg (f p k (Do e)).1) {x.zg lo,l,Tg q,Td λz=>(f _ l z).2 Xb},?_,?_,by simp[Y1,Jd]}
 .refine ZI c I.nd l t ?_ λp k j g=>?_
  .have o:¬(Y1 wd pt x a b r lo hi cl).1.zg (x.zg lo)=x.zg lo:=λz=>(f _ l z).2 rfl;have u:(Y1 wd pt x a b r lo hi cl).1.zg (x.zg hi)=x.zg hi:=by rw[L _ t,s,Gs (Tb c)]
   rw[Gs o,GX u,GX q,GX s];have:(Y1 wd pt x a b r lo hi cl).1.Xv (x.zg hi)=x.Xv (x.zg hi)++x.Xv (x.zg lo):=by simp[Y1,Jd]
   rw[this,Gk];lia
  .have:(Y1 wd pt x a b r lo hi cl).1.Xv p=x.Xv p:=by simp[Y1,Jd,g]
   rw[this];by_cases e:x.zg p=p
   .have o:(Y1 wd pt x a b r lo hi cl).1.zg p=p:=by rw[L p k,Gs (by rw[e];exact j),e]
    rw[GX e,GX o]
   .have o:¬(Y1 wd pt x a b r lo hi cl).1.zg p=p:=λz=>e (f p k z).1;rw[Gs e,Gs o]
 .have j:=scan_len (ρ:=ρ) (ky:=Zv wd pt (Zj {x with zt:=x.zt++[(a,b,r)],Xr:=iv x.Xr a b ⇑x.zt,up:=Ws x.up hi cl} (x.zg lo) (x.zg hi))) (l:=x.Xv (x.zg lo)) (t:=x.tab) (f:=[]);have g:=rg (f:=λp=>if x.zg p=p then ⇑(x.Xv p) else 0) l;simp only[q,GX]at g;refine Dl j (by simpa[Ja]using g)
end
variable{W ρ:Type}[DecidableEq W]
noncomputable def Xm(pt:Nat->List Nat)(S:List Nat)(q:Nat):List Nat:=S.flatMap λp=>DV ((pt p).count q) p
noncomputable def jf(wd:Nat->W)(pt:Nat->List Nat)(S:List Nat)(k:W×List Nat):Option Nat:=S.find? λp=>decide (Zv wd pt id p=k)
noncomputable def fresh(wd:Nat->W)(pt:Nat->List Nat)(S:List Nat):ia W ρ:={S,id,λp=>[p],Xm pt S,jf wd pt S,[],λ_ _=>Gq,λ_=>Gq}
theorem ZV{α:Type}(c:Cn (α:=α) [] p q):p=q:=by
 induction c with
 |refl _=>rfl
 |symm _ a=>exact a.symm
 |trans _ _ a b=>exact a.trans b
 |link m=>simp at m
theorem Qr4{b:Nat->W}{a:Nat->List Nat}(nd:S.Nodup)(j:∀p∈S,∀q∈a p,q∈S)(inj:∀p∈S,∀q∈S,b p=b q->a p=a q->p=q):Wv (ρ:=ρ) b a (fresh b a S) [] where
 nd:=nd
 pt_:=j
 ld:=λp h=>h
 idem:=λ_ _=>rfl
 Qcv:=λl r _ p=>by show p∈[l]↔p∈S/\p=l;simp only[GV];exact{λe=>{e▸r,e},λe=>e.2}
 Qna:=λl _ _=>by simp[fresh]
 Qk7:=λl _ p g=>by have(u,n,h):=Ez.mp g;rw[NT]at h;rw[h.2];exact n
 Qzm:=λp g q i=>Ez.mpr {p,g,NT.mpr {by have:=List.count_pos_iff.mpr i;show(a p).count q≠0;lia,1}}
 tabS:=λk u h=>by
  have h:S.find? (λp=>decide (Zv b a id p=k))/u:=h;have d:=So h;have f:Zv b a id u=k:=Do (by simpa using FA h);subst f;exists d,1,λq i=>?_
  .simp only[Zv,Ft]at i;exact j u d q i
  .simp[Zv,fresh]
 Qxs:=λp g=>by
  show∃u,S.find? (λq=>decide (Zv b a id q=Zv b a id p))/u/\_;cases e:S.find? (λq=>decide (Zv b a id q=Zv b a id p))with
  |none=>have:=NU.mp e p g;simp at this
  |some u=>have d:=So e;have f:Zv b a id u=Zv b a id p:=Do (by simpa using FA e);simp only[Zv,Ft,Es]at f;exact{u,1,.zg d g (inj u d p g f.1 f.2)}
 pnd:=λ_ _ _ h=>by simp at h
 fst:={λ_ _ h=>by simp[fresh]at h,λ_ _ _ h=>by simp[fresh]at h,λ_ _ _ _ h=>by simp[fresh]at h,λ_ _ _ _ h=>by simp[fresh]at h,λp _=>{[p],.top Xb},λ_ _ h=>by simp[fresh]at h}
 lnk:=λ_ _ _ _ h=>by simp[fresh]at h
 conn:=λp _ q _=>{λ(e:p=q)=>by subst e;exact .refl _,λc=>ZV c}
 root:=λp q l m _ _ d f=>by have n:l=[p]:=d.uniq (.top Xb);have o:m=[q]:=f.uniq (.top Xb);subst n o;simp[Yf,fresh]
theorem Qvu(a:Nat->List Nat)(S:List Nat)(p q:Nat):Xm a (S++[p]) q=Xm a S q++DV ((a p).count q) p:=by simp[Xm]
theorem OY(b:Nat->W)(a:Nat->List Nat)(c:∀q∈S,Zv b a id q≠Zv b a id p)(k:W×List Nat):jf b a (S++[p]) k=if k=Zv b a id p then Ga p else jf b a S k:=by
 unfold jf;rw[List.find?_append];by_cases h:k=Zv b a id p
 .rw[GX h];have:S.find? (λp=>decide (Zv b a id p=k))=Gq:=NU.mpr λq d=>by have:=c q d;simp[h,this]
  rw[this];simp[h]
 .rw[Gs h];have:[p].find? (λp=>decide (Zv b a id p=k))=Gq:=by simp[Tb h]
  rw[this,Option.or_none]
end Nt
namespace Sb
open PySem PySem.Spec PyProof.Rows L2 Nt
variable{p:Nat}{S:List Nat}{f:Nat->V}{v:V}{H:Hp}{b:Ge}
def ki(p:Nat):Wg:=.inl (p:Int)
noncomputable def dS(S:List Nat)(f:Nat->V):List (Wg×V):=S.map λp=>(ki p,f p)
theorem Ic{q:Nat}(h:ki p=ki q):p=q:=by unfold ki at h;injection h with h;lia
theorem UD(p:Nat):kV (ki p)=jv p:=rfl
theorem ko(h:p∈S):Xo (dS S f) (ki p)/f p:=by
 induction S with
 |nil=>simp at h
 |cons q r b=>
  by_cases e:q=p
  .subst e;exact Wc (p:=(ki q,f q)) rfl
  .have a:¬(ki q=ki p):=λz=>e (Ic z);show Xo ((ki q,f q)::dS r f) (ki p)=_;rw[Xy (p:=(ki q,f q)) a];exact b ((Ti.mp h).resolve_left λz=>e z.symm)
theorem oT(h:p∉S):Xo (dS S f) (ki p)=Gq:=by
 induction S with
 |nil=>exact qj
 |cons q r b=>simp only[Ti,not_or]at h;have a:¬(ki q=ki p):=λz=>h.1 (Ic z).symm;show Xo ((ki q,f q)::dS r f) (ki p)=_;rw[Xy (p:=(ki q,f q)) a];exact b h.2
theorem yL:(Xo (dS S f) (ki p)).isSome=decide (p∈S):=by
 by_cases h:p∈S
 .rw[ko h,Tg h];rfl
 .rw[oT h,Td h];rfl
theorem V0(S:List Nat)(f:Nat->V):⇑(dS S f)=⇑S:=by simp[dS]
theorem pH(h:p∈S):V5 (dS S f) (ki p) v=dS S (λq=>if q=p then v else f q):=by
 unfold V5;have a:((dS S f).any λb=>decide (b.1=ki p))=Gi:=by rw[Jv,ko h];rfl
 rw[GX a];unfold dS;rw[Di];refine TY λq _=>?_;show(if ki q=ki p then(ki q,v)else(ki q,f q))=(ki q,if q=p then v else f q);by_cases e:q=p
 .subst e;rw[GX Xb,GX rfl]
 .rw[Gs (λz=>e (Ic z)),Gs e]
theorem jO(h:p∉S):V5 (dS S f) (ki p) v=dS (S++[p]) (λq=>if q=p then v else f q):=by rw[UY _ (oT h)];unfold dS;rw[TZ,Tt,L6];show _=_++[(ki p,if p=p then v else f p)];rw[GX rfl];congr 1;refine TY λq a=>?_;show _=(ki q,if q=p then v else f q);rw[Gs (λz:q=p=>h (z▸a))]
theorem Vc{g:Nat->V}(h:∀p∈S,f p=g p):dS S f=dS S g:=TY λp a=>by rw[h p a]
inductive Ib where
 |told (n:Nat)
 |asked
def ke(H:Hp)(v:V):Option Ib->Prop
 |none=>v=.non
 |some (.told n)=>∃c,v=.ref c/\H c/.tup [.str "told",jv n]
 |some .asked=>∃c,v=.ref c/\H c/.tup [.str "asked"]
theorem ke.Qv{a:Hp}(e:Q6 H a){r:Option Ib}(h:ke H v r):ke a v r:=by
 cases r with
 |none=>exact h
 |some r=>cases r<;>(have(c,b,d):=h;exact{c,b,e _ _ d})
abbrev Lk:=Nat×Nat×Option Ib
inductive Oi(H:Hp)(v:V)(l:Lk):Prop
 |mk (c:_) (r:_) (h0:v=↑c) (h1:H c/.tup [jv l.1,jv l.2.1,r]) (h2:ke H r l.2.2):Oi H v l
theorem Oi.Qv{H a:Hp}(e:Q6 H a){v:V}{l:Lk}(h:Oi H v l):Oi a v l:=by have(c,r,b,d,f):=h;exact{c,r,b,e _ _ d,f.Qv e}
abbrev Nn:=ia TM Ib
def Yt(fs:List Fm)(p:Nat):TM:=(fs.getD p (Le,[])).1
def Zx(fs:List Fm)(p:Nat):List Nat:=(fs.getD p (Le,[])).2
theorem ku{a:List Fm}(h:p<⇑a):a[p]?/(Yt a p,Zx a p):=by unfold Yt Zx;rw[DL,Gf h];rfl
set_option genInjectivity false in
structure Na where
 f:Ge
 l:Ge
 m:Ge
 u:Ge
 t:Ge
 k:Ge
 a:Ge
 v:Ge
 ml:Nat->Ge
 ul:Nat->Ge
noncomputable def Xp(A:Na):List (TM×V):=[("forms",↑A.f),("leads",↑A.l),("members",↑A.m),("users",↑A.u),("table",↑A.t),("links",↑A.k),("link_at",↑A.a),("above",↑A.v)]
def ov:Option Nat->V
 |none=>.non
 |some p=>jv p
structure Ap(A:Na)(S:List Nat):Prop where
 lm:A.l≠A.m
 lu:A.l≠A.u
 lv:A.l≠A.v
 mu:A.m≠A.u
 mv:A.m≠A.v
 uv:A.u≠A.v
 kf:A.k≠A.f
 mm:∀p∈S,∀q∈S,A.ml p=A.ml q->p=q
 uu:∀p∈S,∀q∈S,A.ul p=A.ul q->p=q
 mul:∀p∈S,∀q∈S,A.ml p≠A.ul q
 mkf:∀p∈S,A.ml p≠A.k/\A.ml p≠A.f
 ukf:∀p∈S,A.ul p≠A.k/\A.ul p≠A.f
structure Ym(P:Gn)(w:Tf)(C:Ge)(H:Hp)(n:Ge)(A:Na)(fs:List Fm)(tb:Nat)(x:Nn):Prop where
 ob:∃dx,H n/.ins C dx (Xp A)
 fo:∃ws,H A.f/.lst ws/\Df (Og H) ws fs
 le:H A.l/.dK (dS x.S λp=>jv (x.zg p))
 me:H A.m/.dK (dS x.S λp=>.ref (A.ml p))
 us:H A.u/.dK (dS x.S λp=>.ref (A.ul p))
 ta:∃zw,DH P w H A.t zw/\⇑zw<=tb/\∀k:Fm,Ys zw (Xn k)=(x.tab k).map jv
 li:∃ls,H A.k/.lst ls/\Df (Oi H) ls x.zt
 at_:∃zw,H A.a/.dT zw/\⇑zw<=2*⇑x.zt/\∀i j:Nat,Xo zw [ki i,ki j]=(x.Xr i j).map jv
 ab:H A.v/.dK (dS x.S λp=>ov (x.up p))
 ml:∀p∈x.S,H (A.ml p)/.lst ((x.mem p).map jv)
 ul:∀p∈x.S,H (A.ul p)/.lst ((x.Xv p).map jv)
 ap:Ap A x.S
def hX(A:Na)(S:List Nat)(b:Ge):Prop:=b=A.l\/b=A.m\/b=A.u\/b=A.t\/b=A.k\/b=A.a\/b=A.v\/∃p∈S,b=A.ml p\/b=A.ul p
structure Ox(A:Na)(S:List Nat)(H H':Hp):Prop where
 keep:∀b o,H b/o->¬hX A S b->H' b/o
 there:∀b,H' b=Gq->H b=Gq
theorem Ox.trans{A:Na}{a c:Hp}(x:Ox A S H a)(y:Ox A S a c):Ox A S H c:={λb o e h=>y.keep b o (x.keep b o e h) h,λb h=>x.there b (y.there b h)}
theorem Ox.of{A:Na}{a:Hp}(g:Za H a):Ox A S H a:={λb o e _=>g b o e,λb h=>g.free h}
theorem Ox.zj{A:Na}{S:List Nat}{H:Hp}{b:Ge}{o:HO}(h:hX A S b):Ox A S H (zj H b o):=⟨λc u e a=>by rw[Qh (show c≠b fromλz=>a (by rw[z];exact h))];exact e,λc a=>by
 by_cases e:c=b
 .subst e;rw[Qb]at a;cases a
 .rw[Qh e]at a;exact a⟩
section
variable{P:Gn}{w:Tf}{C:Ge}{H H':Hp}{n:Ge}{A:Na}{fs:List Fm}{tb:Nat}{x:Nn}
theorem Ym.own(X:Ym P w C H n A fs tb x)(h:hX A x.S b):(∃a,H b/.dK a)\/(∃a,H b/.dT a)\/(∃o,H b/.ext o)\/∃d,H b/.lst d:=by
 have(a,D,_):=X.ta;have(f,L,_):=X.li;have(e,T,_):=X.at_;rcases h with rfl|rfl|rfl|rfl|rfl|rfl|rfl|⟨p,c,rfl|rfl⟩
 .exact .inl {_,X.le}
 .exact .inl {_,X.me}
 .exact .inl {_,X.us}
 .exact .inr (.inr (.inl {_,D.at_}))
 .exact .inr (.inr (.inr {_,L}))
 .exact .inr (.inl {_,T})
 .exact .inl {_,X.ab}
 .exact .inr (.inr (.inr {_,X.ml p c}))
 .exact .inr (.inr (.inr {_,X.ul p c}))
theorem Ym.qW(X:Ym P w C H n A fs tb x){a:List V}(h:H b/.tup a):¬hX A x.S b:=λz=>by rcases X.own z with⟨_,e⟩|⟨_,e⟩|⟨_,e⟩|⟨_,e⟩<;>rw[h]at e<;>cases e
theorem Ym.Q23(X:Ym P w C H n A fs tb x)(h:H b=Gq):¬hX A x.S b:=λz=>by rcases X.own z with⟨_,e⟩|⟨_,e⟩|⟨_,e⟩|⟨_,e⟩<;>rw[h]at e<;>cases e
theorem Ym.same(g:Za H H')(X:Ym P w C H n A fs tb x):Ym P w C H' n A fs tb x:=by have(j,s):=X.ob;have(t,k,l):=X.fo;have(b,D,f,i):=X.ta;have(r,o,q):=X.li;have(m,d,e):=X.at_;have c:=Q6.of g;exact{{j,g _ _ s},{t,g _ _ k,Qr l λ_ _ h=>h.Qv c},g _ _ X.le,g _ _ X.me,g _ _ X.us,{b,{g _ _ D.at_,Zq c D.keys},f,i},{r,g _ _ o,Qr q λ_ _ h=>h.Qv c},{m,g _ _ d,e},g _ _ X.ab,λp a=>g _ _ (X.ml p a),λp a=>g _ _ (X.ul p a),X.ap}
theorem Ym.keep(X:Ym P w C H n A fs tb x)(a:∀b o,H b/o->(hX A x.S b\/b=A.f\/b=n)->H' b/o)(d:Q6 H H'):Ym P w C H' n A fs tb x:=by
 have(j,s):=X.ob;have(t,k,l):=X.fo;have(c,D,g,i):=X.ta;have(r,o,q):=X.li;have(m,e,f):=X.at_;refine⟨{j,a _ _ s (.inr (.inr Xb))},{t,a _ _ k (.inr (.inl Xb)),Qr l λ_ _ h=>h.Qv d},a _ _ X.le (.inl (.inl Xb)),a _ _ X.me (.inl (.inr (.inl Xb))),a _ _ X.us (.inl (.inr (.inr (.inl Xb)))),{c,{a _ _ D.at_ (.inl (.inr (.inr (.inr (.inl Xb))))),Zq d D.keys},g,i},
  {r,a _ _ o (.inl (.inr (.inr (.inr (.inr (.inl Xb)))))),Qr q λ_ _ h=>h.Qv d},{m,a _ _ e (.inl (.inr (.inr (.inr (.inr (.inr (.inl Xb))))))),f},a _ _ X.ab (.inl (.inr (.inr (.inr (.inr (.inr (.inr (.inl Xb)))))))),λp b=>?_,λp b=>?_,X.ap⟩
 .exact a _ _ (X.ml p b) (.inl (.inr (.inr (.inr (.inr (.inr (.inr (.inr {p,b,.inl Xb}))))))))
 .exact a _ _ (X.ul p b) (.inl (.inr (.inr (.inr (.inr (.inr (.inr (.inr {p,b,.inr Xb}))))))))
theorem Ym.mono{a:Nat}(h:tb<=a)(X:Ym P w C H n A fs tb x):Ym P w C H n A fs a x:=by have(b,D,d,c):=X.ta;exact{X.ob,X.fo,X.le,X.me,X.us,{b,D,by ext,c},X.li,X.at_,X.ab,X.ml,X.ul,X.ap}
end
end Sb
namespace L2
open PySem PySem.Spec PyProof.Rows
variable{X:Cx}{σ:St}{H:Hp}
inductive uf(P:Gn)(w:Tf)(x:V)(vs:List V)(H:Hp)(Q:VK):Prop
 |mk (d:_) (b:_) (dv:_) (zw:_) (k:_) (h0:x=↑d) (h1:vs=[↑b,dv]) (h2:DH P w H d zw) (h3:ih H b k) (h4:⇑zw<TF) (h5:(∀v,Ys zw k/v->Q v H)) (h6:(Ys zw k=Gq->Q dv (zj H d (Uw P w d (zw++[(k,b,dv)]))))):uf P w x vs H Q
def Kp(P:Gn)(w:Tf):V->List V->Hp->VK->Prop:=λx a H Q=>uf P w x a H Q
theorem YQ(a:X.A.units+64<ET):iG X "dict.setdefault" (Kp X.prog X.w):=by
 intro o s Y H x W v V Q I R P h;have(d,b,i,a,k,rfl,rfl,D,G,U,M,N):=h;cases(show v=Tn d from R);have(S,t,rfl,O,r):=vals2 P;cases(show S=Tn b from O);have(z,m,j,c,l):=jV I D.at_ D.keys;have L:⇑a=⇑j:=GJ c;refine MZ F.slot_dict_setdefault l.typeIs F.entry_dict_setdefault (F.args_dict_setdefault_3 _ _ _) (Vd (Vx X.prog X.w) d b m t) {by first|(show X.A.units+1+10<ET;lia)|(show X.A.units+1+1+10<ET;lia),k,j,G.is I,l,by lia,λp K=>?_,λJ T g hs=>?_}
 .have e:=c.val k;rw[K]at e;cases q:Ys a k with
  |none=>rw[q]at e;exact(show False from e).elim
  |some y=>rw[q]at e;exact{y,H,I.tok _,e,M y q}
 .have e:=c.val k;rw[J]at e;cases q:Ys a k with
  |some y=>rw[q]at e;exact(show False from e).elim
  |none=>have(ob,w,u,n,A,B,C,_,E):=g;have f:KX (a++[(k,b,i)]) (j++[(k,b,t)]):=EV c ⟨Xb,Xb,r⟩;refine{i,_,R9 (ob:=Uw X.prog X.w d (a++[(k,b,i)])) I (by rw[D.at_];exact Ea) hs ⟨ob,n⟩ (sg {by rw[Gk,GQ];lia,m,_,f,ob,w,u,n,A,B,C,E}),r,N q}
section
variable{X:Cx}{o e:D0}{es:List D0}{to:TE}{t:TA}{name:TM}{apos cpos:M4}{id:String}{r:V->List V->Hp->VK->Prop}
theorem tF{b:List (Ge×SR)}{s:Gy}{d:Ge}{c:List KE}(I:zv X b σ H s)(e:H d/Uw X.prog X.w d c):
  s.TypeIs ↑d "dict"/\∀a,Tn d=.ref a->∃h,s.heap.get? a/h/\h.dict=Gq:=by
 have(z,y,n,r,o,j,i,f,g,k,l,m):=kj I e;exact{{o,f,g.1},λa e=>by cases e;exact{o,f,g.2.1}}
def yE(P:Gn)(w:Tf)(r:V->List V->Hp->VK->Prop)(to:TE)(t:TA):TE:=λσ H Q=>to σ H λx H1=>(∃d zw,x=.ref d/\H1 d/Uw P w d zw)/\t σ H1 λxs H2=>r x xs H2 Q
theorem qR(slot:Slot "dict" name id)(i:typeOf (.builtin id)=pure (.type "method_descriptor"))(A:iG X id r)(B:PE X o to)(z:PA X (e::es) t)
  (c:attributeBase o name X.env (eval o X.env)=eval o X.env:=by rfl)
  (g:((E7 cpos (T4 (e::es) X.env)).all (λx=>!x.1)&&(backToKw cpos (keywordEach [] X.env)).all (λx=>x.1.isSome)
   &&decide (⇑(e::es)+⇑([]:List RF)+(if([]:List RF).isEmpty then 0 else 1)<30))=Gi:=by rfl)
  (f:(apos.endLine==cpos.line)=Gi:=by rfl)(hs:T4 (e::es) X.env=(Gx,eval e X.env)::T4 es X.env:=by rfl)(b:(E7 cpos (T4 es X.env)).any (·.1)=Gx:=by rfl):
  PE X (.Call (.Attribute o name apos) (e::es) [] cpos) (yE X.prog X.w r to t):=by
 intro a s k H Q I h;refine MX c g f rfl (Xd (B a s k H _ I h) λv J j=>?_);have(x,n,l,F,ty,D):=j;have(d,C,rfl,u):=ty;cases(show v=Tn d from F);have(w,y):=tF l u;exists "dict",id,SN,slot,i,w,y;have m:=z cpos a J k n _ l D;rw[hs]at m⊢;refine SW (by show(Gx||(E7 cpos (T4 es X.env)).any (·.1))=Gx;rw[b]<;>rfl) (No ?_);refine Xd m λL K j=>?_;have(M,p,q,G,E):=j;exact A a K k p ↑d M _ L Q q rfl G E
end
theorem qz{c:TT}{f:TS}{D:Ends}(d:Nat->St->Hp->Prop)(g:∃m,d m σ H)
  (hs:∀m σ H,d m σ H->c σ H λb H1=>if b=Gi then f {D with nx:=λa H'=>∃e,e<m/\d e a H',ct:=λa H'=>∃e,e<m/\d e a H',bk:=D.nx} σ H1 else D.nx σ H1)
  (mono:∀σ H Q e,(∀b H1,Q b H1->e b H1)->c σ H Q->c σ H e):Ao c f D σ H:=by
 refine{d,g,λm σ H p=>mono σ H _ _ (λb H1 q=>?_) (hs m σ H p)};cases b with
 |true=>exact{_,λa H' h=>h,q}
 |false=>exact q
theorem zv.turns{a:List (Ge×SR)}{h:List (Option V)}{s:Gy}{h':Heap}{t':Nat}{fp:List Ge}(I:zv X a h H s)(k:∀b o,b∉fp->s.heap.get? b/o->h'.get? b/o)(g:∀b∈fp,ix X a H b):
  zv X a h H {s with heap:=h',toks:=t'}:=by
 have f:∀b u,H b/u->b∉fp:=λb u e z=>by rw[(g b z).1]at e;cases e
 refine I.step (g':=s.gens) (d':=s.drawn) (ch:=fp) (λb p=>?_) (λb o _ _ d e _=>k b o d e) (λb o _ _ d e _=>{o.slots,k b o d e}) (λ_ _ _ _ n=>n)
  (λb o d e=>{o,k b o d e}) (λ_ _ e=>e) (λ_ _ _ e=>e) (λb c e=>{#[],by rw[e];simp}) (λm t=>?_) (λb u e=>?_) I.bare
 .obtain⟨r,c,v,i,j,l⟩:=g b p;exact⟨i,c,j,l⟩
 .obtain⟨o,i,c,j,r⟩:=t;exact{o,i,c,k _ o (λz=>(g _ z).2.1 Xb) j,r}
 .refine(I.Ye b u e).jk (λc v d q=>k c v ?_ q) (λ_ q=>q) λ_ _ q=>q;rcases d with z|z
  .rw[z];exact f b u e
  .exact f c _ z
def l8(K:Gd)(a:Ge):It:=
 {λi H=>∃xs x,Jf K H a xs/\xs[i]?/x,λi H v H'=>∃c x,v=.ref c/\H c=Gq/\(∀xs,Jf K H a xs->xs[i]?/x)/\H'=zj H c (.tup [.int (i:Int),x]),λi H=>∃xs,Jf K H a xs/\⇑xs<=i}
theorem K5{P:Gn}{ae:Tf}{K:Gd}{V:List D0}{k:Nat}{ad:M4}(a e d:Ge)(N:e≠d):jc P ae K (.Tuple V k ad) (l8 K a) [e,d] e (λi h=>(∃m,IsEnum h e d i m)/\h.IsListIter d a i) where
 mem:=by simp
 obj:=λi h j b c=>by
  have((m,f),o,E,C,F):=j;rcases Ti.mp c with rfl|c
  .exact{_,f,λI g=>nomatch g}
  .have:b=d:=by simpa using c
   subst this;exact{o,E,λI g=>by rw[F]at g;cases g}
 keep:=λi h h' j k=>by have((m,f),n):=j;exact{{m,k e ⋯ _ f},n.at λo x=>k d ⋯ o x}
 item:=by
  intro X B hw A C i G s Q r R l t j D;subst B hw A;have((m,f),n):=j;have(xs,x,v,w):=D;have(ac,H,p,hz):=l.list v;have(u,hu,ru):=H.get w;refine wpAny_pyNext_enum_item f n p.isList (x:=u) (by simpa using hu) N λh' E aa L ag hk=>{0,?_};refine wpAny_letOwnedTupleGo_enum E λJ Y F=>?_;have O:e<s.heap.objs.size:=Tk f;have Z:d<s.heap.objs.size:=by have(_,x,_):=n;exact Tk x
  have af:J.get? s.heap.objs.size=Ga {cls:=.type "tuple",data:=.seq #[.int i s.toks,u]}:=(F.2 _ (Dy O)).trans L;have ab:r s.heap.objs.size=Gq:=l.Ye.fresh (Gz _);have S:zv X G Q (zj r s.heap.objs.size (.tup [.int (i:Int),x])) {s with heap:=s.heap.push {cls:=.type "tuple",data:=.seq #[.int i s.toks,u]},toks:=s.toks}:=
   l.laid (a:=s.heap.objs.size) (o:=.tup [.int (i:Int),x]) (t':=s.toks) (λ_ _ q=>Gp _ q) (Gz _) {Yy,[.int i s.toks,u],.cons {40} (.cons ru .nil),_,To _ Xb,10}
  have I:∀b∈[e,d],ix X G (zj r s.heap.objs.size (.tup [.int (i:Int),x])) b:=λb c=>by
   have M:b<s.heap.objs.size:=by
    rcases Ti.mp c with rfl|c
    .exact O
    .have:b=d:=by simpa using c
     subst this;exact Z
   refine{?_,(t b c).2};rw[Qh (T2 M)];exact(t b c).1
  have T:=S.turns (h':=J) (t':=s.toks+1) (fp:=[e,d]) (λb o c z=>?_) I
  .refine{↑s.heap.objs.size,_,T,1,{_,x,1,ab,λU M=>by rw[l.qC M v];exact w,1},{{u,by simpa using Y},aa.at λo y=>(F.2 d N.symm).trans y},λb c=>(I b c).1}
  .have M:b≠e:=λg=>c (by simp[g]);have W:b≠d:=λg=>c (by simp[g]);refine(F.2 b M).trans ?_;rcases Heap.get?_push_cases (show(s.heap.push {cls:=.type "tuple",data:=.seq #[.int i s.toks,u]}).get? b/o from z)with⟨rfl,rfl⟩|U
   .exact L
   .exact hk b o M W U
 done:=by intro X B hw A C i G s Q r R l t j D;subst B hw A;have((m,f),n):=j;have(xs,v,I):=D;have(ac,H,p,hz):=l.list v;have F:=⇑H;refine wpAny_pyNext_enum_end (l.ok.hd C) f n p.isList (Ei (by rw[Tp];lia)) λh' w=>{1,?_};exact l.turns (t':=s.toks) (fp:=[e,d]) (λb o c z=>w b o (λg=>c (by simp[g])) z) t
 self:=λ_ _ _ _ _ j h=>by have((m,f),_):=j;exact RL f h
inductive tH(K:Gd)(R:It->Hp->Prop)(vs:List V)(H1:Hp):Prop
 |mk (a:_) (xs:_) (h0:vs=[↑a]) (h1:Jf K H1 a xs) (h2:R (l8 K a) H1):tH K R vs H1
def Q7b(K:Gd)(ta:TA):TI:=λσ H R=>ta σ H λa H1=>tH K R a H1
theorem uI{g:List D0}{k:Nat}{l:M4}{a:D0}{w:TA}{p j:M4}(B:Gl X "enumerate")(D:X.mg "enumerate"=Gq)(A:PA X [a] w)(hs:T4 [a] X.env=[(Gx,eval a X.env)]:=by rfl):PI X (.Tuple g k l) (.Call (.Name "enumerate" p) [a] [] j) (Q7b X.K w):=by
 intro f s x H R I h;refine JR (Jc I B D boot_enumerate (EA (Xd (A j f s x H _ I h) λQ d N=>?_) hs Xb));have(S,t,m,L,K):=N;have(b,T,e,E,q):=K;subst e;have(u,rfl,M):=vals1 L;cases(show u=Tn b from M);have(G,P,J,O):=m.list E;refine call_enumerate_list J.isList λz v r F C=>?_;have y:zv X f x t {d with heap:=z,toks:=d.toks}:=m.kept λb o e=>C b o e;refine RL v {d.heap.objs.size+1,[d.heap.objs.size+1,d.heap.objs.size],2,t,1,y,K5 b (d.heap.objs.size+1) d.heap.objs.size (Bd _),{{_,v},r},λc n=>?_,q};have i:d.heap.objs.size<=c:=by
  rcases Ti.mp n with e|n
  .rw[e];exact LW _
  .have:c=d.heap.objs.size:=by simpa using n
   rw[this];exact Gz _
 exact m.jh i (m.Ye.fresh i)
theorem A3{K:Gd}{a:Ge}{xs:List V}{g:TG}{k:TS}{D:Ends}(b:Nat->St->Hp->Prop)(l:b 0 σ H)
  (o:∀i σ H,i<=⇑xs->b i σ H->Jf K H a xs)
  (hs:∀i x c σ H,xs[i]?/x->b i σ H->H c=Gq->g ↑c σ (zj H c (.tup [.int (i:Int),x])) λh H2=>k {D with nx:=b (i+1),ct:=b (i+1),bk:=D.nx} h H2)
  (n:∀σ H,b ⇑xs σ H->D.nx σ H):
  ∃W:Nat->Nat->St->Hp->Prop,(∃m,W 0 m σ H)/\∀i m σ H,W i m σ H->((l8 K a).stop i H/\D.nx σ H)\/((l8 K a).go i H/\∃N:St->Hp->Prop,(∀f d,N f d->∃e,e<m/\W (i+1) e f d)/\∀x d,(l8 K a).yld i H x d->g x σ d λh H2=>k {D with nx:=N,ct:=N,bk:=D.nx} h H2):=by
 exists λi m σ H=>m=⇑xs - i/\i<=⇑xs/\b i σ H,{0,Ts _,l};rintro i m σ H ⟨rfl,hi,pv⟩;have q:=o i σ H hi pv;by_cases j:i<⇑xs
 .refine .inr {{xs,xs[i],q,by simp[j]},b (i+1),λf d r=>{⇑xs - (i+1),by ext,1,j,r},λv d y=>?_};have(c,x,rfl,e,p,rfl):=y;exact hs i x c σ H (p xs q) pv e
 .have e:i=⇑xs:=by ext
  subst e;exact .inl {{xs,q,Gz _},n σ H pv}
end L2
namespace K06
open PySem L2 Sb Nt
variable{f C:Ge}{fd:Dn}
structure Jj(K:Gd)(mg:TM->Option Gj)(C:Ge):Prop where
 cl:hZ K C
 Qdj:Xg K C "forms"
 Vv:Xg K C "leads"
 members:Xg K C "members"
 Qgd:Xg K C "users"
 table:Xg K C "table"
 zt:Xg K C "links"
 Qc5:Xg K C "link_at"
 above:Xg K C "above"
 mgC:mg "Net"/↑C
theorem Jt(A:Na):(Xp A).lookup ("forms":TM)/↑A.f:=by rfl
theorem Xf(A:Na):(Xp A).lookup ("leads":TM)/↑A.l:=by rfl
theorem Vz(A:Na):(Xp A).lookup ("members":TM)/↑A.m:=by rfl
theorem Rz(A:Na):(Xp A).lookup ("users":TM)/↑A.u:=by rfl
theorem yH(A:Na):(Xp A).lookup ("table":TM)/↑A.t:=by rfl
theorem J2(A:Na):(Xp A).lookup ("links":TM)/↑A.k:=by rfl
theorem pC(A:Na):(Xp A).lookup ("link_at":TM)/↑A.a:=by rfl
theorem oD(A:Na):(Xp A).lookup ("above":TM)/↑A.v:=by rfl
theorem pD(A:Na):(Xp A).lookup ("take_in":TM)=Gq:=by rfl
theorem pb(A:Na):(Xp A).lookup ("key_of":TM)=Gq:=by rfl
theorem qG(A:Na):(Xp A).lookup ("equal":TM)=Gq:=by rfl
theorem sQ(A:Na):(Xp A).lookup ("merge":TM)=Gq:=by rfl
theorem VP(A:Na):(Xp A).lookup ("merge_link":TM)=Gq:=by rfl
theorem wA(A:Na):(Xp A).lookup ("hang":TM)=Gq:=by rfl
theorem yA(A:Na):(Xp A).lookup ("give_over":TM)=Gq:=by rfl
theorem qh(A:Na):(Xp A).lookup ("way":TM)=Gq:=by rfl
theorem yY(A:Na):(Xp A).lookup ("way_up":TM)=Gq:=by rfl
theorem zN(A:Na):(Xp A).lookup ("rows":TM)=Gq:=by rfl
theorem Xx{H:Hp}{a:Ge}{S:List Nat}{f:Nat->V}{p:Nat}(h:H a/.dK (dS S f))(b:p∈S):Vr H a (jv p) (Ga (f p)):=by have:=Vr.k (k:=ki p) h;rw[ko b,UD]at this;exact this
theorem mV{i j:Nat}:decide (jv i=jv j)=decide (i=j):=by
 by_cases h:i=j
 .subst h;simp
 .rw[Td h,Td λz=>h (Q3o z)]
inductive AC(P:Gn)(w:Tf)(C:Ge)(vs:List V)(H:Hp)(Q:VK):Prop
 |mk (n:Ge) (A:Na) (fs:List Fm) (tb:Nat) (x:Nn) (p:Nat) (q:Nat) (h0:vs=[↑n,jv p,jv q]) (h1:Ym P w C H n A fs tb x) (h2:p∈x.S) (h3:q∈x.S) (h4:Q (.bl (decide (x.zg p=x.zg q))) H):AC P w C vs H Q
def oj(P:Gn)(w:Tf)(C:Ge):Sp:=λa H Q _=>AC P w C a H Q
inductive wU(P:Gn)(w:Tf)(C:Ge)(vs:List V)(H:Hp)(Q:VK):Prop
 |mk (n:Ge) (A:Na) (fs:List Fm) (tb:Nat) (x:Nn) (p:Nat) (h0:vs=[↑n,jv p]) (h1:Ym P w C H n A fs tb x) (h2:p<⇑fs) (h3:(∀q∈Zx fs p,q∈x.S)) (h4:⇑(Zx fs p)<=1000000) (h5:∀(c:Ge)(H':Hp),Za H H'->H c=Gq->Og H' ↑c (Zv (Yt fs) (Zx fs) x.zg p)->Q ↑c H'):wU P w C vs H Q
def nO(P:Gn)(w:Tf)(C:Ge):Sp:=λa H Q _=>wU P w C a H Q
inductive wt(P:Gn)(w:Tf)(C:Ge)(vs:List V)(H:Hp)(Q:VK):Prop
 |mk (n:Ge) (A:Na) (fs:List Fm) (tb:Nat) (x:Nn) (lo:Nat) (hi:Nat) (cl:List Nat) (h0:vs=[↑n,jv lo,jv hi]) (h1:Ym P w C H n A fs tb x) (h2:Ch x.up lo cl) (h3:(∀p∈cl,p∈x.S)) (h4:⇑x.S<=1000000) (h5:∀(H':Hp),Ym P w C H' n A fs tb {x with up:=Ws x.up hi cl}->(∀b o,H b/o->b≠A.v->H' b/o)->(∀b,H' b=Gq->H b=Gq)->Q .non H'):wt P w C vs H Q
def sf(P:Gn)(w:Tf)(C:Ge):Sp:=λa H Q _=>wt P w C a H Q
inductive wN(P:Gn)(w:Tf)(C:Ge)(vs:List V)(H:Hp)(Q:VK):Prop
 |mk (n:Ge) (A:Na) (fs:List Fm) (tb:Nat) (x:Nn) (p:Nat) (l:List Nat) (h0:vs=[↑n,jv p]) (h1:Ym P w C H n A fs tb x) (h2:Ch x.up p l) (h3:(∀q∈l,q∈x.S)) (h4:⇑l<=1000000) (h5:∀(r:Ge)(H':Hp),Za H H'->H r=Gq->H' r/.lst (l.map jv)->Q ↑r H'):wN P w C vs H Q
def Ka(P:Gn)(w:Tf)(C:Ge):Sp:=λa H Q _=>wN P w C a H Q
section
variable{P:Gn}{w:Tf}{K:Gd}{mg:TM->Option Gj}{base:Heap}
theorem ON:Q7 ["self","one","other"] ["self","one","other"] (Qo qk):=by eq_refl
theorem XP(F:Wd K "equal" "Net.equal" qk f fd)(T:Jj K mg C):Q3 P w K mg base Ya 1 f fd ["self","one","other"] (oj P w C):=by
 refine F.ok ON (λo H Q E h=>?_) (λe A a s H o Q E l h=>?_)
 .obtain⟨n,A,i,m,x,p,q,rfl,_⟩:=h;rfl
 have(n,A,i,m,x,p,q,rfl,X,j,k,g):=h;have c:=Ju l;exists _,Qg (Qt (Ve Xs (Yc c (Qx {0}) {1} (λ_ _=>rfl)) (Yc c (Qx {0}) {2} (λ_ _=>rfl)) (Qu _)));have(b,d):=X.ob;exists 0,n,C,b,30,d,T.cl,T.Vv,Xf _,0,A.l,0,Xx X.le j,0,n,C,b,30,d,T.cl,T.Vv,Xf _,0,A.l,0,Xx X.le k,1;rw[mV];exact g
theorem oC:Q7 ["self","place","form"] ["self","place"] (Qo Oo):=by eq_refl
theorem tD:(["part","self"]:List TM).Nodup:=by decide+kernel
theorem Pn(F:Wd K "key_of" "Net.key_of" Oo f fd)(g:Jj K mg C)(N:I0 mg):Q3 P w K mg base Ya 1 f fd ["self","place"] (nO P w C):=by
 refine F.ok oC (λvs m Q O c=>?_) (λad d ae s m vs Q O Z c=>?_)
 .obtain⟨n,d,a,tb,x,p,rfl,_⟩:=c;rfl
 have(n,d,a,tb,x,p,rfl,X,D,Y,hl,U):=c;have hu:=Ju Z;have nd:=oC.nd;show∃t,Xu ?my _ t/\_;let ac:Vq ?my Oo 1:=⟨_,Qg (Qt (Zf (Qa (Qn Qs {2} Qi) (Qa (Xz Ub rfl N.tuple Dg (Qa
   (Ua (te:=lC (mw K (Uj 1) "leads") (Uj 0)) (own:=["part"]) (fv:=[(0,"self")]) rfl (S:=(by eq_refl:X8 (Qo Oo) _)) (.cons rfl (DW Xb) rfl .nil) (Uy (Qn Qs {2} Qi))
    (λ_ _ _ _ _=>Yz (i:=0) tD rfl (DW Xb) (Si Xb)) (λ_ _ _ _ _=>Wk) (λ_ _ _ _ _=>Yc hu (Qx {1}) {0} (λ_ _=>rfl))) Qd)) Qd))))⟩
 exists _,Qc (Qz 2 nd (Qn Ze (Qx {0}) {1})) ac.2;ac_nf;have(u,I):=X.ob;have(L,T,v):=X.fo;have hw:p<⇑L:=by rw[GJ v];exact D
 have(y,G,o,h,S,z,A):=Qy v (Gf hw);intros;rw[ku D]at G;cases G;have R:R8 [V.str (Yt a p),V.ref h] (1:Int)/↑h:=Xt;exists 0,n,C,u,30,I,g.cl,g.Qdj,Jt _,0,d.f,L,301,Qk T,Zk (Gf hw);rw[S];refine{0,o,201,Qj z,Oj _ _,0,o,201,Qj z,R,h,1,{_,Qj A},λab E=>?_};have s3:=Qf E (.lst []);refine Jx (K:=K) (a:=h) (xs:=(Zx a p).map jv) (small (by rw[Gv];lia)) (λi k l e=>(∃M,l=[M,Ga ↑n])/\Za m e/\k=((Zx a p).take i).map λq=>jv (x.zg q))
  {{40},s3,by simp} (λi k l e _ c=>Qj (c.2.1 _ _ A)) ?_ ?_
 .rintro i y k l e hi aa ⟨⟨M,rfl⟩,b,rfl⟩ j;rw[Tq]at hi;cases eq:(Zx a p)[i]? with
  |none=>rw[eq]at hi;cases hi
  |some q=>
   rw[eq]at hi;cases hi;exists 0,n,C,u,30,b _ _ I,g.cl,g.Vv,Xf _,0,d.l,0,Xx (b _ _ X.le) (Y q (Gc eq)),j,{40},λB H r=>?_
   .rw[Qh (Qe r E)];exact b _ _ r
   .rw[TD,eq,TZ];rfl
 .rintro k l e aa ⟨_,b,rfl⟩ j;rw[Gv,Tw]at j;refine{ab,0,.inl {Qk j,λH W=>?_}};have s4:=Qf W (.tup ((Zx a p).map λq=>jv (x.zg q)));refine{Yy,λr B=>?_};have J:=Qf B (.tup [.str (Yt a p),↑H]);refine U r _ ((b.trans s4).trans J) (b.free (s4.free B)) {r,H,1,Qb,?_};rw[J _ _ Qb];simp only[Zv,Di];rfl
theorem zc:Q7 ["self","place","found","stop"] ["self","place"] (Qo mY):=by eq_refl
theorem og{o:Option Nat}:decide (ov o=V.non)= !o.isSome:=by
 cases o with
 |none=>rfl
 |some p=>rfl
theorem AE{up:Nat->Option Nat}{p:Nat}{l:List Nat}(h:Ch up p l){i:Nat}(hi:i<⇑l):up l[i]=l[i+1]?:=by
 induction h generalizing i with
 |@top p e=>
  have:i=0:=by simpa using hi
  subst this;simpa using e
 |@step p q l e k b=>
  cases i with
  |zero=>have(r,a):=k.head;subst a;simpa using e
  |succ j=>simp only[TQ]at hi;simpa using b (i:=j) (by lia)
theorem KN(F:Wd K "way_up" "Net.way_up" mY f fd)(T:Jj K mg C):Q3 P w K mg base Ya 1 f fd ["self","place"] (Ka P w C):=by
 refine F.ok zc (λZ H Q E h=>?_) (λG A o s H Z Q E U h=>?_)
 .obtain⟨n,A,N,Y,x,p,l,rfl,_⟩:=h;rfl
 have(n,A,N,Y,x,p,l,rfl,X,B,S,D,g):=h;have V:=Ju U;have k:=zc.nd;show∃t,Xu ?my _ t/\_;let u:Subtype (Xu ?my (sub [2,0] (Q9 mY))):={_,Qc (Zn (X0 Te Tv Tz Z4 {2} (Qa {3} Qd))) (Qg (Qz 3 k (Yc V (Qx {0}) {3} (λ_ _=>rfl))))}
 exists _,Qc (Qz 2 k (Zu Qd)) (Qc (Qz 3 k {1}) (Qc (Wu Tj (Qp kX {3} U9 (Qu _)) u.2) (Qg (Qt {2}))));have(I,W):=X.ob;refine{Ts _,λr b=>{0,?_}};have s0:=Qf b (.lst []);have(l',M):=B.head;have O:l[0]?/p:=by rw[M];rfl
 let q:Nat->St->Hp->Prop:=λm y z=>jA λi=>jK (m=⇑l+1 - i) (i<=⇑l) (y=[Ga ↑n,Ga (jv p),Ga ↑r,Ga (ov l[i]?)]) (z=zj H r (.lst ((l.take i).map jv)))
 refine qz q
  {_,(0),1,Ts _,by rw[O];rfl,by simp} ?_ (λy H Q Q' R=>λh=>by have(v,c,d,e,J,L):=h;exact{v,c,d,e,J,R _ _ L})
 rintro m y z ⟨i,rfl,hi,rfl,rfl⟩;exists 4010;rw[og];rcases Dh i ⇑l with a|j
 .have c:l[i]?/l[i]:=Gf a;have d:l[i]∈l:=Fj a;rw[c];refine Yo ?_;exists 0,.inl {13,Qk Qb},0,r,301,Qb,(by rw[Gv,Db,TH];ext);have e:Za H (zj (zj H r (.lst ((l.take i).map jv))) r (.lst ((l.take i).map jv++[jv l[i]]))):=by rw[Vb];exact Qf b _
  exists 0,n,C,I,30,e _ _ W,T.cl,T.above,oD _,0,A.v,0,Xx (e _ _ X.ab) (S _ d),_,by ext,i+1,1,a,?_
  .rw[AE B a];rfl
  .rw[Vb,TD,c,TZ];rfl
 .have c:l[i]?=Gq:=De j;have d:i=⇑l:=by ext
  subst d;rw[c];refine Q4 ?_;rw[Tw];exact{0,g r _ (Qf b _) b Qb}
theorem A9:Q7 ["self","low","high","over","place","old_over"] ["self","low","high"] (Qo mz):=by eq_refl
theorem OP(F:Wd K "hang" "Net.hang" mz f fd)(z:Jj K mg C):Q3 P w K mg base Ya 1 f fd ["self","low","high"] (sf P w C):=by
 refine F.ok A9 (λvs j M ab e=>?_) (λag d aj s j vs M ab hr e=>?_)
 .obtain⟨n,d,fs,tb,x,T,hi,D,rfl,_⟩:=e;rfl
 have(n,d,fs,tb,x,T,hi,D,rfl,X,G,ad,ai,ac):=e;have Q:=Ju hr;have k:=A9.nd;show∃t,Xu ?my _ t/\_;let af:Subtype (Xu ?my (sub [2,0] (Q9 mz))):={_,Qc (Qz 5 k (Yc Q (Qx {0}) {4} (λ_ _=>rfl))) (Qc (Vl Q (Qx {0}) {4} {3} rfl) (Qc (Qz 3 k {4}) (Qg (Qz 4 k {5}))))}
 exists _,Qc (Qz 3 k {2}) (Qc (Qz 4 k {1}) (Qg (Wu Tj (Qp kX {4} U9 (Qu _)) af.2)));have(y,I):=X.ob;have(ah,N):=G.head;exists 400;have W:n≠d.v:=Zt I X.ab (by intro c;cases c);let ae:Nat->St->Hp->Prop:=λU J L=>iy λ(u:Nat->Option Nat)(over:Nat)(X6:List Nat)(Y:Option V)=>ij (U=X6.length) (∀q∈X6,u q=x.up q) (∀a h,X6=a::h->Ch x.up a X6) (X6.Nodup) (∀q∈X6,q∈x.S) (Ws u over X6=Ws x.up hi D) (J=[Ga ↑n,Ga (jv T),Ga (jv hi),Ga (jv over),Ga (ov X6.head?),Y]) (L=zj j d.v (.dK (dS x.S λp=>ov (u p))))
 refine qz ae
  {_,x.up,hi,D,Gq,1,λ_ _=>rfl,λa h b=>?_,G.nodup,ad,1,?_,?_} ?_ (λJ j M B A=>λe=>by have(v,i,E,l,m,o):=e;exact{v,i,E,l,m,A _ _ o})
 .rw[N]at b;cases b;exact G
 .rw[N];rfl
 .funext r
  by_cases g:r=d.v
  .subst g;rw[Qb];exact X.ab
  .rw[Qh g]
 rintro U J L ⟨u,over,X6,Y,rfl,R,S,nd2,O,H,rfl,rfl⟩;exists 4010;rw[og];cases X6 with
 |nil=>
  refine Q4 ?_;have b:Ws u over []=u:=rfl;rw[b]at H;refine ac _ ?_ (λr l i g=>by rw[Qh g];exact i) (λr g=>?_)
  .rw[<-H];have m:Q6 j (zj j d.v (.dK (dS x.S λp=>ov (u p)))):=Z2 λxs b=>by rw[X.ab]at b;cases b
   ac_nf;have(ws,A,f2):=X.fo;have(aa,l,d2,d3):=X.ta;have(ls,B,l2):=X.li;have(kv,o,Z):=X.at_;intros;refine⟨{y,by rw[Qh W];exact I},{ws,by rw[Qh (Zt A X.ab (by intro c;cases c))];exact A,Qr f2 λ_ _ e=>e.Qv m},by rw[Qh X.ap.lv];exact X.le,by rw[Qh X.ap.mv];exact X.me,by rw[Qh X.ap.uv];exact X.us,
    {aa,{by rw[Qh (Zt l.at_ X.ab (by intro c;cases c))];exact l.at_,Zq m l.keys},d2,d3},{ls,by rw[Qh (Zt B X.ab (by intro c;cases c))];exact B,Qr l2 λ_ _ e=>e.Qv m},{kv,by rw[Qh (Zt o X.ab (by intro c;cases c))];exact o,Z},Qb,
    λp i=>by rw[Qh (Zt (X.ml p i) X.ab (by intro c;cases c))];exact X.ml p i,λp i=>by rw[Qh (Zt (X.ul p i) X.ab (by intro c;cases c))];exact X.ul p i,X.ap⟩
  .by_cases b:r=d.v
   .subst b;rw[Qb]at g;cases g
   .rw[Qh b]at g;exact g
 |cons a h=>
  refine Yo ?_;have l:=O a ⋯;have o:(zj j d.v (.dK (dS x.S λp=>ov (u p)))) n/.ins C y (Xp d):=by rw[Qh W];exact I
  have A:u a=h.head?:=by rw[R a ⋯];have:=AE (S a h Xb) (i:=0) ⋯;simp only[List.getElem_cons_zero]at this;rw[this];cases h<;>rfl
  rw[Du]at nd2;have m:=Oh.k (k:=ki a) (v:=jv over) (@Qb j d.v (.dK (dS x.S λp=>ov (u p)))) (by rw[V0,TH];ext);rw[Vb,pH l]at m;exists 0,n,C,y,30,o,z.cl,z.above,oD _,0,d.v,0,Xx Qb l,00,n,C,y,30,o,z.cl,z.above,oD _,0,d.v,0,m,00,⇑h,by simp,mf u a over,a,h,Ga (ov (u a)),1,λq i=>?_,λB Z E=>?_,nd2.2,λq i=>O q (by simp[i]),H,?_
  .unfold mf;rw[Gs (λc:q=a=>nd2.1 (c▸i))];exact R q (by simp[i])
  .have:=S a h rfl;subst E;exact this.suffix (a:=[a]) rfl
  .rw[A];rfl
  .congr 2;refine Vc λq _=>?_;unfold mf;by_cases b:q=a
   .rw[GX b,GX b];rfl
   .rw[Gs b,Gs b]
end
end K06
namespace Sb
open PySem PySem.Spec PyProof.Rows L2 Nt
theorem Yr{H:Hp}{a b:Ge}{o u:HO}(h:H a/o)(k:H b/u)(d:∀z:o=u,False):a≠b:=λz=>by subst z;rw[h]at k;exact d (T3 k)
section
variable{P:Gn}{w:Tf}{C:Ge}{H:Hp}{n:Ge}{A:Na}{fs:List Fm}{tb:Nat}{x:Nn}
theorem Ym.Qz3(X:Ym P w C H n A fs tb x)(ld:Nat->Nat):Ym P w C (zj H A.l (.dK (dS x.S λp=>jv (ld p)))) n A fs tb {x with zg:=ld}:=by
 have(q,j):=X.ob;have(y,g,r):=X.fo;have(c,D,l,m):=X.ta;have(v,i,t):=X.li;have(s,f,k):=X.at_;have d:Q6 H (zj H A.l (.dK (dS x.S λp=>jv (ld p)))):=Z2 λz e=>by rw[X.le]at e;cases e
 have u:∀{b o},H b/o->b≠A.l->(zj H A.l (.dK (dS x.S λp=>jv (ld p)))) b/o:=λe h=>by rw[Qh h];exact e
 exact⟨{q,u j (Yr j X.le nofun)},{y,u g (Yr g X.le nofun),Qr r λ_ _ h=>h.Qv d},Qb,u X.me (Tb X.ap.lm),u X.us (Tb X.ap.lu),{c,{u D.at_ (Yr D.at_ X.le nofun),Zq d D.keys},l,m},
  {v,u i (Yr i X.le nofun),Qr t λ_ _ h=>h.Qv d},{s,u f (Yr f X.le nofun),k},u X.ab (Tb X.ap.lv),λp a=>u (X.ml p a) (Yr (X.ml p a) X.le nofun),λp a=>u (X.ul p a) (Yr (X.ul p a) X.le nofun),X.ap⟩
theorem Ym.VX(X:Ym P w C H n A fs tb x){k:Nat}(a:k∈x.S)(l:List Nat):Ym P w C (zj H (A.ml k) (.lst (l.map jv))) n A fs tb {x with mem:=λp=>if p=k then l else x.mem p}:=by
 have(s,i):=X.ob;have(G,t,v):=X.fo;have(d,D,q,r):=X.ta;have(F,B,E):=X.li;have(y,g,j):=X.at_;have m:=X.ml k a;have f:Q6 H (zj H (A.ml k) (.lst (l.map jv))):=Z2 λI e=>by rw[m]at e;cases e
 have u:∀{b o},H b/o->b≠A.ml k->(zj H (A.ml k) (.lst (l.map jv))) b/o:=λe h=>by rw[Qh h];exact e
 refine⟨{s,u i (Yr i m nofun)},{G,u t (Tb (X.ap.mkf k a).2),Qr v λ_ _ h=>h.Qv f},u X.le (Yr X.le m nofun),u X.me (Yr X.me m nofun),u X.us (Yr X.us m nofun),{d,{u D.at_ (Yr D.at_ m nofun),Zq f D.keys},q,r},
  {F,u B (Tb (X.ap.mkf k a).1),Qr E λ_ _ h=>h.Qv f},{y,u g (Yr g m nofun),j},u X.ab (Yr X.ab m nofun),λp c=>?_,λp c=>u (X.ul p c) (Tb (X.ap.mul k a p c)),X.ap⟩
 by_cases e:p=k
 .subst e;show _/HO.lst ((if p=p then l else x.mem p).map jv);rw[Qb,GX rfl]
 .show _/HO.lst ((if p=k then l else x.mem p).map jv);rw[Gs e];exact u (X.ml p c) (λz=>e (X.ap.mm p c k a z))
theorem Ym.zC(X:Ym P w C H n A fs tb x){k:Nat}(a:k∈x.S)(l:List Nat):Ym P w C (zj H (A.ul k) (.lst (l.map jv))) n A fs tb {x with Xv:=λp=>if p=k then l else x.Xv p}:=by
 have(s,i):=X.ob;have(G,t,v):=X.fo;have(d,D,q,r):=X.ta;have(F,B,E):=X.li;have(y,g,j):=X.at_;have m:=X.ul k a;have f:Q6 H (zj H (A.ul k) (.lst (l.map jv))):=Z2 λI e=>by rw[m]at e;cases e
 have u:∀{b o},H b/o->b≠A.ul k->(zj H (A.ul k) (.lst (l.map jv))) b/o:=λe h=>by rw[Qh h];exact e
 refine⟨{s,u i (Yr i m nofun)},{G,u t (Tb (X.ap.ukf k a).2),Qr v λ_ _ h=>h.Qv f},u X.le (Yr X.le m nofun),u X.me (Yr X.me m nofun),u X.us (Yr X.us m nofun),{d,{u D.at_ (Yr D.at_ m nofun),Zq f D.keys},q,r},
  {F,u B (Tb (X.ap.ukf k a).1),Qr E λ_ _ h=>h.Qv f},{y,u g (Yr g m nofun),j},u X.ab (Yr X.ab m nofun),λp c=>u (X.ml p c) (X.ap.mul p c k a),λp c=>?_,X.ap⟩
 by_cases e:p=k
 .subst e;show _/HO.lst ((if p=p then l else x.Xv p).map jv);rw[Qb,GX rfl]
 .show _/HO.lst ((if p=k then l else x.Xv p).map jv);rw[Gs e];exact u (X.ul p c) (λz=>e (X.ap.uu p c k a z))
theorem Ym.tm(X:Ym P w C H n A fs tb x){c kvs':List KE}(D:DH P w H A.t c)(t:⇑kvs'<=tb+1)(l:U5 H kvs'){t':Fm->Option Nat}(ht:∀k:Fm,Ys kvs' (Xn k)=(t' k).map jv):Ym P w C (zj H A.t (Uw P w A.t kvs')) n A fs (tb+1) {x with tab:=t'}:=by
 have(r,j):=X.ob;have(B,g,s):=X.fo;have(z,i,y):=X.li;have(v,f,q):=X.at_;have m:=D.at_;have d:Q6 H (zj H A.t (Uw P w A.t kvs')):=Z2 λE e=>by rw[m]at e;cases e
 have u:∀{b o},H b/o->b≠A.t->(zj H A.t (Uw P w A.t kvs')) b/o:=λe h=>by rw[Qh h];exact e
 exact⟨{r,u j (Yr j m nofun)},{B,u g (Yr g m nofun),Qr s λ_ _ h=>h.Qv d},u X.le (Yr X.le m nofun),u X.me (Yr X.me m nofun),u X.us (Yr X.us m nofun),{kvs',{Qb,Zq d l},t,ht},
  {z,u i (Yr i m nofun),Qr y λ_ _ h=>h.Qv d},{v,u f (Yr f m nofun),q},u X.ab (Yr X.ab m nofun),λp a=>u (X.ml p a) (Yr (X.ml p a) m nofun),λp a=>u (X.ul p a) (Yr (X.ul p a) m nofun),X.ap⟩
theorem Ym.KW(X:Ym P w C H n A fs tb x){kv2:List (List Wg×V)}{ls':List V}{lks:List Lk}{lat':Nat->Nat->Option Nat}(v:⇑kv2<=2*⇑lks)(y:∀i j:Nat,Xo kv2 [ki i,ki j]=(lat' i j).map jv)(z:Df (Oi H) ls' lks):
  Ym P w C (zj (zj H A.a (.dT kv2)) A.k (.lst ls')) n A fs tb {x with zt:=lks,Xr:=lat'}:=by
 have(r,g):=X.ob;have(B,l,s):=X.fo;have(f,D,m,q):=X.ta;have(I,c,G):=X.li;have(F,a,E):=X.at_;have k:Q6 H (zj (zj H A.a (.dT kv2)) A.k (.lst ls')):=λb J e=>by rw[Qh (Yr e c nofun),Qh (Yr e a nofun)];exact e
 have u:∀{b o},H b/o->b≠A.k->b≠A.a->(zj (zj H A.a (.dT kv2)) A.k (.lst ls')) b/o:=λe h t=>by rw[Qh h,Qh t];exact e
 refine⟨{r,u g (Yr g c nofun) (Yr g a nofun)},{B,u l (Tb X.ap.kf) (Yr l a nofun),Qr s λ_ _ h=>h.Qv k},u X.le (Yr X.le c nofun) (Yr X.le a nofun),u X.me (Yr X.me c nofun) (Yr X.me a nofun),u X.us (Yr X.us c nofun) (Yr X.us a nofun),
  {f,{u D.at_ (Yr D.at_ c nofun) (Yr D.at_ a nofun),Zq k D.keys},m,q},{ls',Qb,Qr z λ_ _ h=>h.Qv k},{kv2,?_,v,y},u X.ab (Yr X.ab c nofun) (Yr X.ab a nofun),λp d=>u (X.ml p d) (X.ap.mkf p d).1 (Yr (X.ml p d) a nofun),λp d=>u (X.ul p d) (X.ap.ukf p d).1 (Yr (X.ul p d) a nofun),X.ap⟩
 rw[Qh (Yr a c nofun),Qb]
end
end Sb
namespace K06
open PySem L2 Sb Nt
structure iV(fs:List Fm)(S:List Nat):Prop where
 str:∀p,DM (Yt fs p)=Gi
 lt:∀p∈S,p<⇑fs
 pts:∀p∈S,∀q∈Zx fs p,q∈S
 few:∀p,⇑(Zx fs p)<=100000
inductive uP(P:Gn)(w:Tf)(C:Ge)(vs:List V)(H:Hp)(Q:VK):Prop
 |mk (n:Ge) (A:Na) (fs:List Fm) (tb:Nat) (x:Nn) (g:Nat) (k:Nat) (h0:vs=[↑n,jv g,jv k]) (h1:Ym P w C H n A fs tb x) (h2:iV fs x.S) (h3:g∈x.S) (h4:k∈x.S) (h5:g≠k) (h6:(∀p∈x.mem g,p∈x.S)) (h7:(∀p∈x.Xv g,p∈x.S)) (h8:⇑x.S<=100000) (h9:⇑(x.mem k)+⇑(x.mem g)<=100000) (h10:⇑(x.Xv k)+⇑(x.Xv g)<=100000) (h11:tb+⇑(x.Xv g)<=1000000) (h12:∀(r:Ge)(es:List V)(H':Hp),Ym P w C H' n A fs (tb+⇑(x.Xv g)) (Jd (Yt fs) (Zx fs) x g k).1->Ox A x.S H H'->H r=Gq->H' r/.lst es->Df (Oi H') es (Jd (Yt fs) (Zx fs) x g k).2->Q ↑r H'):uP P w C vs H Q
def qB(P:Gn)(w:Tf)(C:Ge):Sp:=λa H Q _=>uP P w C a H Q
section
variable{P:Gn}{w:Tf}{K:Gd}{mg:TM->Option Gj}{base:Heap}
theorem xR:Q7 ["self","gone","kept","place","found","user","twin"] ["self","gone","kept"] (Qo W8):=by eq_refl
theorem ZW{ky:Nat->TM×List Nat}{l:List Nat}{t:TM×List Nat->Option Nat}{i u:Nat}(h:l[i]?/u):zm (ρ:=Ib) ky (l.take (i+1)) t []=(match(zm (ρ:=Ib) ky (l.take i) t []).1 (ky u)with
  |some v=>((zm (ρ:=Ib) ky (l.take i) t []).1,if v=u then(zm (ρ:=Ib) ky (l.take i) t []).2 else(zm (ρ:=Ib) ky (l.take i) t []).2++[(u,v,Gq)])
  |none=>((λk=>if k=ky u then Ga u else(zm (ρ:=Ib) ky (l.take i) t []).1 k),(zm (ρ:=Ib) ky (l.take i) t []).2)):=by
 have b:∀(a:List Nat)(t:TM×List Nat->Option Nat)(f:List (Nat×Nat×Option Ib)),zm (ρ:=Ib) ky (a++[u]) t f=(match(zm (ρ:=Ib) ky a t f).1 (ky u)with
  |some v=>((zm (ρ:=Ib) ky a t f).1,if v=u then(zm (ρ:=Ib) ky a t f).2 else(zm (ρ:=Ib) ky a t f).2++[(u,v,Gq)])
  |none=>((λk=>if k=ky u then Ga u else(zm (ρ:=Ib) ky a t f).1 k),(zm (ρ:=Ib) ky a t f).2)):=by
  intro a;induction a with
  |nil=>intro t f;simp only[LQ,zm];all_goals (cases t (ky u)<;>rfl)
  |cons z a c=>
   intro t f;simp only[DG,zm];cases t (ky z)with
   |some v=>exact c _ _
   |none=>exact c _ _
 rw[TD,h];exact b _ _ _
theorem OX{f fK g:Ge}{fd ak:Dn}(F:Wd K "give_over" "Net.give_over" W8 f fd)(e:Jj K mg g)(mK:Yp K g "key_of" fK)(GK:Q3 P w K mg base Ya 1 fK ak ["self","place"] (nO P w g))(bK:zk K ak ["self","place"] []):
  Q3 P w K mg base Ya 2 f fd ["self","gone","kept"] (qB P w g):=by
 refine F.ok xR (λH B D r E=>?_) (λO c S s B H D r hr E=>?_)
 .obtain⟨n,c,b,tb,x,a,k,rfl,_⟩:=E;rfl
 have(n,c,b,tb,x,a,k,rfl,X,aa,z,A,ax,mS,uS,hS,U,aP,aO,q):=E;have Q:=Ju hr;have aB:=hr.units;have az:Yj 1 _:=hr.mono ∅;have nd:=xR.nd;show∃t,Xu ?my _ t/\_;let aI:Subtype (Xu ?my (sub [4,0,1] (Q9 W8))):={_,Qg (Zc (Qp Wf {6} {5} (Qu _)) (Qg (Zn (X0 Te Tv Tz Z4 {4} (Qa (Zf (Qa {5} (Qa {6} (Qa U9 Qd)))) Qd)))) Qw)}
 let aJ:Subtype (Xu ?my (sub [4,0] (Q9 W8))):={_,Qc (Qz 6 nd (qR La Lb (YQ aB) (Qx {0}) (Qa (Zm {0} e.cl mK GK az bK .nil Q5 (Qa {5} Qd)) (Qa {5} Qd)))) aI.2}
 let aK:Vq ?my W8 3:={_,Qc (Qz 4 nd (Zu Qd)) (Qc (Yb Tj rfl (Yh (Yc Q (Qx {0}) {1} (λ_ _=>rfl))) (Z7 5 nd) aJ.2) (Qg (Qt {4})))}
 let aL:Vq ?my W8 2:={_,Qc (Zn (X0 Te LK LL rh (Yc Q (Qx {0}) {2} (λ_ _=>rfl)) (Qa (Yc Q (Qx {0}) {1} (λ_ _=>rfl)) Qd))) aK.2}
 let aM:Vq ?my W8 1:={_,Qc (Zn (X0 Te LK LL rh (Yc Q (Qx {0}) {2} (λ_ _=>rfl)) (Qa (Yc Q (Qx {0}) {1} (λ_ _=>rfl)) Qd))) aL.2}
 exists _,Qc (Yb Tj rfl (Yh (Yc Q (Qx {0}) {1} (λ_ _=>rfl))) (Z7 3 nd) (Qg (Vl Q (Qx {0}) {3} {2} rfl))) aM.2;have(dx,o1):=X.ob;have nl:n≠c.l:=Yr o1 X.le nofun;let aG:Nat->St->Hp->Prop:=λi I J=>nM (∃x3,I=[Ga ↑n,Ga (jv a),Ga (jv k),x3,Gq,Gq,Gq]) (J=zj B c.l (.dK (dS x.S λp=>jv (if p∈(x.mem a).take i then k else x.zg p))))
 refine⟨_,Xb,n,g,dx,_,_,Xb,o1,e.cl,e.members,Vz _,_,Xb,c.m,_,Xb,Xx X.me z,c.ml a,Xb,{_,Qk (X.ml a z)},Yw (K:=K) (a:=c.ml a) (xs:=(x.mem a).map jv)
  aG
  {{40},?_} (by rintro i I J _ ⟨_,d⟩;rw[d];exact Qk (by rw[Qh (Yr (X.ml a z) X.le nofun)];exact X.ml a z)) ?_ ?_⟩
 .funext C
  by_cases h:C=c.l
  .subst h;rw[Qb,X.le];simp
  .rw[Qh h]
 .rintro i y I J hi ⟨⟨x3,rfl⟩,rfl⟩;rw[Tq]at hi;cases eq:(x.mem a)[i]? with
  |none=>rw[eq]at hi;cases hi
  |some p=>
   rw[eq]at hi;cases hi;have H:=mS p (Gc eq);have D:(zj B c.l (.dK (dS x.S λp=>jv (if p∈(x.mem a).take i then k else x.zg p)))) n/.ins g dx (Xp c):=by rw[Qh nl];exact o1
   have r:=Oh.k (k:=ki p) (v:=jv k) (@Qb B c.l (.dK (dS x.S λp=>jv (if p∈(x.mem a).take i then k else x.zg p)))) (by rw[V0,TH];ext);rw[Vb,pH H]at r;exists 00,n,g,dx,30,D,e.cl,e.Vv,Xf _,0,c.l,0,r,{40};congr 2;refine Vc λj _=>?_;rw[TD,eq];by_cases d:j=p
   .subst d;rw[GX Xb,GX ⋯]
   .rw[Gs d];by_cases U:j∈(x.mem a).take i
    .rw[GX U,GX (Gu _ U)]
    .rw[Gs U,Gs (by simp[U,d])]
 rintro I J ⟨⟨x3,rfl⟩,rfl⟩;rw[Gv,Tw];have L:=X.Qz3 (Zj x a k);have eL:(dS x.S λp=>jv (if p∈x.mem a then k else x.zg p))=dS x.S λp=>jv (Zj x a k p):=rfl;rw[eL];have F1:Ox c x.S B (zj B c.l (.dK (dS x.S λp=>jv (Zj x a k p)))):=Ox.zj (.inl Xb);generalize zj B c.l (.dK (dS x.S λp=>jv (Zj x a k p)))=H1 at L F1⊢;have(ah,an):=L.ob;exists 0,n,g,ah,30,an,e.cl,e.members,Vz _,0,c.m,0,Xx L.me A,.inl {13,Qk (L.ml k A)},0,n,g,ah,30,an,e.cl,e.members,Vz _,0,c.m,0,Xx L.me z,c.ml k,c.ml a,301,L.ml k A,L.ml a z,small (by rw[Gv,Gv];show ⇑(x.mem k)+⇑(x.mem a)<=_;ext);have M:=L.VX A (x.mem k++x.mem a);have F2:Ox c x.S H1 (zj H1 (c.ml k) (.lst ((x.mem k++x.mem a).map jv))):=Ox.zj (.inr (.inr (.inr (.inr (.inr (.inr (.inr {k,A,.inl Xb})))))));have e2:((x.mem k).map jv++(x.mem a).map jv)=(x.mem k++x.mem a).map jv:=(TZ ..).symm;rw[e2];generalize zj H1 (c.ml k) (.lst ((x.mem k++x.mem a).map jv))=J at M F2⊢;have(ai,ao):=M.ob;exists 0,n,g,ai,30,ao,e.cl,e.Qgd,Rz _,0,c.u,0,Xx M.us A,.inl {13,Qk (M.ul k A)},0,n,g,ai,30,ao,e.cl,e.Qgd,Rz _,0,c.u,0,Xx M.us z,c.ul k,c.ul a,301,M.ul k A,M.ul a z,small (by rw[Gv,Gv];show ⇑(x.Xv k)+⇑(x.Xv a)<=_;ext);have X3:=M.zC A (x.Xv k++x.Xv a);have F3:Ox c x.S J (zj J (c.ul k) (.lst ((x.Xv k++x.Xv a).map jv))):=Ox.zj (.inr (.inr (.inr (.inr (.inr (.inr (.inr {k,A,.inr Xb})))))));have e3:((x.Xv k).map jv++(x.Xv a).map jv)=(x.Xv k++x.Xv a).map jv:=(TZ ..).symm;rw[e3];generalize zj J (c.ul k) (.lst ((x.Xv k++x.Xv a).map jv))=H3 at X3 F3⊢;have af:=(F1.trans F2).trans F3;refine{Ts _,λj al=>?_};have s4:=Qf al (.lst []);have X4:=X3.same s4;have(au,aF):=X4.ob;have N:B j=Gq:=af.there j al;have av:(λp=>if p=k then x.Xv k++x.Xv a else x.Xv p) a=x.Xv a:=Gs ax;have ug:∀{l:Hp}{t':Fm->Option Nat}{aD:Nat},Ym P w g l n c b aD {x with zg:=Zj x a k,mem:=(λp=>if p=k then x.mem k++x.mem a else x.mem p),Xv:=(λp=>if p=k then x.Xv k++x.Xv a else x.Xv p),tab:=t'}->l (c.ul a)/.lst ((x.Xv a).map jv):=λm=>by have:=m.ul a z;rw[this];show Ga (HO.lst (((λp=>if p=k then x.Xv k++x.Xv a else x.Xv p) a).map jv))=_;rw[av]
 let aH:Nat->St->Hp->Prop:=λi I l=>jN λ(x5 x6:Option V)(o:List V)=>jn (I=[Ga ↑n,Ga (jv a),Ga (jv k),x3,Ga ↑j,x5,x6]) (Ym P w g l n c b (tb+i) {x with zg:=Zj x a k,mem:=(λp=>if p=k then x.mem k++x.mem a else x.mem p),Xv:=(λp=>if p=k then x.Xv k++x.Xv a else x.Xv p),tab:=(zm (ρ:=Ib) (Zv (Yt b) (Zx b) (Zj x a k)) ((x.Xv a).take i) x.tab []).1}) (Ox c x.S B l) (l j/.lst o) (Df (Oi l) o (zm (ρ:=Ib) (Zv (Yt b) (Zx b) (Zj x a k)) ((x.Xv a).take i) x.tab []).2)
 refine⟨_,Xb,n,g,au,_,_,Xb,aF,e.cl,e.Qgd,Rz _,_,Xb,c.u,_,Xb,Xx X4.us z,c.ul a,Xb,{_,Qk (ug X4)},Yw (K:=K) (a:=c.ul a) (xs:=(x.Xv a).map jv)
  aH
  {2,[],1,?_,af.trans (Ox.of s4),Qb,.nil} (by rintro i I l _ ⟨_,_,_,_,m,_⟩;exact Qk (ug m)) ?_ ?_⟩
 .exact X4
 .rintro i y I l hi ⟨x5,x6,o,rfl,m,T,G,R⟩;rw[Tq]at hi;cases eq:(x.Xv a)[i]? with
  |none=>rw[eq]at hi;cases hi
  |some u=>
   rw[eq]at hi;cases hi;have aq:=uS u (Gc eq);have il:i<⇑(x.Xv a):=(Gg.mp eq).1;have(aj,ap):=m.ob;have(aC,ar,d2,d3):=m.ta;have aQ:⇑o<=i:=by rw[GJ R];have:=scan_len (ρ:=Ib) (ky:=Zv (Yt b) (Zx b) (Zj x a k)) (l:=(x.Xv a).take i) (t:=x.tab) (f:=[]);rw[Db]at this;simp at this;ext
   refine{0,n,g,aj,30,ap,e.cl,e.table,yH _,{c.t,aC,1,ar.at_},0,n,aj,0,ap,pb _,0,n,c,b,2,u,1,m,aa.lt u aq,λq hq=>aa.pts u aq q hq,by have:=aa.few u;ext,λac H6 r c6 aw=>{0,?_}};have Y6:=m.same r;have(Z,D6,aN,ag):=Y6.ta;have kc:=aw.key (aa.str u);have kk:Ys Z (Xn (Zv (Yt b) (Zx b) (Zj x a k) u))=((zm (ρ:=Ib) (Zv (Yt b) (Zx b) (Zj x a k)) ((x.Xv a).take i) x.tab []).1 (Zv (Yt b) (Zx b) (Zj x a k) u)).map jv:=ag (Zv (Yt b) (Zx b) (Zj x a k) u);have O:=ZW (ky:=Zv (Yt b) (Zx b) (Zj x a k)) (t:=x.tab) eq;have rO:¬hX c x.S j:=λH=>by rcases X.own H with⟨_,d⟩|⟨_,d⟩|⟨_,d⟩|⟨_,d⟩<;>rw[N]at d<;>cases d
   refine{c.t,ac,jv u,Z,01,D6,kc,by rw[TH];ext,λv W=>?_,λhn=>?_}
   ·
    rw[kk]at W;cases ev:(zm (ρ:=Ib) (Zv (Yt b) (Zx b) (Zj x a k)) ((x.Xv a).take i) x.tab []).1 (Zv (Yt b) (Zx b) (Zj x a k) u)with
    |none=>rw[ev]at W;cases W
    |some S=>
     rw[ev]at W;cases W;rw[ev]at O;exists 40010;rw[mV];by_cases ab:S=u
     .rw[Tg ab];refine Q4 {2,o,1,?_,T.trans (Ox.of r),r _ _ G,?_}
      .rw[O];exact Y6.mono ∅
      .rw[O];simp only[GX ab];exact Qr R λ_ _ E=>E.Qv (Q6.of r)
     .rw[Td ab];refine Yo ?_;refine{0,.inl {13,Qk (r _ _ G)},00,Vk,λD ad=>?_};have s7:=Qf ad (.tup [jv u,jv S,.non]);exists j,o,↑D,11,s7 _ _ (r _ _ G),(by rw[TH];ext);have Y:=r.trans s7;have Y7:=m.same Y;have aA:=Y _ _ G;have ae:Q6 l (zj (zj H6 D (.tup [jv u,jv S,.non])) j (.lst (o++[↑D]))):=λC xs d=>by rw[Qh (Yr d G nofun)];exact Y _ _ d
      have aE:(zj (zj H6 D (.tup [jv u,jv S,.non])) j (.lst (o++[↑D]))) D/.tup [jv u,jv S,.non]:=by rw[Qh (λH=>by rw[H,r _ _ G]at ad;cases ad),Qb]
      have Y8:Ym P w g (zj (zj H6 D (.tup [jv u,jv S,.non])) j (.lst (o++[↑D]))) n c b (tb+i) _:=Y7.keep (λC am d h=>by
       rw[Qh λH=>?_]
       .exact d
       .subst H;rcases h with h|h|h
        .exact rO h
        .obtain⟨ws,f1,_⟩:=X.fo;rw[h,f1]at N;cases N
        .rw[h,o1]at N;cases N) (Z2 λxs d=>by rw[aA]at d;cases d)
      exists 20,?_,{λC am d h=>?_,λC h=>?_},Qb
      .rw[O];exact Y8.mono ∅
      .rw[Qh (Qe d N)];exact Y _ _ (T.keep C am d h)
      .by_cases d:C=j
       .subst d;exact N
       .rw[Qh d]at h;exact T.there C (Y.free h)
      .rw[O];simp only[Gs ab];exact Zs (Qr R λ_ _ E=>E.Qv ae) (.cons {D,.non,1,aE,1} .nil)
   ·
    rw[kk]at hn;have ev:(zm (ρ:=Ib) (Zv (Yt b) (Zx b) (Zj x a k)) ((x.Xv a).take i) x.tab []).1 (Zv (Yt b) (Zx b) (Zj x a k) u)=Gq:=by
     cases ev:(zm (ρ:=Ib) (Zv (Yt b) (Zx b) (Zj x a k)) ((x.Xv a).take i) x.tab []).1 (Zv (Yt b) (Zx b) (Zj x a k) u)with
     |none=>rfl
     |some S=>rw[ev]at hn;cases hn
    rw[ev]at O;exists 40010;rw[mV,Tg rfl];have ay:Ys Z (Xn (Zv (Yt b) (Zx b) (Zj x a k) u))=Gq:=by rw[kk];exact hn
    have Y8:=Y6.tm (kvs':=Z++[(Xn (Zv (Yt b) (Zx b) (Zj x a k) u),ac,jv u)]) D6 (by rw[Gk,GQ];ext) (λp D=>by
     rcases Gh.mp D with D|D
     .exact D6.keys p D
     .rw[GV]at D;subst D;exact kc) (t':=λY=>if Y=Zv (Yt b) (Zx b) (Zj x a k) u then Ga u else(zm (ρ:=Ib) (Zv (Yt b) (Zx b) (Zj x a k)) ((x.Xv a).take i) x.tab []).1 Y) (λY=>by
     rw[qE _ _ _ _ _ ay];by_cases d:Y=Zv (Yt b) (Zx b) (Zj x a k) u
     .rw[GX (by rw[d]),GX d];rfl
     .rw[Gs (λH=>d (Js H)),Gs d];exact ag Y)
    have rt:j≠c.t:=λH=>rO (by rw[H];exact .inr (.inr (.inr (.inl Xb))));have ae:Q6 l (zj H6 c.t (Uw P w c.t (Z++[(Xn (Zv (Yt b) (Zx b) (Zj x a k) u),ac,jv u)]))):=λC xs d=>by rw[Qh (Yr (r _ _ d) D6.at_ nofun)];exact r _ _ d
    refine Q4 {2,o,1,?_,T.trans ((Ox.of r).trans (Ox.zj (.inr (.inr (.inr (.inl Xb)))))),?_,?_}
    .rw[O];exact Y8
    .rw[Qh rt];exact r _ _ G
    .rw[O];exact Qr R λ_ _ E=>E.Qv ae
 .rintro I l ⟨x5,x6,o,rfl,m,T,G,R⟩;rw[Gv,Tw]at m R;exact{0,q j o l m T N G R}
end
end K06
namespace Nt
theorem Xw{l S:List Nat}(nd:l.Nodup)(h:∀p∈l,p∈S):⇑l<=⇑S:=by
 induction l generalizing S with
 |nil=>simp
 |cons a r e=>rw[Du]at nd;have b:=h a ⋯;have:=e (S:=S.erase a) nd.2 λp c=>(Fu (show p≠a fromλz=>nd.1 (by rw[<-z];exact c))).mpr (h p (by simp[c]));rw[LM b]at this;have d:=L9 b;simp only[TQ];ext
theorem z8{f:Nat->Nat}{g k:Nat}(a:g≠k):∀{S:List Nat},g∈S->k∈S->f g+f k<=(S.map f).sum
 |[],h,_=>by simp at h
 |x::r,d,e=>by
  simp only[Tt,Fo];by_cases b:x=g
  .subst b;have:=rg (f:=f) ((Ti.mp e).resolve_left (Tb a));lia
  .by_cases c:x=k
   .subst c;have:=rg (f:=f) ((Ti.mp d).resolve_left a);lia
   .have:=z8 (f:=f) a ((Ti.mp d).resolve_left (Tb b)) ((Ti.mp e).resolve_left (Tb c));lia
theorem hY.chS{f:Type}{S:List Nat}{d:List (Nat×Nat×f)}{Xr:Nat->Nat->Option Nat}{up:Nat->Option Nat}(F:hY S d Xr up){p:Nat}{l:List Nat}(h:Ch up p l)(b:p∈S):∀q∈l,q∈S:=by
 induction h with
 |top=>intro q a;cases GV.mp a;exact b
 |step e _ c=>
  intro q a;rcases Ti.mp a with rfl|a
  .exact b
  .exact c (F.inS _ _ e).2 q a
theorem ur{W a:Type}(x:ia W a):cls x<=⇑x.S:=List.countP_le_length
end Nt
namespace K06
open PySem L2 Sb Nt
variable{C:Ge}{fd:Dn}
inductive xp(P:Gn)(w:Tf)(C:Ge)(vs:List V)(H:Hp)(Q:VK):Prop
 |mk (n:Ge) (A:Na) (fs:List Fm) (tb:Nat) (x:Nn) (c:Ge) (a:Nat) (b:Nat) (r:Option Ib) (pend:List Lk) (h0:vs=[↑n,↑c]) (h1:Ym P w C H n A fs tb x) (h2:iV fs x.S) (h3:Oi H ↑c (a,b,r)) (h4:Wv (Yt fs) (Zx fs) x (pend++[(a,b,r)])) (h5:x.zg a≠x.zg b) (h6:⇑x.S<=10000) (h7:Ja x<=10000) (h8:⇑x.zt<=100000) (h9:tb+Ja x<=1000000) (h10:∀(lo hi:Nat)(cl:List Nat)(l:Ge)(es:List V)(H':Hp),((lo=a/\hi=b)\/(lo=b/\hi=a))->Ch x.up lo cl->Ym P w C H' n A fs (tb+Ja x) (Y1 (Yt fs) (Zx fs) x a b r lo hi cl).1->Ox A x.S H H'->H l=Gq->H' l/.lst es->
  Df (Oi H') es (Y1 (Yt fs) (Zx fs) x a b r lo hi cl).2->Q ↑l H'):xp P w C vs H Q
def zW(P:Gn)(w:Tf)(C:Ge):Sp:=λa H Q _=>xp P w C a H Q
section
variable{P:Gn}{w:Tf}{K:Gd}{mg:TM->Option Gj}{base:Heap}
theorem z0:Q7 ["self","link","one","other"] ["self","link"] (Qo Wi):=by eq_refl
theorem XJ{H:Hp}{a b:Ge}{o u:HO}(h:a≠b):zj (zj H a o) b u=zj (zj H b u) a o:=by
 funext c
 by_cases d:c=b
 .subst d;rw[Qb,Qh (Tb h),Qb]
 .rw[Qh d];by_cases e:c=a
  .subst e;rw[Qb,Qb]
  .rw[Qh e,Qh e,Qh d]
theorem Re(x y:V)(a:List V):R8 (x::y::a) (1:Int)/y:=Zk (xs:=x::y::a) (j:=1) rfl
theorem ji(x y z:V)(a:List V):R8 (x::y::z::a) (2:Int)/z:=Zk (xs:=x::y::z::a) (j:=2) rfl
theorem P9{f fH fG:Ge}{aq ap:Dn}(F:Wd K "merge_link" "Net.merge_link" Wi f fd)(d:Jj K mg C)(S:I0 mg)(mH:Yp K C "hang" fH)(GH:Q3 P w K mg base Ya 1 fH aq ["self","low","high"] (sf P w C))(bH:zk K aq ["self","low","high"] [])
  (mG:Yp K C "give_over" fG)(GG:Q3 P w K mg base Ya 2 fG ap ["self","gone","kept"] (qB P w C))(bG:zk K ap ["self","gone","kept"] []):
  Q3 P w K mg base Ya 3 f fd ["self","link"] (zW P w C):=by
 refine F.ok z0 (λB y an ac l=>?_) (λI c Z s y B an ac hr l=>?_)
 .obtain⟨n,c,fs,R,x,E,a,b,ak,aM,rfl,_⟩:=l;rfl
 have(n,c,fs,R,x,E,a,b,ak,aM,rfl,X,aH,hc,g,ay,hS,hT,hL,aW,q):=l;have m:=Ju hr;have az:Yj 1 _:=hr.mono (by lia);have aA:Yj 2 _:=hr.mono (by lia);have nd:=z0.nd;show∃t,Xu ?my _ t/\_;let aN:Vq ?my Wi 6:={_,Qc (Zn (Zm {0} d.cl mH GH az bH .nil Q5 (Qa {3} (Qa {2} Qd)))) (Qg (Qt (Zm {0} d.cl mG GG aA bG .nil Q5 (Qa (Yc m (Qx {0}) {3} (λ_ _=>rfl)) (Qa (Yc m (Qx {0}) {2} (λ_ _=>rfl)) Qd)))))}
 let aO:Subtype (Xu ?my (sub [5,0] (Q9 Wi))):={_,Qc (Zn (Zm {0} d.cl mH GH az bH .nil Q5 (Qa {2} (Qa {3} Qd)))) (Qg (Qt (Zm {0} d.cl mG GG aA bG .nil Q5 (Qa (Yc m (Qx {0}) {2} (λ_ _=>rfl)) (Qa (Yc m (Qx {0}) {3} (λ_ _=>rfl)) Qd)))))}
 let aP:Vq ?my Wi 5:={_,Qc (Zc (Qp j7 (Qm Zp rfl S.len GY (Qa (Yc m (Qx {0}) (Yc m (Qx {0}) {2} (λ_ _=>rfl)) (λ_ _=>rfl)) Qd)) (Qm Zp rfl S.len GY (Qa (Yc m (Qx {0}) (Yc m (Qx {0}) {3} (λ_ _=>rfl)) (λ_ _=>rfl)) Qd)) (Qu _)) aO.2 Qw) aN.2}
 let aQ:Vq ?my Wi 3:={_,Qc (Vl m (Qx {0}) (Zf (Qa {3} (Qa {2} Qd))) (Qm Zp rfl S.len GY (Qa (Qx {0}) Qd)) rfl) (Qc (Zn (X0 Te Tv Tz Z4 (Qx {0}) (Qa {1} Qd))) aP.2)}
 let aR:Vq ?my Wi 1:={_,Qc (Qz 3 nd (Qn Qs {1} Qi)) (Qc (Vl m (Qx {0}) (Zf (Qa {2} (Qa {3} Qd))) (Qm Zp rfl S.len GY (Qa (Qx {0}) Qd)) rfl) aQ.2)}
 exists _,Qc (Qz 2 nd (Qn Qs {1} Qi)) aR.2;ac_nf;have(A,Q):=X.ob;have(c',rv,ec,ar,aV):=id hc;intros;cases ec;ac_nf;have(o,l1,l2):=X.li;have(kv,U,a2,a3):=X.at_;have ll:⇑o=⇑x.zt:=GJ l2;have(W,Y,_):=g.pnd a b ak ⋯;intros;have lv:(V.int (⇑o:Int))=jv ⇑x.zt:=by rw[ll];rfl
 exists 0,E,201,Qj ar,Oj _ _,0,E,201,Qj ar,Re _ _ _;exists 0,n,C,A,30,Q,d.cl,d.zt,J2 _,c.k,o,1,.inl (Qk l1);rw[lv];refine{0,n,C,A,30,Q,d.cl,d.Qc5,pC _,00,Yy,λG af=>?_};have s1:=Qf af (.tup [jv a,jv b]);exists c.a,0,Oh.t (k:=[ki a,ki b]) (s1 _ _ U) Qb (by rw[TH];lia);have aT:G≠c.a:=λh=>by rw[h,U]at af;cases af
 have nA:n≠c.a:=Yr Q U nofun;have kA:c.k≠c.a:=Yr l1 U nofun;generalize av:V5 kv [ki a,ki b] (jv ⇑x.zt)=N;have o2:(zj (zj y G (.tup [jv a,jv b])) c.a (.dT N)) n/.ins C A (Xp c):=by rw[Qh nA];exact s1 _ _ Q
 have aJ:(zj (zj y G (.tup [jv a,jv b])) c.a (.dT N)) c.k/.lst o:=by rw[Qh kA];exact s1 _ _ l1
 exists 0,n,C,A,30,o2,d.cl,d.zt,J2 _,c.k,o,1,.inl (Qk aJ);rw[lv];refine{0,n,C,A,30,o2,d.cl,d.Qc5,pC _,00,Yy,λL M=>?_};have s2:=Qf M (.tup [jv b,jv a]);have ao:L≠c.a:=λh=>by rw[h,Qb]at M;cases M
 have aX:⇑N<=2*⇑x.zt+1:=by rw[<-av];have:=W9 kv [ki a,ki b] (jv ⇑x.zt);lia
 exists c.a,0,Oh.t (k:=[ki b,ki a]) (s2 _ _ Qb) Qb (by rw[TH];lia);generalize aw:V5 N [ki b,ki a] (jv ⇑x.zt)=kv2;have aK:⇑kv2<=2*(⇑x.zt+1):=by rw[<-aw];have:=W9 N [ki b,ki a] (jv ⇑x.zt);lia
 rw[XJ (a:=c.a) (b:=L) (Tb ao),Vb];have aI:(zj y G (.tup [jv a,jv b])) L=Gq:=by rw[Qh ao]at M;exact M
 have D:Za y (zj (zj y G (.tup [jv a,jv b])) L (.tup [jv b,jv a])):=s1.trans (Qf aI _);generalize aU:zj (zj y G (.tup [jv a,jv b])) L (.tup [jv b,jv a])=T at D;have o3:(zj T c.a (.dT kv2)) n/.ins C A (Xp c):=by rw[Qh nA];exact D _ _ Q
 have l3:(zj T c.a (.dT kv2)) c.k/.lst o:=by rw[Qh kA];exact D _ _ l1
 exists 0,n,C,A,30,o3,d.cl,d.zt,J2 _,.inl {13,Qk l3},0,c.k,o,01,l3,(by rw[TH];lia);have Xa:=X.same D;have u:=Xa.KW (kv2:=kv2) (ls':=o++[↑E]) (lks:=x.zt++[(a,b,ak)]) (lat':=iv x.Xr a b ⇑x.zt) (by rw[Gk,GQ];exact aK) (λi j=>by
  rw[<-aw,qN,<-av,qN,a3];unfold iv;by_cases z:(i=a/\j=b)\/(i=b/\j=a)
  .rw[GX z];rcases z with⟨rfl,rfl⟩|⟨rfl,rfl⟩
   .rw[GX rfl];split<;>rfl
   .rw[GX rfl];rfl
  .rw[Gs z,Gs (λh=>z (by simp only[DB,BE]at h;exact .inr {Ic h.1,Ic h.2})),Gs (λh=>z (by simp only[DB,BE]at h;exact .inl {Ic h.1,Ic h.2}))])
  (Zs (Qr l2 λ_ _ l=>l.Qv (Q6.of D)) (.cons (hc.Qv (Q6.of D)) .nil))
 have Fb:Ox c x.S y (zj (zj T c.a (.dT kv2)) c.k (.lst (o++[↑E]))):=((Ox.of D).trans (Ox.zj (.inr (.inr (.inr (.inr (.inr (.inl Xb)))))))).trans (Ox.zj (.inr (.inr (.inr (.inr (.inl Xb))))));generalize zj (zj T c.a (.dT kv2)) c.k (.lst (o++[↑E]))=Hb at u Fb;have(H,J):=u.ob;have aB:=g.ld a W;have aC:=g.ld b Y;have go:∀e hi,((e=a/\hi=b)\/(e=b/\hi=a))->sf P w C [↑n,jv e,jv hi] Hb (λ_ r=>∃k,r n/.ins C k (Xp c)/\r c.l/.dK (dS x.S λp=>jv (x.zg p))/\qB P w C [↑n,jv (x.zg e),jv (x.zg hi)] r an ac) ac:=by
  intro e hi aa;have ab:e∈x.S:=by rcases aa with⟨l,_⟩|⟨l,_⟩<;>rw[l]<;>assumption
  have au:hi∈x.S:=by rcases aa with⟨_,l⟩|⟨_,l⟩<;>rw[l]<;>assumption
  have ax:x.zg e≠x.zg hi:=by
   rcases aa with⟨z,h2⟩|⟨z,h2⟩<;>rw[z,h2]
   .exact ay
   .exact Tb ay
  have I:=g.ld e ab;have Z:=g.idem e ab;have kS:=g.ld hi au;have kk:=g.idem hi au;have(cl,ag):=g.fst.chain e ab;refine{n,c,fs,R,_,e,hi,cl,1,u,ag,g.fst.chS ag ab,by show ⇑x.S<=_;lia,λr X1 k1 t1=>?_};have(k,v):=X1.ob;have F1:Ox c x.S Hb r:={λb aL aG hb=>k1 b aL aG (λh=>hb (h▸.inr (.inr (.inr (.inr (.inr (.inr (.inl Xb)))))))),t1};have aY:=Xw (g.Qna _ I Z) λp B=>((g.Qcv _ I Z p).mp B).1;have aZ:=Xw (g.Qna _ kS kk) λp B=>((g.Qcv _ kS kk p).mp B).1;have am:=z8 (f:=λp=>if x.zg p=p then ⇑(x.Xv p) else 0) ax I kS;rw[GX Z,GX kk]at am;have am:⇑(x.Xv (x.zg e))+⇑(x.Xv (x.zg hi))<=Ja x:=am;refine{k,v,X1.le,n,c,fs,R,_,x.zg e,x.zg hi,1,X1,aH,I,kS,ax,λp B=>((g.Qcv _ I Z p).mp B).1,λp B=>g.Qk7 _ I p B,by show ⇑x.S<=_;lia,?_,?_,?_,λai es H' aD FY lY rY pY=>?_}
  .show ⇑(x.mem (x.zg hi))+⇑(x.mem (x.zg e))<=_;lia
  .show ⇑(x.Xv (x.zg hi))+⇑(x.Xv (x.zg e))<=_;lia
  .show R+⇑(x.Xv (x.zg e))<=_;lia
  .refine q e hi cl ai es H' aa ag (Ym.mono ?_ aD) ((Fb.trans F1).trans FY) (Fb.there ai (t1 ai lY)) rY pY;show R+⇑(x.Xv (x.zg e))<=_;lia
 have aE:=go a b (.inl ⟨Xb,Xb⟩);have aF:=go b a (.inr ⟨Xb,Xb⟩);exists 0,n,C,H,30,J,d.cl,d.members,Vz _,0,n,C,H,30,J,d.cl,d.Vv,Xf _,0,c.l,0,Xx u.le W,c.m,0,Xx u.me aB,30,.inl (Qk (u.ml _ aB)),0,n,C,H,30,J,d.cl,d.members,Vz _,0,n,C,H,30,J,d.cl,d.Vv,Xf _,0,c.l,0,Xx u.le Y,c.m,0,Xx u.me aC,30,.inl (Qk (u.ml _ aC)),3010;refine Us (λ_=>?_) (λ_=>?_)
 .subst_vars;have(n',A',ae,al,x',aj,ah,ad,e1,e2,e3,e4,e5,e6):=aE;intros;refine{0,n,H,0,J,wA _,00,n',A',ae,al,x',aj,ah,ad,e1,e2,e3,e4,e5,λr y1 y2 y3=>?_};have(k,v,O,g1):=e6 r y1 y2 y3;exact{0,n,k,0,v,yA _,0,n,C,k,30,v,d.cl,d.Vv,Xf _,0,c.l,0,Xx O W,0,n,C,k,30,v,d.cl,d.Vv,Xf _,0,c.l,0,Xx O Y,g1}
 .subst_vars;have(n',A',ae,al,x',aj,ah,ad,e1,e2,e3,e4,e5,e6):=aF;intros;refine{0,n,H,0,J,wA _,00,n',A',ae,al,x',aj,ah,ad,e1,e2,e3,e4,e5,λr y1 y2 y3=>?_};have(k,v,O,g1):=e6 r y1 y2 y3;exact{0,n,k,0,v,yA _,0,n,C,k,30,v,d.cl,d.Vv,Xf _,0,c.l,0,Xx O Y,0,n,C,k,30,v,d.cl,d.Vv,Xf _,0,c.l,0,Xx O W,g1}
structure iq(fs:List Fm)(x x':Nn)(a b:Nat)(r:Option Ib)(pend:List Lk):Prop where
 inv:Wv (Yt fs) (Zx fs) x' pend
 S:x'.S=x.S
 Ja:Ja x'=Ja x
 eq:Cj x.S x'.zg pend a b
 mono:∀p∈x.S,∀q∈x.S,x.zg p=x.zg q->x'.zg p=x'.zg q
 snd:∀E,Ec (Yt fs) (Zx fs) x.S E->ic E x [(a,b,r)]->ic E x' pend
 rsn:∀y∈x'.zt,y∈x.zt\/y=(a,b,r)\/y.2.2=Gq
 pnd:∀y∈pend,y=(a,b,r)\/y.2.2=Gq
 less:cls x'+⇑x'.zt<=cls x+⇑x.zt
 more:⇑x.zt<=⇑x'.zt
inductive tj(P:Gn)(w:Tf)(C:Ge)(vs:List V)(H:Hp)(Q:VK):Prop
 |mk (n:Ge) (A:Na) (fs:List Fm) (tb:Nat) (x:Nn) (a:Nat) (b:Nat) (rv:V) (r:Option Ib) (h0:vs=[↑n,jv a,jv b,rv]) (h1:Ym P w C H n A fs tb x) (h2:iV fs x.S) (h3:ke H rv r) (h4:r≠Gq) (h5:a∈x.S) (h6:b∈x.S) (h7:Wv (Yt fs) (Zx fs) x []) (h8:⇑x.S<=10000) (h9:Ja x<=10000) (h10:cls x+⇑x.zt<=10000) (h11:tb+cls x*Ja x<=900000) (h12:∀(x':Nn)(H':Hp),Ym P w C H' n A fs (tb+(⇑x'.zt - ⇑x.zt)*Ja x) x'->iq fs x x' a b r []->Ox A x.S H H'->Q .non H'):tj P w C vs H Q
def qM(P:Gn)(w:Tf)(C:Ge):Sp:=λa H Q _=>tj P w C a H Q
theorem iq.start{c:List Fm}{x:Nn}{a b:Nat}{r:Option Ib}(I:Wv (Yt c) (Zx c) x [])(g:r≠Gq)(d:a∈x.S)(f:b∈x.S):iq c x x a b r [(a,b,r)]:=
 {I.su (λ_ _ _ h=>by simp at h) λi j k h=>by simp at h;have(rfl,rfl,rfl):=h;exact{d,f,λe=>absurd e g},11,.wait (r:=r) ⋯,λ_ _ _ _ e=>e,λE _ h=>h,λy h=>.inl h,λy h=>by simp at h;exact .inl h,Gz _,Gz _}
theorem iq.drop{k:List Fm}{x d:Nn}{a b f g:Nat}{r l:Option Ib}{c:List Lk}(M:iq k x d a b r (c++[(f,g,l)]))(e:d.zg f=d.zg g):iq k x d a b r c:=by
 have(i,j,_):=M.inv.pnd f g l ⋯;rw[M.S]at i j;refine{M.inv.drop e,M.S,M.Ja,M.eq.map (λp n q o e=>.zg n o e) (λp q w m=>?_),M.mono,λE X h=>{(M.snd E X h).1,λu v s m=>(M.snd E X h).2 u v s (Gu _ m)},M.rsn,λy t=>M.pnd y (Gu _ t),M.less,M.more};rcases Gh.mp m with m|m
 .exact .wait m
 .simp at m;have(rfl,rfl,rfl):=m;exact .zg i j e
theorem iq.join{g:List Fm}{x c:Nn}{a b d f:Nat}{r l:Option Ib}{n:List Lk}(M:iq g x c a b r (n++[(d,f,l)]))(t:c.zg d≠c.zg f){k hi:Nat}{o:List Nat}(j:(k=d/\hi=f)\/(k=f/\hi=d))(B:Ch c.up k o):
  iq g x (Y1 (Yt g) (Zx g) c d f l k hi o).1 a b r (n++(Y1 (Yt g) (Zx g) c d f l k hi o).2):=by
 have(D,F,_):=M.inv.pnd d f l ⋯;have(J,L):=M.inv.join t j B;have(I,G,K,N):=M.inv.less t j B;have C:∀p∈c.S,∀q∈c.S,c.zg p=c.zg q->(Y1 (Yt g) (Zx g) c d f l k hi o).1.zg p=(Y1 (Yt g) (Zx g) c d f l k hi o).1.zg q:=λp w q z e=>by rw[L p w,L q z,e]
 have A:(Y1 (Yt g) (Zx g) c d f l k hi o).1.zg d=(Y1 (Yt g) (Zx g) c d f l k hi o).1.zg f:=by
  rw[L d D,L f F];rcases j with⟨rfl,rfl⟩|⟨rfl,rfl⟩
  .rw[GX rfl];split<;>rfl
  .rw[GX rfl];split<;>rfl
 exists J,M.S,G.trans M.Ja,M.eq.map (λp w q z e=>.zg w z (C p (M.S▸w) q (M.S▸z) e)) (λp q H m=>?_),λp w q z e=>C p (M.S▸w) q (M.S▸z) (M.mono p w q z e),λE X h=>ic.join (M.snd E X h) (by rw[M.S];exact X) M.inv t j B,λy i=>?_,λy i=>?_,?_
 .rcases Gh.mp m with m|m
  .exact .wait (Gu _ m)
  .simp at m;have(rfl,rfl,rfl):=m;exact .zg (M.S▸D) (M.S▸F) A
 .have i:y∈c.zt++[(d,f,l)]:=i;rcases Gh.mp i with i|i
  .exact M.rsn y i
  .rw[GV]at i;subst i;exact .inr (M.pnd _ ⋯)
 .rcases Gh.mp i with i|i
  .exact M.pnd y (Gu _ i)
  .obtain⟨u,v,s⟩:=y;exact .inr (WU i)
 .have:=M.less;lia
 .have:=M.more;lia
theorem sj:Q7 ["self","one","other","reason","waiting","link"] ["self","one","other","reason"] (Qo rT):=by eq_refl
theorem KB{c d:Type}{F:c->d->Prop}{a:List c}{b:List d}(p:Df F a b)(l:a≠[]):∃x y,a[⇑a - 1]?/x/\b=b.dropLast++[y]/\F x y/\Df F a.dropLast b.dropLast:=by
 induction p with
 |nil=>exact absurd rfl l
 |cons h t j=>
  cases t with
  |nil=>exact{301,h,.nil}
  |cons k t=>
   have(x,y,e,f,g,i):=j nofun;exists x,y,?_,?_,g
   .simpa using e
   .simp only[MJ,DG];rw[<-f]
   .simp only[MJ];exact .cons h i
theorem Qto{ak fE fM:Ge}{al am:Dn}(F:Wd K "merge" "Net.merge" rT ak fd)(ah:Jj K mg C)(mE:Yp K C "equal" fE)(GE:Q3 P w K mg base Ya 1 fE al ["self","one","other"] (oj P w C))(bE:zk K al ["self","one","other"] [])
  (mM:Yp K C "merge_link" fM)(GM:Q3 P w K mg base Ya 3 fM am ["self","link"] (zW P w C))(bM:zk K am ["self","link"] []):
  Q3 P w K mg base Ya 4 ak fd ["self","one","other","reason"] (qM P w C):=by
 refine F.ok sj (λc E ag a l=>?_) (λf j o s E c ag a hr l=>?_)
 .obtain⟨n,j,h,tb,x,H,I,W,ac,rfl,_⟩:=l;rfl
 have(n,j,h,tb,x,H,I,W,ac,rfl,X,az,aG,aF,aS,bS,aw,hS,hT,aL,aP,q):=l;have aD:Yj 1 _:=hr.mono (by lia);have aE:Yj 3 _:=hr.mono (by lia);have nd:=sj.nd;exists _,Qc (Qz 4 nd (Zu (Qa (Zf (Qa {1} (Qa {2} (Qa {3} Qd)))) Qd)))
  (Qg (Wu Tj (vM {4} (λ_=>rfl))
   (Qc (Qz 5 nd (jw Te Ep Er O3 {4}))
   (Qg (Zc (Yi (Zz (Zm {0} ah.cl mE GE aD bE .nil Q5 (Qa (Qn Qs {5} Qi) (Qa (Qn Qs {5} Qi) Qd)))))
    (Qg (Zn (X0 Te LK LL rh {4} (Qa (Zm {0} ah.cl mM GM aE bM .nil Q5 (Qa {5} Qd)) Qd)))) Qw)))))
 have(dx,o1):=X.ob;refine{000,Vk,λaa T=>?_};have s1:=Qf T (.tup [jv H,jv I,W]);refine{Wx,λe aq=>?_};have s2:=Qf aq (.lst [↑aa]);have ad:=s1.trans s2;have t:E e=Gq:=s1.free aq;have wO:¬hX j x.S e:=X.Q23 t;have wf:e≠j.f:=λm=>by have(d,f1,_):=X.fo;rw[m,f1]at t;cases t
 have wn:e≠n:=λm=>by rw[m,o1]at t;cases t
 dsimp only[Ui];let aH:Nat->St->Hp->Prop:=λau af i=>iy λ(x5:Option V)(d:List V)(b:Nn)(r:List Lk)=>ij (au=cls b*(Ja x+1)+⇑r) (af=[Ga ↑n,Ga (jv H),Ga (jv I),Ga W,Ga ↑e,x5]) (i e/.lst d) (Df (Oi i) d r) (Ym P w C i n j h (tb+(⇑b.zt - ⇑x.zt)*Ja x) b) (iq h x b H I ac r) (Ox j x.S E i) (⇑r<=1+(cls x - cls b)*Ja x)
 refine qz aH
  {_,Gq,[↑aa],x,[(H,I,ac)],11,Qb,.cons {aa,W,1,s2 _ _ Qb,aG.Qv (Q6.of ad)} .nil,(X.same ad).mono (by lia),iq.start aw aF aS bS,Ox.of ad,by simp} ?_ (λaf E ag c a=>λl=>by have(av,e1,k,R,e3):=l;exact{av,e1,k,R,a _ _ e3})
 rintro au af i ⟨x5,d,b,r,rfl,rfl,Z,p2,ai,g,F2,pl⟩;exists 03,.inl {d,Qk Z,1};have aT:=GJ p2;have aK:=ur x;cases hw:d with
 |nil=>refine Q4 ?_;subst hw;cases p2;exact q b i ai g F2
 |cons m zs=>
  refine Yo ?_;have aC:d≠[]:=by rw[hw];simp
  have(av,(o,p,u),e1,R,e3,e4):=KB p2 aC;have ap:⇑r=⇑r.dropLast+1:=by rw[R];simp
  have(J,aI,rfl,an,aA):=e3;exists 0,.inl {13,Qk Z},e,d,01,Z,e1;have Y:Q6 i (zj i e (.lst d.dropLast)):=Z2 λxs c=>by rw[Z]at c;cases c
  have v:=g.S;have y:Ym P w C (zj i e (.lst d.dropLast)) n j h (tb+(⇑b.zt - ⇑x.zt)*Ja x) b:=ai.keep (λf B c a=>by
   rw[Qh λm=>?_]
   .exact c
   .subst m;rcases a with a|a|a
    .rw[v]at a;exact wO a
    .exact wf a
    .exact wn a) Y
  have O:Ox j x.S E (zj i e (.lst d.dropLast)):=⟨λf B c a=>by rw[Qh (Qe c t)];exact F2.keep f B c a,λf a=>by
   by_cases c:f=e
   .subst c;exact t
   .rw[Qh c]at a;exact F2.there f a⟩
  have N:(zj i e (.lst d.dropLast)) e/.lst d.dropLast:=Qb;have L:Df (Oi (zj i e (.lst d.dropLast))) d.dropLast r.dropLast:=Qr e4 λ_ _ l=>l.Qv Y;have l3:Oi (zj i e (.lst d.dropLast)) ↑J (o,p,u):=Oi.Qv Y ⟨J,aI,Xb,an,aA⟩;have ab:=Y _ _ an;generalize zj i e (.lst d.dropLast)=H3 at y O N L l3 ab;rw[R]at g;generalize r.dropLast=M at g L ap;have(ax,ay,_):=g.inv.pnd o p u ⋯;have(aj,o3):=y.ob;exists 0,n,aj,0,o3,qG _,0,J,201,Qj ab,Oj _ _,0,J,201,Qj ab,Re _ _ _,n,j,h,_,b,o,p,1,y,ax,ay,0;by_cases A:b.zg o=b.zg p
  .rw[Tg A];refine Q4 {_,?_,_,d.dropLast,b,M,11,N,L,y,g.drop A,O,by lia};lia
  .rw[Td A];refine Yo ?_;have aB:⇑b.zt - ⇑x.zt<=cls x:=by have:=g.less;lia
   have aO:(⇑b.zt - ⇑x.zt)*Ja x<=cls x*Ja x:=Sx _ aB;have z:=g.Ja;have aR:⇑d.dropLast=⇑M:=GJ L;have aM:⇑M+Ja x<=1000000:=by have:(cls x - cls b)*Ja x<=cls x*Ja x:=Sx _ (Nat.sub_le _ _);lia
   refine{0,.inl {13,Qk N},0,n,aj,0,o3,VP _,0,n,j,h,_,b,J,o,p,u,M,1,y,by rw[v];exact az,l3,g.inv,A,by rw[v];exact hS,by rw[z];exact hT,by have:=g.less;lia,by rw[z];lia,λU hi Q ar S G ao T Y4 D hl r4 p4=>?_};rw[v]at D;have w4:G e/.lst d.dropLast:=D.keep _ _ N wO;have aN:ar≠e:=λm=>by rw[m,N]at hl;cases hl
   have(j1,j2,j3,j4):=g.inv.less A ao T;have aQ:⇑S<=Ja x:=by rw[GJ p4,<-z];exact j3
   exists e,ar,d.dropLast,S,11,w4,r4,small (by lia);have aJ:Q6 H3 G:=λf xs c=>D.keep f _ c (by rw[<-v];exact y.qW c);have ae:Q6 G (zj G e (.lst (d.dropLast++S))):=Z2 λxs c=>by rw[w4]at c;cases c
   have Y5:Ym P w C (zj G e (.lst (d.dropLast++S))) n j h _ _:=Y4.keep (λf B c a=>by
    rw[Qh λm=>?_]
    .exact c
    .subst m;rcases a with a|a|a
     .have a:hX j b.S f:=a;rw[v]at a;exact wO a
     .exact wf a
     .exact wn a) ae
   have M5:=g.join A ao T;exists cls (Y1 (Yt h) (Zx h) b o p u U hi Q).1*(Ja x+1)+⇑(M++(Y1 (Yt h) (Zx h) b o p u U hi Q).2),?_,3201,Qb,Zs (Qr L λ_ _ l=>(l.Qv aJ).Qv ae) (Qr p4 λ_ _ l=>l.Qv ae),Y5.mono ?_,M5,{λf B c a=>?_,λf a=>?_}
   .rw[Gk,ap];have hj:cls (Y1 (Yt h) (Zx h) b o p u U hi Q).1+1<=cls b:=j1;have:=Sx (Ja x+1) hj;rw[SS,Bk]at this;rw[z]at j3;lia
   .rw[z,j4];have:=g.more;rw[show ⇑b.zt+1 - ⇑x.zt=(⇑b.zt - ⇑x.zt)+1 by lia,SS,Bk];lia
   .rw[Qh (Qe c t)];exact D.keep f B (O.keep f B c a) a
   .by_cases c:f=e
    .subst c;exact t
    .rw[Qh c]at a;exact O.there f (D.there f a)
   .rw[Gk];have h1:cls x - cls b+1<=cls x - cls (Y1 (Yt h) (Zx h) b o p u U hi Q).1:=by have:=g.less;have:=g.more;lia
    have:=Sx (Ja x) h1;rw[SS,Bk]at this;rw[z]at j3;lia
inductive uO(P:Gn)(w:Tf)(C:Ge)(vs:List V)(H:Hp)(Q:VK):Prop
 |mk (n:Ge) (dx:Ge) (f:Ge) (ws:List V) (fs:List Fm) (h0:vs=[↑n,↑f]) (h1:H n/.ins C dx []) (h2:H f/.lst ws) (h3:Df (Og H) ws fs) (h4:∀(A:Na)(H':Hp),A.f=f->Ym P w C H' n A fs 0 (fresh (Yt fs) (Zx fs) [])->(∀b o,H b/o->b≠n->H' b/o)->(∀b,hX A [] b->H b=Gq)->Q .non H'):uO P w C vs H Q
def A0(P:Gn)(w:Tf)(C:Ge):Sp:=λa H Q _=>uO P w C a H Q
theorem KF:Q7 ["self","forms"] ["self","forms"] (Qo nR):=by eq_refl
theorem VM{f0:Ge}(F:Wd K "__init__" "Net.__init__" nR f0 fd)(z:Jj K mg C):Q3 P w K mg base Ya 1 f0 fd ["self","forms"] (A0 P w C):=by
 refine F.ok KF (λvs y ap ao U=>?_) (λaD aC aE s y vs ap ao hr U=>?_)
 .obtain⟨n,e,o,ws,fs,rfl,_⟩:=U;rfl
 have(n,e,o,ws,fs,rfl,hn,hf,aA,q):=U;show∃t,Xu ?my _ t/\_;let aB:Vq ?my nR 3:={_,Qc (Xk {0} Jr Xb) (Qc (Xk (tv:=rb P w) {0} Rv Xb) (Qc (Xk {0} (Zu Qd) rfl) (Qc (Xk {0} nt Xb) (Qg (Xk {0} Jr Xb)))))}
 exists _,Qc (Xk {0} {1} rfl) (Qc (Xk {0} Jr Xb) (Qc (Xk {0} Jr Xb) aB.2));have h:∀{u:Hp}{a E:Ge}{b X:HO}{ab:List (TM×V)},u a/b->a≠n->u E=Gq->(zj (zj u E X) n (.ins C e ab)) a/b:=λd c ha=>by rw[Qh c,Qh (Qe d ha)];exact d
 have Y:∀{u:Hp}{E:Ge}{X:HO}{ab:List (TM×V)}{b:HO},u n/b->u E=Gq->(zj (zj u E X) n (.ins C e ab)) E/X:=λd ha=>by rw[Qh (Tb (Qe d ha)),Qb]
 exists 00,n,C,e,[],1,hn,z.cl,z.Qdj,(by show 0<1000;decide);have fn:o≠n:=Yr hf hn nofun;have g0:∀a b,y a/b->a≠n->(zj y n (.ins C e (Y0 "forms" ↑o []))) a/b:=λa b d c=>by rw[Qh c];exact d
 have n0:(zj y n (.ins C e (Y0 "forms" ↑o []))) n/.ins C e (Y0 "forms" ↑o []):=Qb;have t0:∀a,(zj y n (.ins C e (Y0 "forms" ↑o []))) a=Gq->y a=Gq:=λa c=>by
  by_cases d:a=n
  .subst d;rw[Qb]at c;cases c
  .rw[Qh d]at c;exact c
 generalize zj y n (.ins C e (Y0 "forms" ↑o []))=u at g0 n0 t0;have tt:∀{u:Hp}{E:Ge}{X:HO}{ab:List (TM×V)},(∀a,u a=Gq->y a=Gq)->∀a,(zj (zj u E X) n (.ins C e ab)) a=Gq->y a=Gq:=λU a c=>by
  refine U a ?_;by_cases d:a=n
  .subst d;rw[Qb]at c;cases c
  .rw[Qh d]at c
   rename_i u E X ab
   by_cases e2:a=E
   .subst e2;rw[Qb]at c;cases c
   .rw[Qh e2]at c;exact c
 intro g ae;exists 0,n,C,e,0,(by rw[Qh (Qe n0 ae)];exact n0),z.cl,z.Vv,(by show 1<1000;decide);have l1:=@Y u g (.dK []) (Y0 "leads" ↑g (Y0 "forms" ↑o [])) _ n0 ae;have n1:=@Qb (zj u g (.dK [])) n (.ins C e (Y0 "leads" ↑g (Y0 "forms" ↑o [])));have g1:∀a b,y a/b->a≠n->_:=λa b d c=>@h u a g b (.dK []) (Y0 "leads" ↑g (Y0 "forms" ↑o [])) (g0 a b d c) c ae;have t1:=@tt u g (.dK []) (Y0 "leads" ↑g (Y0 "forms" ↑o [])) t0;have ln:g≠n:=Tb (Qe n0 ae);have ar:=t0 _ ae;generalize zj (zj u g (.dK [])) n (.ins C e (Y0 "leads" ↑g (Y0 "forms" ↑o [])))=Z at l1 n1 g1 t1⊢;intro l W;exists 0,n,C,e,0,(by rw[Qh (Qe n1 W)];exact n1),z.cl,z.members,(by show 2<1000;decide);generalize ac:Y0 "members" ↑l (Y0 "leads" ↑g (Y0 "forms" ↑o []))=S;have m2:=@Y Z l (.dK []) S _ n1 W;have n2:=@Qb (zj Z l (.dK [])) n (.ins C e S);have g2:∀a b,y a/b->a≠n->_:=λa b d c=>@h Z a l b (.dK []) S (g1 a b d c) c W;have t2:=@tt Z l (.dK []) S t1;have mn:l≠n:=Tb (Qe n1 W);have aw:=t1 _ W;have l2:=@h Z g l _ (.dK []) S l1 ln W;have lm:g≠l:=Qe l1 W;generalize zj (zj Z l (.dK [])) n (.ins C e S)=T at m2 n2 g2 t2 l2⊢;intro m M;exists 0,n,C,e,0,(by rw[Qh (Qe n2 M)];exact n2),z.cl,z.Qgd,(by rw[<-ac];show 3<1000;decide);generalize ad:Y0 "users" ↑m S=N;have u3:=@Y T m (.dK []) N _ n2 M;have n3:=@Qb (zj T m (.dK [])) n (.ins C e N);have g3:∀a b,y a/b->a≠n->_:=λa b d c=>@h T a m b (.dK []) N (g2 a b d c) c M;have t3:=@tt T m (.dK []) N t2;have un:m≠n:=Tb (Qe n2 M);have ay:=t2 _ M;have l3:=@h T g m _ (.dK []) N l2 ln M;have m3:=@h T l m _ (.dK []) N m2 mn M;have lu:g≠m:=Qe l2 M;have mu:l≠m:=Qe m2 M;generalize zj (zj T m (.dK [])) n (.ins C e N)=O at u3 n3 g3 t3 l3 m3⊢;intro f Q;exists 0,n,C,e,0,(by rw[Qh (Qe n3 Q)];exact n3),z.cl,z.table,by rw[<-ad,<-ac];show 4<1000;decide,Ts _;generalize af:Y0 "table" ↑f N=H;have d4:=@Y O f (Uw P w f []) H _ n3 Q;have n4:=@Qb (zj O f (Uw P w f [])) n (.ins C e H);have g4:∀a b,y a/b->a≠n->_:=λa b d c=>@h O a f b (Uw P w f []) H (g3 a b d c) c Q;have t4:=@tt O f (Uw P w f []) H t3;have dn:f≠n:=Tb (Qe n3 Q);have ax:=t3 _ Q;have l4:=@h O g f _ (Uw P w f []) H l3 ln Q;have m4:=@h O l f _ (Uw P w f []) H m3 mn Q;have u4:=@h O m f _ (Uw P w f []) H u3 un Q;generalize zj (zj O f (Uw P w f [])) n (.ins C e H)=I at d4 n4 g4 t4 l4 m4 u4⊢;intro r L;exists 0,n,C,e,0,(by rw[Qh (Qe n4 L)];exact n4),z.cl,z.zt,(by rw[<-af,<-ad,<-ac];show 5<1000;decide);generalize ah:Y0 "links" ↑r H=B;have k5:=@Y I r (.lst []) B _ n4 L;have n5:=@Qb (zj I r (.lst [])) n (.ins C e B);have g5:∀a b,y a/b->a≠n->_:=λa b d c=>@h I a r b (.lst []) B (g4 a b d c) c L;have t5:=@tt I r (.lst []) B t4;have kn:r≠n:=Tb (Qe n4 L);have ag:=t4 _ L;have l5:=@h I g r _ (.lst []) B l4 ln L;have m5:=@h I l r _ (.lst []) B m4 mn L;have u5:=@h I m r _ (.lst []) B u4 un L;have d5:=@h I f r _ (.lst []) B d4 dn L;generalize zj (zj I r (.lst [])) n (.ins C e B)=D at k5 n5 g5 t5 l5 m5 u5 d5⊢;intro v G;exists 0,n,C,e,0,(by rw[Qh (Qe n5 G)];exact n5),z.cl,z.Qc5,(by rw[<-ah,<-af,<-ad,<-ac];show 6<1000;decide);generalize aj:Y0 "link_at" ↑v B=A;have a6:=@Y D v (.dT []) A _ n5 G;have n6:=@Qb (zj D v (.dT [])) n (.ins C e A);have g6:∀a b,y a/b->a≠n->_:=λa b d c=>@h D a v b (.dT []) A (g5 a b d c) c G;have t6:=@tt D v (.dT []) A t5;have an:v≠n:=Tb (Qe n5 G);have aq:=t5 _ G;have l6:=@h D g v _ (.dT []) A l5 ln G;have m6:=@h D l v _ (.dT []) A m5 mn G;have u6:=@h D m v _ (.dT []) A u5 un G;have d6:=@h D f v _ (.dT []) A d5 dn G;have k6:=@h D r v _ (.dT []) A k5 kn G;generalize zj (zj D v (.dT [])) n (.ins C e A)=H6 at a6 n6 g6 t6 l6 m6 u6 d6 k6⊢;intro J R;exists 0,n,C,e,0,(by rw[Qh (Qe n6 R)];exact n6),z.cl,z.above,(by rw[<-aj,<-ah,<-af,<-ad,<-ac];show 7<1000;decide);have az:Y0 "above" ↑J A=Xp {o,g,l,m,f,r,v,J,λ_=>0,λ_=>0}:=by rw[<-aj,<-ah,<-af,<-ad,<-ac];rfl
 rw[az];have v7:=@Y H6 J (.dK []) (Xp {o,g,l,m,f,r,v,J,λ_=>0,λ_=>0}) _ n6 R;have g7:∀a b,y a/b->a≠n->_:=λa b d c=>@h H6 a J b (.dK []) (Xp {o,g,l,m,f,r,v,J,λ_=>0,λ_=>0}) (g6 a b d c) c R;have s7:∀{a b},H6 a/b->a≠n->_:=λ{a b}d c=>@h H6 a J b (.dK []) (Xp {o,g,l,m,f,r,v,J,λ_=>0,λ_=>0}) d c R;refine q {o,g,l,m,f,r,v,J,λ_=>0,λ_=>0} _ rfl ⟨⟨e,Qb⟩,{ws,g7 _ _ hf fn,Qr aA λ_ _ U=>U.Qv λa xs d=>g7 a _ d (Yr d hn nofun)},s7 l6 ln,s7 m6 mn,s7 u6 un,{[],{s7 d6 dn,(λp x=>nomatch x)},Gz _,λk=>rfl},{[],s7 k6 kn,.nil},{[],s7 a6 an,Gz _,λi j=>rfl},v7,(λp x=>nomatch x),(λp x=>nomatch x),
  {lm,lu,Qe l6 R,mu,Qe m6 R,Qe u6 R,λai=>?_,(λp x=>nomatch x),(λp x=>nomatch x),(λp x=>nomatch x),(λp x=>nomatch x),(λp x=>nomatch x)}⟩ g7 (λa c=>?_)
 .have ai:r=o:=ai;rw[ai,hf]at ag;cases ag
 .rcases c with rfl|rfl|rfl|rfl|rfl|rfl|rfl|⟨p,x,_⟩
  .exact ar
  .exact aw
  .exact ay
  .exact ax
  .exact ag
  .exact aq
  .exact t6 _ R
  .exact nomatch x
end
end K06
namespace Nt
theorem uw{a:Nat->List Nat}{M:Nat}(h:∀p,⇑(a p)<=M):∀(S:List Nat)(q:Nat),⇑(Xm a S q)<=⇑S*M
 |[],q=>by simp[Xm]
 |p::S,q=>by have b:=uw h S q;have c:((a p).count q)<=⇑(a p):=Nx;have d:=h p;unfold Xm at b⊢;rw[Ms,Gk,Sk,TQ,SS];lia
theorem KL{a:Nat->List Nat}{S:List Nat}{p:Nat}(h:∀q∈S,p∉a q):Xm a S p=[]:=by unfold Xm;rw[List.flatMap_eq_nil_iff];intro q b;have:(a q).count p=0:=List.count_eq_zero.mpr (h q b);rw[this];rfl
theorem UI{l:List Nat}{i u q:Nat}(h:l[i]?/u):(l.take (i+1)).count q=(l.take i).count q+if u=q then 1 else 0:=by
 rw[TD,h,List.count_append];congr 1;simp only[Option.toList];rw[List.count_singleton];by_cases e:u=q
 .rw[GX e];simp[e]
 .rw[Gs e];simp[e]
end Nt
namespace K06
open PySem L2 Sb Nt
variable{A:Na}{S:List Nat}{H:Hp}{C:Ge}
structure oO(fs:List Fm)(rk:Nat->Nat):Prop where
 str:∀p,DM (Yt fs p)=Gi
 few:∀p,⇑(Zx fs p)<=100
 pts:∀p,p<⇑fs->∀q∈Zx fs p,q<⇑fs/\rk q<rk p
 inj:∀p q,p<⇑fs->q<⇑fs->Yt fs p=Yt fs q->Zx fs p=Zx fs q->p=q
 len:⇑fs<=1000
structure Frs(P:Gn)(w:Tf)(C:Ge)(H:Hp)(n:Ge)(A:Na)(fs:List Fm)(S:List Nat):Prop where
 at_:Ym P w C H n A fs ⇑S (fresh (Yt fs) (Zx fs) S)
 nd:S.Nodup
 cl:∀p∈S,∀q∈Zx fs p,q∈S
 lt:∀p∈S,p<⇑fs
structure iE(A:Na)(S:List Nat)(A':Na)(S':List Nat)(H H':Hp):Prop where
 keep:∀b o,H b/o->¬hX A S b->H' b/o
 own:∀b,hX A' S' b->hX A S b\/H b=Gq
 there:∀b,H' b=Gq->H b=Gq
theorem iE.refl:iE A S A S H H:={λ_ _ e _=>e,λ_ h=>.inl h,λ_ h=>h}
theorem iE.trans{a c:Na}{g i:List Nat}{d f:Hp}(x:iE A S a g H d)(y:iE a g c i d f):iE A S c i H f:=by
 refine{λb o e h=>y.keep b o (x.keep b o e h) λz=>?_,λb h=>?_,λb h=>x.there b (y.there b h)}
 .rcases x.own b z with z|z
  .exact h z
  .rw[e]at z;cases z
 .rcases y.own b h with h|h
  .exact x.own b h
  .exact .inr (x.there b h)
def na(A:Na)(ml ul:Nat->Ge):Na:={A with ml:=ml,ul:=ul}
inductive zp(P:Gn)(w:Tf)(C:Ge)(k:Nat)(vs:List V)(H:Hp)(Q:VK):Prop
 |mk (n:Ge) (A:Na) (fs:List Fm) (rk:Nat->Nat) (S:List Nat) (p:Nat) (h0:vs=[↑n,jv p]) (h1:Frs P w C H n A fs S) (h2:oO fs rk) (h3:p<⇑fs) (h4:rk p<k) (h5:∀(S':List Nat)(ml ul:Nat->Ge)(H':Hp),Frs P w C H' n (na A ml ul) fs S'->(∀q∈S,q∈S')->p∈S'->(∀q∈S',q∈S\/rk q<=rk p)->iE A S (na A ml ul) S' H H'->Q .non H'):zp P w C k vs H Q
def j5(P:Gn)(w:Tf)(C:Ge)(k:Nat):Sp:=λa H Q _=>zp P w C k a H Q
section
variable{P:Gn}{w:Tf}{K:Gd}{mg:TM->Option Gj}{base:Heap}
theorem wF:Q7 ["self","place","part"] ["self","place"] (Qo Ie):=by eq_refl
theorem OR{P:Gn}{w:Tf}{n:Ge}{g:List Fm}{p:Nat}{m0 u0:Ge}(X:Ym P w C H n A g ⇑S (fresh (Yt g) (Zx g) S))(hp:p∉S)(hm:H m0=Gq)(hu:H u0=Gq)(t:m0≠u0)(x:Xm (Zx g) S p=[]):
  Ym P w C (zj (zj (zj (zj (zj (zj H A.l (.dK (dS (S++[p]) λq=>jv q))) m0 (.lst [jv p])) A.m (.dK (dS (S++[p]) λq=>.ref (if q=p then m0 else A.ml q)))) u0 (.lst [])) A.u (.dK (dS (S++[p]) λq=>.ref (if q=p then u0 else A.ul q)))) A.v (.dK (dS (S++[p]) λ_=>.non)))
   n (na A (λq=>if q=p then m0 else A.ml q) (λq=>if q=p then u0 else A.ul q)) g ⇑S {fresh (Yt g) (Zx g) (S++[p])with Xv:=Xm (Zx g) S,tab:=jf (Yt g) (Zx g) S}:=by
 have(V,o1):=X.ob;have(ws,B,W):=X.fo;have(i,D,T,U):=X.ta;have(ls,E,l2):=X.li;have(kv,Q,R):=X.at_;have j:∀{b o},H b/o->b≠m0:=λe=>Qe e hm;have k:∀{b o},H b/o->b≠u0:=λe=>Qe e hu;have u:∀{b o},H b/o->b≠A.l->b≠A.m->b≠A.u->b≠A.v->(zj (zj (zj (zj (zj (zj H A.l (.dK (dS (S++[p]) λq=>jv q))) m0 (.lst [jv p])) A.m (.dK (dS (S++[p]) λq=>.ref (if q=p then m0 else A.ml q)))) u0 (.lst [])) A.u (.dK (dS (S++[p]) λq=>.ref (if q=p then u0 else A.ul q)))) A.v (.dK (dS (S++[p]) λ_=>.non))) b/o:=λe m s Y Z=>by rw[Qh Z,Qh Y,Qh (k e),Qh s,Qh (j e),Qh m];exact e
 have y:∀{b o},H b/o->(∀i,o≠.dK i)->b≠A.l/\b≠A.m/\b≠A.u/\b≠A.v:=λe h=>{Yr e X.le (h _),Yr e X.me (h _),Yr e X.us (h _),Yr e X.ab (h _)};have l:∀{b o},H b/o->(∀i,o≠.dK i)->_:=λ{b o}e h=>u e (y e h).1 (y e h).2.1 (y e h).2.2.1 (y e h).2.2.2;have K:Q6 H _:=λb xs e=>l e (λ_ z=>nomatch z);have F:=j X.le;have I:=j X.me;have L:=j X.us;have N:=j X.ab;have G:=k X.le;have J:=k X.me;have M:=k X.us;have O:=k X.ab;have f:∀q∈S,q≠p:=λq a z=>hp (z▸a);refine{{V,l o1 (λ_ z=>nomatch z)},{ws,l B (λ_ z=>nomatch z),Qr W λ_ _ h=>h.Qv K},?_,?_,?_,{i,{l D.at_ (λ_ z=>nomatch z),Zq K D.keys},T,U},{ls,l E (λ_ z=>nomatch z),Qr l2 λ_ _ h=>h.Qv K},{kv,l Q (λ_ z=>nomatch z),R},Qb,λq a=>?_,λq a=>?_,{X.ap.lm,X.ap.lu,X.ap.lv,X.ap.mu,X.ap.mv,X.ap.uv,X.ap.kf,λq a r v=>?_,λq a r v=>?_,λq a r v=>?_,λq a=>?_,λq a=>?_}}
 .show(zj _ A.v _) A.l/HO.dK (dS (S++[p]) λq=>jv q);rw[Qh X.ap.lv,Qh X.ap.lu,Qh G,Qh X.ap.lm,Qh F,Qb]
 .show(zj _ A.v _) A.m/HO.dK (dS (S++[p]) λq=>.ref (if q=p then m0 else A.ml q));rw[Qh X.ap.mv,Qh X.ap.mu,Qh J,Qb]
 .show(zj _ A.v _) A.u/HO.dK (dS (S++[p]) λq=>.ref (if q=p then u0 else A.ul q));rw[Qh X.ap.uv,Qb]
 .show(zj _ A.v _) (if q=p then m0 else A.ml q)/.lst [jv q];rcases Gh.mp a with a|a
  .rw[Gs (f q a)];exact l (X.ml q a) (λ_ z=>nomatch z)
  .have:q=p:=by simpa using a
   subst this;rw[GX Xb,Qh (Tb N),Qh (Tb L),Qh t,Qh (Tb I),Qb]
 .show(zj _ A.v _) (if q=p then u0 else A.ul q)/.lst ((Xm (Zx g) S q).map jv);rcases Gh.mp a with a|a
  .rw[Gs (f q a)];exact l (X.ul q a) (λ_ z=>nomatch z)
  .have:q=p:=by simpa using a
   subst this;rw[GX Xb,x,Qh (Tb O),Qh (Tb M),Qb];rfl
 .show(if q=p then m0 else A.ml q)=(if r=p then m0 else A.ml r)->q=r;rcases Gh.mp a with c|c<;>rcases Gh.mp v with d|d
  .rw[Gs (f q c),Gs (f r d)];exact X.ap.mm q c r d
  .have:r=p:=by simpa using d
   subst this;rw[Gs (f q c),GX rfl];intro z;exact absurd z (j (X.ml q c))
  .have:q=p:=by simpa using c
   subst this;rw[Gs (f r d),GX rfl];intro z;exact absurd z.symm (j (X.ml r d))
  .intro _;have m:q=p:=by simpa using c
   have s:r=p:=by simpa using d
   rw[m,s]
 .show(if q=p then u0 else A.ul q)=(if r=p then u0 else A.ul r)->q=r;rcases Gh.mp a with c|c<;>rcases Gh.mp v with d|d
  .rw[Gs (f q c),Gs (f r d)];exact X.ap.uu q c r d
  .have:r=p:=by simpa using d
   subst this;rw[Gs (f q c),GX rfl];intro z;exact absurd z (k (X.ul q c))
  .have:q=p:=by simpa using c
   subst this;rw[Gs (f r d),GX rfl];intro z;exact absurd z.symm (k (X.ul r d))
  .intro _;have m:q=p:=by simpa using c
   have s:r=p:=by simpa using d
   rw[m,s]
 .show(if q=p then m0 else A.ml q)≠(if r=p then u0 else A.ul r);rcases Gh.mp a with c|c<;>rcases Gh.mp v with d|d
  .rw[Gs (f q c),Gs (f r d)];exact X.ap.mul q c r d
  .have:r=p:=by simpa using d
   subst this;rw[Gs (f q c),GX rfl];exact k (X.ml q c)
  .have:q=p:=by simpa using c
   subst this;rw[Gs (f r d),GX rfl];exact Tb (j (X.ul r d))
  .have m:q=p:=by simpa using c
   have s:r=p:=by simpa using d
   rw[GX m,GX s];exact t
 .show(if q=p then m0 else A.ml q)≠A.k/\(if q=p then m0 else A.ml q)≠A.f;rcases Gh.mp a with a|a
  .rw[Gs (f q a)];exact X.ap.mkf q a
  .have:q=p:=by simpa using a
   rw[GX this];exact{Tb (j E),Tb (j B)}
 .show(if q=p then u0 else A.ul q)≠A.k/\(if q=p then u0 else A.ul q)≠A.f;rcases Gh.mp a with a|a
  .rw[Gs (f q a)];exact X.ap.ukf q a
  .have:q=p:=by simpa using a
   rw[GX this];exact{Tb (k E),Tb (k B)}
theorem Yg{b c:Ge}{o:HO}(h:zj H b o c=Gq):H c=Gq:=by
 by_cases e:c=b
 .subst e;rw[Qb]at h;cases h
 .rw[Qh e]at h;exact h
theorem Ql{b c:Ge}{o u:HO}(e:H c/u)(h:c≠b):zj H b o c/u:=by rw[Qh h];exact e
theorem Qzr{k:Nat}{ae fK:Ge}{fd au:Dn}(F:Wd K "take_in" "Net.take_in" Ie ae fd)(m:Jj K mg C)(mT:Yp K C "take_in" ae)(bT:zk K fd ["self","place"] [])(aC:Q3 P w K mg base Ya (k+1) ae fd ["self","place"] (j5 P w C k))
  (mK:Yp K C "key_of" fK)(GK:Q3 P w K mg base Ya 1 fK au ["self","place"] (nO P w C))(bK:zk K au ["self","place"] []):Q3 P w K mg base Ya (k+2) ae fd ["self","place"] (j5 P w C (k+1)):=by
 refine F.ok wF (λR Z N r b=>?_) (λap e aq s Z R N r l b=>?_)
 .obtain⟨n,e,d,rk,S,p,rfl,_⟩:=b;rfl
 have(n,e,d,rk,S,p,rfl,X,Q,J,hk,q):=b;have D:=Ju l;have aO:=l.units;have aN:Yj 1 _:=l.mono ∅;have nd:=wF.nd;show∃t,Xu ?my _ t/\_;let a1:Vq ?my Ie 6:={_,Qc (Yb Tj rfl (Uy (Qn Qs (Qn Ze (Qx {0}) {1}) Qi)) (Z7 2 nd) (Qg (Zn (X0 Te Tv Tz Z4 (Yc D (Qx {0}) {2} (λ_ _=>rfl)) (Qa {1} Qd))))) (Qg (Rw {1} (jY (Qx {0}) (Zm {0} m.cl mK GK aN bK .nil Q5 (Qa {1} Qd)) (jZ aO))))}
 let a2:Vq ?my Ie 3:={_,Qc (Vl D (Qx {0}) {1} (Zu (Qa {1} Qd)) rfl) (Qc (Vl D (Qx {0}) {1} (Zu Qd) rfl) (Qc (Vl D (Qx {0}) {1} U9 Xb) a1.2))}
 let a3:Vq ?my Ie 1:={_,Qc (Yb Tj rfl (Uy (Qn Qs (Qn Ze (Qx {0}) {1}) Qi)) (Z7 2 nd) (Qg (Zn (Zm {0} m.cl mT aC l bT .nil Q5 (Qa {2} Qd))))) (Qc (Vl D (Qx {0}) {1} {1} rfl) a2.2)}
 exists _,Qc (Zc (Oz (rW D {1} (Qx {0}))) (Qg Qz7) Qw) a3.2;have(dx,o1):=X.at_.ob;have bb:⇑S<=⇑d:=Xw (S:=EM ⇑d) X.nd (λa l=>Se.mpr (X.lt a l))|>λb=>by rw[E1]at b;exact b
 have a9:=Q.len;have gl:Vr Z e.l (jv p) (Xo (dS S λa=>jv a) (ki p)):=Vr.k (k:=ki p) X.at_.le;exists 00,n,C,dx,30,o1,m.cl,m.Vv,Xf _,e.l,0,gl,0;rw[yL];by_cases af:p∈S
 .rw[Tg af];refine Yo ?_;exact q S e.ml e.ul Z X (λ_ b=>b) af (λa b=>.inl b) iE.refl
 rw[Td af];refine Q4 ?_;ac_nf;have(ws,f1,f2):=X.at_.fo;have hw:p<⇑ws:=by rw[GJ f2];exact J
 have(y,hy,aE,A,ec,E,z):=Qy f2 (Gf hw);intros;rw[ku J]at hy;cases hy;have a8:=Q.few p;let aV:Nat->St->Hp->Prop:=λi G v=>iy λ(x2:Option V)(c:List Nat)(x o:Nat->Ge)=>mj (G=[Ga ↑n,Ga (jv p),x2]) (Frs P w C v n (na e x o) d c) (∀a∈S,a∈c) (∀a∈(Zx d p).take i,a∈c) (∀a∈c,a∈S\/rk a<rk p) (iE e S (na e x o) c Z v)
 refine⟨_,Xb,n,C,dx,_,_,Xb,o1,m.cl,m.Qdj,Jt _,_,Xb,e.f,ws,_,_,Xb,Xb,Qk f1,Zk (Gf hw),aE,_,_,_,ec,Xb,Qj E,Re _ _ _,A,Xb,{_,Qj z},qg (K:=K) (a:=A) (xs:=(Zx d p).map jv)
  aV
  {_,S,e.ml,e.ul,1,X,λ_ b=>b,by simp,λa b=>.inl b,iE.refl} (by rintro i G v _ ⟨_,_,_,_,_,_,_,_,_,Y⟩;exact Qj (Y.keep _ _ z (X.at_.qW z))) ?_ ?_⟩
 .rintro i y G v hi ⟨x2,c,x,o,rfl,h,sub,done,ah,Y⟩;rw[Tq]at hi;cases eq:(Zx d p)[i]? with
  |none=>rw[eq]at hi;cases hi
  |some a=>
   rw[eq]at hi;cases hi;have(rl,rr):=Q.pts p J a (Gc eq);have(I,L):=h.at_.ob;refine{0,n,I,0,L,pD _,0,n,na e x o,d,rk,c,a,1,h,Q,rl,by ext,λR ai ak H3 X3 r r3 aj N=>?_};refine{_,R,ai,ak,1,X3,λt ht=>r t (sub t ht),λt ht=>?_,λt ht=>?_,Y.trans N}
   .rw[TD,eq]at ht;rcases Gh.mp ht with ht|ht
    .exact r t (done t ht)
    .have:t=a:=by simpa using ht
     rw[this];exact r3
   .rcases aj t ht with b|b
    .exact ah t b
    .exact .inr ∅
 rintro G v ⟨x2,c,x,o,rfl,h,sub,done,ah,Y⟩;rw[Gv,Tw]at done;have M:p∉c:=λf=>by
  rcases ah p f with b|b
  .exact af b
  .ext
 have ba:⇑c<=1000:=by have:=Xw (S:=EM ⇑d) h.nd (λa l=>Se.mpr (h.lt a l));rw[E1]at this;ext
 have aM:Xm (Zx d) c p=[]:=KL λa l f=>M (h.cl a l p f);have(I,L):=h.at_.ob;have aL:⇑(dS c λa=>jv a)<TF:=by rw[V0,TH];ext
 have aP:v e.l/.dK (dS c λa=>jv a):=h.at_.le;have aQ:v e.m/.dK (dS c λa=>.ref (x a)):=h.at_.me;have aZ:v e.u/.dK (dS c λa=>.ref (o a)):=h.at_.us;have aD:v e.v/.dK (dS c λ_=>.non):=h.at_.ab;have k1:=Oh.k (k:=ki p) (v:=jv p) aP aL;rw[jO M]at k1;have e1:(dS (c++[p]) λa=>if a=p then jv p else jv a)=dS (c++[p]) λa=>jv a:=Vc λa _=>by
  by_cases b:a=p
  .rw[GX b,b]
  .rw[Gs b]
 rw[e1]at k1;exists 00,n,C,I,30,L,m.cl,m.Vv,Xf _,0,e.l,0,k1;have nl:n≠e.l:=Yr L h.at_.le nofun;have o3:(zj v e.l (.dK (dS (c++[p]) λa=>jv a))) n/.ins C I (Xp e):=by rw[Qh nl];exact L
 refine{0,Wx,λm0 aa=>?_};have s3:=Qf aa (.lst [jv p]);have ao:v m0=Gq:=by
  by_cases b:m0=e.l
  .subst b;rw[Qb]at aa;cases aa
  .rw[Qh b]at aa;exact aa
 have aR:(zj v e.l (.dK (dS (c++[p]) λa=>jv a))) e.m/.dK (dS c λa=>.ref (x a)):=Ql aQ (Tb h.at_.ap.lm);have k2:=Oh.k (k:=ki p) (v:=↑m0) (s3 _ _ aR) (by rw[V0,TH];ext);rw[jO M]at k2;have e2:(dS (c++[p]) λa=>if a=p then V.ref m0 else .ref (x a))=dS (c++[p]) λa=>.ref (if a=p then m0 else x a):=Vc λa _=>by split<;>rfl
 rw[e2]at k2;exists 0,n,C,I,30,s3 _ _ o3,m.cl,m.members,Vz _,0,e.m,0,k2;have aT:n≠e.m:=Yr L h.at_.me nofun;generalize am:zj (zj (zj v e.l (.dK (dS (c++[p]) λa=>jv a))) m0 (.lst [jv p])) e.m (.dK (dS (c++[p]) λa=>.ref (if a=p then m0 else x a)))=O;have cA:∀{j ac},v j/ac->j≠e.l->j≠e.m->O j/ac:=λA E z=>by rw[<-am,Qh z,Qh (Qe A ao),Qh E];exact A
 have cN:∀{j},O j=Gq->v j=Gq/\j≠m0:=λ{j}b=>by
  rw[<-am]at b;by_cases E:j=e.m
  .subst E;rw[Qb]at b;cases b
  .rw[Qh E]at b;by_cases z:j=m0
   .subst z;rw[Qb]at b;cases b
   .rw[Qh z]at b;by_cases r:j=e.l
    .subst r;rw[Qb]at b;cases b
    .rw[Qh r]at b;exact⟨b,z⟩
 have o4:=cA L nl aT;refine{Ts _,λu0 aw=>?_};have(aA,aX):=cN aw;have U:=Qf aw (.lst []);have aY:=cA aZ (Tb h.at_.ap.lu) (Tb h.at_.ap.mu);have k3:=Oh.k (k:=ki p) (v:=↑u0) (U _ _ aY) (by rw[V0,TH];ext);rw[jO M]at k3;have e3:(dS (c++[p]) λa=>if a=p then V.ref u0 else .ref (o a))=dS (c++[p]) λa=>.ref (if a=p then u0 else o a):=Vc λa _=>by split<;>rfl
 rw[e3]at k3;exists 0,n,C,I,30,U _ _ o4,m.cl,m.Qgd,Rz _,0,e.u,0,k3;have nu:n≠e.u:=Yr L h.at_.us nofun;have o5:(zj (zj O u0 (.lst [])) e.u (.dK (dS (c++[p]) λa=>.ref (if a=p then u0 else o a)))) n/.ins C I (Xp e):=by rw[Qh nu];exact U _ _ o4
 have a0:(zj (zj O u0 (.lst [])) e.u (.dK (dS (c++[p]) λa=>.ref (if a=p then u0 else o a)))) e.v/.dK (dS c λ_=>.non):=by exact Ql (U _ _ (cA aD (Tb h.at_.ap.lv) (Tb h.at_.ap.mv))) (Tb h.at_.ap.uv)
 have k4:=Oh.k (k:=ki p) (v:=.non) a0 (by rw[V0,TH];ext);rw[jO M]at k4;have e4:(dS (c++[p]) λa=>if a=p then V.non else .non)=dS (c++[p]) λ_=>.non:=Vc λa _=>by split<;>rfl
 rw[e4]at k4;exists 0,n,C,I,30,o5,m.cl,m.above,oD _,0,e.v,0,k4;have H:=OR (m0:=m0) (u0:=u0) h.at_ M ao aA (Tb aX) aM;have FY:iE (na e x o) c (na e (λa=>if a=p then m0 else x a) (λa=>if a=p then u0 else o a)) (c++[p]) v (zj (zj (zj O u0 (.lst [])) e.u (.dK (dS (c++[p]) λa=>.ref (if a=p then u0 else o a)))) e.v (.dK (dS (c++[p]) λ_=>.non))):=by
  refine{λj ac A g=>?_,λj g=>?_,λj g=>?_}
  .rw[Qh (λf=>g (by rw[f];exact .inr (.inr (.inr (.inr (.inr (.inr (.inl Xb)))))))),Qh (λf=>g (by rw[f];exact .inr (.inr (.inl Xb))))];exact U _ _ (cA A (λf=>g (by rw[f];exact .inl Xb)) (λf=>g (by rw[f];exact .inr (.inl Xb))))
  .rcases g with b|b|b|b|b|b|b|⟨a,R,b⟩
   .exact .inl (.inl b)
   .exact .inl (.inr (.inl b))
   .exact .inl (.inr (.inr (.inl b)))
   .exact .inl (.inr (.inr (.inr (.inl b))))
   .exact .inl (.inr (.inr (.inr (.inr (.inl b)))))
   .exact .inl (.inr (.inr (.inr (.inr (.inr (.inl b))))))
   .exact .inl (.inr (.inr (.inr (.inr (.inr (.inr (.inl b)))))))
   .have b:j=(if a=p then m0 else x a)\/j=(if a=p then u0 else o a):=b;by_cases r:a=p
    .rw[GX r,GX r]at b;rcases b with b|b
     .rw[b];exact .inr ao
     .rw[b];exact .inr aA
    .rw[Gs r,Gs r]at b;have N:a∈c:=by
      rcases Gh.mp R with f|f
      .exact f
      .exact absurd (by simpa using f) r
     exact .inl (.inr (.inr (.inr (.inr (.inr (.inr (.inr ⟨a,N,b⟩)))))))
  .by_cases E:j=e.v
   .subst E;rw[Qb]at g;cases g
   .rw[Qh E]at g;by_cases z:j=e.u
    .subst z;rw[Qb]at g;cases g
    .rw[Qh z]at g;exact(cN (U.free g)).1
 have H:Ym P w C (zj (zj (zj O u0 (.lst [])) e.u (.dK (dS (c++[p]) λa=>.ref (if a=p then u0 else o a)))) e.v (.dK (dS (c++[p]) λ_=>.non))) n (na e (λa=>if a=p then m0 else x a) (λa=>if a=p then u0 else o a)) d ⇑c {fresh (Yt d) (Zx d) (c++[p])with Xv:=Xm (Zx d) c,tab:=jf (Yt d) (Zx d) c}:=by rw[<-am];exact H
 generalize zj (zj (zj O u0 (.lst [])) e.u (.dK (dS (c++[p]) λa=>.ref (if a=p then u0 else o a)))) e.v (.dK (dS (c++[p]) λ_=>.non))=H4 at H FY⊢;generalize (λa=>if a=p then m0 else x a)=ab at H FY;generalize (λa=>if a=p then u0 else o a)=W at H FY;have F4:=Y.trans FY;ac_nf;have(aG,aU):=H.ob;have(aB,aI,ar):=H.fo;have ax:p<⇑aB:=by rw[GJ ar];exact J
 have(y4,ay,c4,al,aH,aK,av):=Qy ar (Gf ax);intros;rw[ku J]at ay;cases ay;let aW:Nat->St->Hp->Prop:=λi G T=>jA λ(x2:Option V)=>jK (G=[Ga ↑n,Ga (jv p),x2]) (Ym P w C T n (na e ab W) d ⇑c {fresh (Yt d) (Zx d) (c++[p])with Xv:=(λa=>Xm (Zx d) c a++DV (((Zx d p).take i).count a) p),tab:=jf (Yt d) (Zx d) c}) (iE e S (na e ab W) (c++[p]) Z T) (T al/.tup ((Zx d p).map jv))
 refine⟨_,Xb,n,C,aG,_,_,Xb,aU,m.cl,m.Qdj,Jt _,_,Xb,e.f,aB,_,_,Xb,Xb,Qk aI,Zk (Gf ax),c4,_,_,_,aH,Xb,Qj aK,Re _ _ _,al,Xb,{_,Qj av},qg (K:=K) (a:=al) (xs:=(Zx d p).map jv)
  aW
  {0,?_,F4,av} (by rintro i G T _ ⟨_,_,_,_,b⟩;exact Qj b) ?_ ?_⟩
 .have:(λa=>Xm (Zx d) c a++DV (((Zx d p).take 0).count a) p)=Xm (Zx d) c:=by funext a;simp
  rw[this];exact H
 .rintro i y G T hi ⟨x5,rfl,B,F5,h5⟩;rw[Tq]at hi;cases eq:(Zx d p)[i]? with
  |none=>rw[eq]at hi;cases hi
  |some a=>
   rw[eq]at hi;cases hi;have N:a∈c++[p]:=Gu _ (done a (Gc eq));have R:=B.ul a N;have(ad,ag):=B.ob;have a5:=uw Q.few c a;have a4:((Zx d p).take i).count a<=100:=Dl Nx (by rw[Db];ext);exists 0,n,C,ad,30,ag,m.cl,m.Qgd,Rz _,0,e.u,0,Xx B.us N,.inl {13,Qk R},0201,R,?_
   .rw[Gv,TH];show ⇑(Xm (Zx d) c a++DV (((Zx d p).take i).count a) p)<_;rw[Gk,Sk];ext
   .have Y6:=B.zC N (Xm (Zx d) c a++DV (((Zx d p).take i).count a) p++[p]);have eH:(HO.lst ((Xm (Zx d) c a++DV (((Zx d p).take i).count a) p++[p]).map jv))=.lst ((Xm (Zx d) c a++DV (((Zx d p).take i).count a) p).map jv++[jv p]):=by rw[TZ];rfl
    rw[eH]at Y6;have oR:hX (na e ab W) (c++[p]) (W a):=.inr (.inr (.inr (.inr (.inr (.inr (.inr {a,N,.inr Xb}))))));have eU:(λr=>if r=a then Xm (Zx d) c a++DV (((Zx d p).take i).count a) p++[p]else Xm (Zx d) c r++DV (((Zx d p).take i).count r) p)=λr=>Xm (Zx d) c r++DV (((Zx d p).take (i+1)).count r) p:=by
     funext r
     rw[UI eq];by_cases b:r=a
     .rw[GX b,GX b.symm,b,List.replicate_succ',Dq]
     .rw[Gs b,Gs (Tb b),RJ]
    exists 0,?_,F5.trans {λj ac A g=>?_,λj g=>.inl g,λj g=>?_}
    .rw[<-eU];exact Y6
    .exact Ql A (λf=>g (by rw[f];exact oR))
    .exact Yg g
    .exact Ql h5 (Yr h5 R nofun)
 rintro G T ⟨x5,rfl,B,F5,h5⟩;rw[Gv,Tw]at B;have eU:(λa=>Xm (Zx d) c a++DV ((Zx d p).count a) p)=Xm (Zx d) (c++[p]):=by
  funext a
  rw[Qvu]
 rw[eU]at B;have(ad,ag):=B.ob;have az:∀a∈Zx d p,a∈c++[p]:=λa l=>Gu _ (done a l);refine{00,n,C,ad,30,ag,m.cl,m.table,yH _,0,n,ad,0,ag,pb _,0,n,na e ab W,d,2,p,1,B,J,az,by ext,λc6 H6 g6 a6 aJ=>?_};have Y6:=B.same g6;have(an,D6,a7,aF):=Y6.ta;have kc:=aJ.key (Q.str p);exists e.t,c6,_,an,11,D6,kc,(by rw[TH];ext);have aS:∀a∈c,Zv (Yt d) (Zx d) id a≠Zv (Yt d) (Zx d) id p:=λa l f=>by simp only[Zv,Ft,Es]at f;exact M (Q.inj a p (h.lt a l) J f.1 f.2▸l)
 have Y7:=Y6.tm (kvs':=Vo an (Xn (Zv (Yt d) (Zx d) id p)) c6 (jv p)) D6 (by have:=nH an (Xn (Zv (Yt d) (Zx d) id p)) c6 (jv p);ext) (D6.keys.put kc) (t':=jf (Yt d) (Zx d) (c++[p])) (λr=>by
  rw[Ia,OY _ _ aS];by_cases b:r=Zv (Yt d) (Zx d) id p
  .rw[GX (by rw[b]),GX b];rfl
  .rw[Gs (λf=>b (Js f)),Gs b];exact aF r)
 refine q (c++[p]) ab W _ {?_,?_,λa l=>?_,λa l=>?_} (λa l=>Gu _ (sub a l)) ⋯ (λa l=>?_) (F5.trans {λj ac A g=>?_,λj g=>.inl ?_,λj g=>?_})
 .rw[Gk,GQ];exact Y7
 .rw[DP];refine{h.nd,by simp,λa l u D=>?_};have:u=p:=by simpa using D
  rw[this];exactλf=>M (f▸l)
 .rcases Gh.mp l with b|b
  .exactλu D=>Gu _ (h.cl a b u D)
  .have:a=p:=by simpa using b
   subst this;exact az
 .rcases Gh.mp l with b|b
  .exact h.lt a b
  .have:a=p:=by simpa using b
   subst this;exact J
 .rcases Gh.mp l with b|b
  .rcases ah a b with b|b
   .exact .inl b
   .exact .inr ∅
  .have:a=p:=by simpa using b
   subst this;exact .inr (Gz _)
 .exact Ql (g6 _ _ A) (λf=>g (by rw[f];exact .inr (.inr (.inr (.inl Xb)))))
 .exact g
 .exact g6.free (Yg g)
theorem ZP{f:Ge}{e:Dn}:Q3 P w K mg base Ya 1 f e ["self","place"] (j5 P w C 0):=by
 have d:∀a H Q E,¬j5 P w C 0 a H Q E:=λa H Q E h=>by have(n,A,g,j,S,p,_,_,_,_,i,_):=h;lia
 exact{λa H Q E h=>absurd h (d a H Q E),λA b s H c k a Q E _ _ _ _ h=>absurd h (d a H Q E)}
theorem sH{f g C:Ge}{b a:Dn}(F:Wd K "take_in" "Net.take_in" Ie f b)(T:Jj K mg C)(i:Yp K C "take_in" f)(e:zk K b ["self","place"] [])
  (h:Yp K C "key_of" g)(c:Q3 P w K mg base Ya 1 g a ["self","place"] (nO P w C))(d:zk K a ["self","place"] []):∀k:Nat,Q3 P w K mg base Ya (k+1) f b ["self","place"] (j5 P w C k)
 |0=>ZP
 |k+1=>Qzr F T i e (sH F T i e h c d k) h c d
end
end K06
namespace Nt
theorem vW{l:List Nat}:∀{S:List Nat},S.Nodup->(S.map λq=>l.count q).sum<=⇑l
 |[],_=>by simp
 |q::S,b=>by
  rw[Du]at b;have d:=vW (l:=l.filter (λz=>z !=q)) b.2;have e:(S.map λr=>(l.filter (λz=>z !=q)).count r)=S.map λr=>l.count r:=TY λr c=>by rw[List.count_filter];simp only[bne_iff_ne,ne_eq];intro z;exact b.1 (z▸c)
  rw[e]at d;have g:⇑(l.filter (λz=>z !=q))+l.count q=⇑l:=by
   have:=List.length_eq_countP_add_countP (λz=>z !=q) (l:=l);rw[<-List.countP_eq_length_filter];have f:l.countP (λa=>¬(a !=q)=Gi)=l.count q:=by unfold List.count;refine List.countP_congr λx _=>?_;simp
   lia
  simp only[Tt,Fo];lia
theorem uT{f g:Nat->Nat}:∀S:List Nat,(S.map λq=>f q+g q).sum=(S.map f).sum+(S.map g).sum
 |[]=>rfl
 |q::S=>by simp only[Tt,Fo,uT S];lia
theorem UU{W ρ:Type}[DecidableEq W]{f:Nat->W}{b:Nat->List Nat}{S:List Nat}{M:Nat}(nd:S.Nodup)(h:∀p,⇑(b p)<=M):Ja (fresh (ρ:=ρ) f b S)<=⇑S*M:=by
 have c:∀T:List Nat,(S.map λq=>⇑(Xm b T q)).sum<=⇑T*M:=by
  intro T;induction T with
  |nil=>
   have:(S.map λq=>⇑(Xm b [] q))=S.map λ_=>0:=TY λq _=>by simp[Xm]
   rw[this];clear this nd;have z:∀S:List Nat,(S.map λ_=>0).sum=0:=by
    intro S;induction S with
    |nil=>rfl
    |cons a S d=>simpa using d
   rw[z];lia
  |cons p T d=>
   have e:(S.map λq=>⇑(Xm b (p::T) q))=S.map λq=>(b p).count q+⇑(Xm b T q):=TY λq _=>by simp only[Xm,Ms,Gk,Sk]
   rw[e,uT];have a:=vW (l:=b p) nd;have g:=h p;rw[TQ,SS];lia
 unfold Ja;refine Dl (LX ?_) (c S);congr 1;refine TY λq _=>?_;rw[GX (show(fresh (ρ:=ρ) f b S).zg q=q from rfl)];rfl
end Nt
namespace K06
open PySem L2 Sb Nt
variable{C:Ge}
abbrev En:=TM×Nat×Nat
abbrev sme(p q:Nat):En:=(("same":TM),p,q)
abbrev unl(p q:Nat):En:=(("unlike":TM),p,q)
inductive iz(H:Hp)(v:V)(e:En):Prop
 |mk (c:_) (h0:v=↑c) (h1:H c/.tup [.str e.1,jv e.2.1,jv e.2.2]):iz H v e
theorem iz.Qv{H a:Hp}{v:V}{e:En}(t:Q6 H a)(h:iz H v e):iz a v e:=by have(c,b,d):=h;exact{c,b,t _ _ d}
structure ig(P:Gn)(w:Tf)(C:Ge)(H0 H:Hp)(n:Ge)(A:Na)(fs:List Fm)(tb:Nat)(x:Nn):Prop where
 at_:Ym P w C H n A fs tb x
 inv:Wv (Yt fs) (Zx fs) x []
 fok:iV fs x.S
 new:∀b,hX A x.S b->H0 b=Gq
 nn:H0 n=Gq
 sam:Za H0 H
 len:⇑x.S<=60
 tt:Ja x<=6000
 cl:cls x+⇑x.zt<=⇑x.S
 tbb:tb<=⇑x.S+⇑x.zt*Ja x
structure iH(fs:List Fm)(x:Nn)(ens:List En)(i:Nat):Prop where
 ins:∀e∈ens,e.2.1∈x.S/\e.2.2∈x.S
 eq:∀(j p q:Nat),j<i->ens[j]?/sme p q->x.zg p=x.zg q
 snd:∀E,Ec (Yt fs) (Zx fs) x.S E->(∀(j p q:Nat),j<i->ens[j]?/sme p q->E p q)->∀p∈x.S,∀q∈x.S,x.zg p=x.zg q->E p q
 rsn:∀y∈x.zt,y.2.2=Gq\/∃(j p q:Nat),y=(p,q,Ga (.told j))/\ens[j]?/sme p q
inductive sv(P:Gn)(w:Tf)(C:Ge)(vs:List V)(H:Hp)(Q:VK):Prop
 |mk (f:Ge) (t:Ge) (ws:List V) (es:List V) (fs:List Fm) (ens:List En) (rk:Nat->Nat) (h0:vs=[↑f,↑t]) (h1:H f/.lst ws) (h2:Df (Og H) ws fs) (h3:H t/.lst es) (h4:Df (iz H) es ens) (h5:oO fs rk) (h6:⇑fs<=60) (h7:(∀p,rk p<59)) (h8:(∀e∈ens,e.2.1<⇑fs/\e.2.2<⇑fs)) (h9:⇑ens<=1000) (h10:∀(n:Ge)(A:Na)(tb:Nat)(x:Nn)(H':Hp),ig P w C H H' n A fs tb x->A.f=f->iH fs x ens ⇑ens->Q ↑n H'):sv P w C vs H Q
def qm(P:Gn)(w:Tf)(C:Ge):Sp:=λa H Q _=>sv P w C a H Q
theorem ig.merged{P:Gn}{w:Tf}{j H g:Hp}{n:Ge}{A:Na}{f:List Fm}{i:Nat}{x d:Nn}{a b:Nat}{r:Option Ib}(N:ig P w C j H n A f i x)(Y:Ym P w C g n A f (i+(⇑d.zt - ⇑x.zt)*Ja x) d)(M:iq f x d a b r [])(F:Ox A x.S H g):ig P w C j g n A f (i+(⇑d.zt - ⇑x.zt)*Ja x) d:=by
 have e:=M.S;exists Y,M.inv,by rw[e];exact N.fok,by rw[e];exact N.new,N.nn,λc o h=>F.keep c o (N.sam c o h) (λz=>by rw[N.new c z]at h;cases h),by rw[e];exact N.len,by rw[M.Ja];exact N.tt,(by rw[e];have:=N.cl;have:=M.less;ext);rw[e,M.Ja];have k:=N.tbb;have l:=M.more;have:⇑d.zt*Ja x=⇑x.zt*Ja x+(⇑d.zt - ⇑x.zt)*Ja x:=by rw[<-SS];congr 1;ext
 ext
theorem iH.step{f:List Fm}{x k:Nn}{d:List En}{i a b:Nat}(U:iH f x d i)(e:d[i]?/sme a b)(M:iq f x k a b (Ga (.told i)) []):iH f k d (i+1):=by
 have g:=M.S;have(r,t):=U.ins _ (Gc e);refine{by rw[g];exact U.ins,λj p q n c=>?_,λE X h=>?_,λy o=>?_}
 .rcases Dh j i with h|h
  .obtain⟨l,m⟩:=U.ins _ (Gc c);exact M.mono p l q m (U.eq j p q h c)
  .have:j=i:=by lia
   subst this;rw[e]at c;cases c;exact M.eq.nil
 .rw[g]at X;have l:=U.snd E X λj p q n=>h j p q (by lia);have:=M.snd E X {l,λu v s m=>by simp at m;have(rfl,rfl,rfl):=m;exact h i u v (by lia) e}
  exact this.1
 .rcases M.rsn y o with h|h|h
  .exact U.rsn y h
  .exact .inr ⟨i,a,b,h,e⟩
  .exact .inl h
theorem iH.skip{f:List Fm}{x:Nn}{c:List En}{i:Nat}{k:TM}{a b:Nat}(U:iH f x c i)(e:c[i]?/(k,a,b))(l:k≠"same"):iH f x c (i+1):=by
 refine{U.ins,λj p q g d=>?_,λE X h=>U.snd E X λj p q g=>h j p q ∅,U.rsn};rcases Dh j i with h|h
 .exact U.eq j p q h d
 .have:j=i:=by ext
  subst this;rw[e]at d;cases d;exact absurd rfl l
def pk(x:Nn)(a:List En):Option Nat->Prop
 |none=>∀(j p q:Nat),a[j]?/unl p q->x.zg p≠x.zg q
 |some i=>(∃p q,a[i]?/unl p q/\x.zg p=x.zg q)/\∀(j p q:Nat),j<i->a[j]?/unl p q->x.zg p≠x.zg q
inductive vZ(P:Gn)(w:Tf)(C:Ge)(vs:List V)(H:Hp)(Q:VK):Prop
 |mk (n:Ge) (t:Ge) (A:Na) (fs:List Fm) (tb:Nat) (x:Nn) (es:List V) (ens:List En) (h0:vs=[↑n,↑t]) (h1:Ym P w C H n A fs tb x) (h2:H t/.lst es) (h3:Df (iz H) es ens) (h4:(∀e∈ens,e.2.1∈x.S/\e.2.2∈x.S)) (h5:∀(o:Option Nat)(H':Hp),Za H H'->pk x ens o->Q (ov o) H'):vZ P w C vs H Q
def qF(P:Gn)(w:Tf)(C:Ge):Sp:=λa H Q _=>vZ P w C a H Q
section
variable{P:Gn}{w:Tf}{K:Gd}{mg:TM->Option Gj}{base:Heap}
theorem zG:Q7 ["net","entries","number","entry"] ["net","entries"] (Qo ot):=by eq_refl
theorem Zh{a b:TM}:decide (V.str a=V.str b)=(a==b):=by rw[LO];simp
theorem OO{L M:Ge}{N O:Dn}(F:Wd K "least_clash" "least_clash" ot L N)(W:Jj K mg C)(U:I0 mg)(mE:Yp K C "equal" M)(V:Q3 P w K mg base Ya 1 M O ["self","one","other"] (oj P w C))(Z:zk K O ["self","one","other"] []):
  Q3 P w K mg base Ya 2 L N ["net","entries"] (qF P w C):=by
 refine F.ok zG (λl H g d b=>?_) (λm v o s H l g d hr b=>?_)
 .obtain⟨n,t,v,Q,T,x,B,J,rfl,_⟩:=b;rfl
 have(n,t,v,Q,T,x,B,J,rfl,X,ht,R,ac,q):=b;have ad:Yj 1 _:=hr.mono (by lia);have S:=zG.nd;show∃t,Xu ?my _ t/\_;let af:Subtype (Xu ?my (sub [0,0] (Q9 ot))):={_,Qg (Zc (PW.pt (Iu (Qp Xs (Qn Qs {3} Qi) Zi (Qu _)) (Jn (Zz (Zm {0} W.cl mE V ad Z .nil Q5 (Qa (Qn Qs {3} Qi) (Qa (Qn Qs {3} Qi) Qd))))))) (Qg (Qt {2})) Qw)}
 exists _,Qc (Yb Tj rfl (uI rfl U.enumerate (Qa {1} Qd)) (V8 rfl (Zr (Z7 2 S) (Zr (Z7 3 S) Wp))) af.2) (Qg (Qt U9));let ae:Nat->St->Hp->Prop:=λi u e=>lB (∃E G,u=[Ga ↑n,Ga ↑t,E,G]) (Za H e) (∀(j p c:Nat),j<i->J[j]?/unl p c->x.zg p≠x.zg c)
 refine⟨_,Xb,t,B,Xb,Qk ht,A3 (K:=K) (a:=t) (xs:=B) ae
  {{430},λ_ _ b=>b,λ_ _ _ b=>by lia} (by rintro i u e _ ⟨_,f,_⟩;exact Qk (f _ _ ht)) ?_ ?_⟩
 .rintro i y aa u e hi ⟨⟨E,G,rfl⟩,f,h⟩ hc;ac_nf;have((k,a,z),m,l,rfl,ab):=Qy R hi;have s3:=Qf hc (.tup [.int (i:Int),↑l]);have g:=f.trans s3;have(Y,bS):=ac _ (Gc m);intros;have A:=g _ _ ab;exists aa,0,Qj Qb,130301;exists 0,l,201,Qj A,Oj _ _,10;rw[Zh];by_cases D:k="unlike"
  .subst D;rw[Ls];refine Yo ?_;have I:=X.same g;have(dx,o1):=I.ob;exists 0,n,dx,0,o1,qG _,0,l,201,Qj A,Re _ _ _,0,l,201,Qj A,ji _ _ _ _,n,v,Q,T,x,a,z,1,I,Y,bS,0;by_cases o:x.zg a=x.zg z
   .rw[Tg o];refine Yo {0,q (Ga i) _ g {⟨a,z,m,o⟩,h}}
   .rw[Td o];refine Q4 {{430},g,λj p c r d=>?_};rcases Dh j i with b|b
    .exact h j p c b d
    .have:j=i:=by lia
     subst this;rw[m]at d;cases d;exact o
  .have:(k==("unlike":TM))=Gx:=by simpa using D
   rw[this];refine Q4 ?_;refine Q4 {{430},g,λj p c r d=>?_};rcases Dh j i with b|b
   .exact h j p c b d
   .have:j=i:=by lia
    subst this;rw[m]at d;cases d;exact absurd rfl D
 .rintro u e ⟨⟨E,G,rfl⟩,f,h⟩;refine q Gq e f λj p c r=>h j p c ?_ r;rw[GJ R];exact(Gg.mp r).1
theorem vo:Q7 ["forms","told","net","kind","one","other","number","entry"] ["forms","told"] (Qo jS):=by eq_refl
theorem PJ{G fI fT fM:Ge}{fd av ax aw:Dn}(F:Wd K "net_of" "net_of" jS G fd)(ab:Jj K mg C)(aA:I0 mg)(aB:Mk K C fI)(GI:Q3 P w K mg base Ya 1 fI av ["self","forms"] (A0 P w C))(bI:zk K av ["self","forms"] [])
  (mT:Yp K C "take_in" fT)(GT:Q3 P w K mg base Ya 60 fT ax ["self","place"] (j5 P w C 59))(bT:zk K ax ["self","place"] [])(mM:Yp K C "merge" fM)(GM:Q3 P w K mg base Ya 4 fM aw ["self","one","other","reason"] (qM P w C))(bM:zk K aw ["self","one","other","reason"] []):
  Q3 P w K mg base Ya 61 G fd ["forms","told"] (qm P w C):=by
 refine F.ok vo (λR h o au m=>?_) (λaq f ar s h R o au z m=>?_)
 .obtain⟨G,t,ws,W,e,U,rk,rfl,_⟩:=m;rfl
 have(G,t,ws,W,e,U,rk,rfl,hf,aG,ht,ah,Q,aT,ay,aD,aR,q):=m;have aE:Yj 2 _:=z.mono (by lia);have aF:Yj 4 _:=z.mono (by lia);have O:=vo.nd;show∃t,Xu ?my _ t/\_;let aJ:Subtype (Xu ?my (sub [2,0,0,0] (Q9 jS))):={_,Qg (Zn (Zm {2} ab.cl mM GM aF bM .nil Q5 (Qa (Qn Qs {7} Qi) (Qa (Qn Qs {7} Qi) (Qa (Zf (Qa Zi (Qa {6} Qd))) Qd)))))}
 let aK:Vq ?my jS 2:={_,Qc (Yb Tj rfl (uI rfl aA.enumerate (Qa {1} Qd)) (V8 rfl (Zr (Z7 6 O) (Zr (Z7 7 O) Wp))) (Qg (Zc (Qp Xs (Qn Qs {7} Qi) Zi (Qu _)) aJ.2 Qw))) (Qg (Qt {2}))}
 let aL:Vq ?my jS 1:={_,Qc (Yb Tj rfl (Yh {1}) (V8 rfl (Zr (Z7 3 O) (Zr (Z7 4 O) (Zr (Z7 5 O) Wp)))) (Qc (Zn (Zm {2} ab.cl mT GT z bT .nil Q5 (Qa {4} Qd))) (Qg (Zn (Zm {2} ab.cl mT GT z bT .nil Q5 (Qa {5} Qd)))))) aK.2}
 exists _,Qc (Qz 2 O (rL aB GI aE rfl ab.mgC bI .nil Q5 (Qa {0} Qd))) aL.2;refine{0,λn dx hn aC aU=>?_};have s0:Za h (zj (zj h dx (.own n)) n (.ins C dx [])):=λg A c=>by rw[Qh (Qe c hn),Qh (Qe c aC)];exact c
 refine{n,dx,G,ws,e,1,Qb,s0 _ _ hf,Qr aG λ_ _ m=>m.Qv (Q6.of s0),λf H1 fA X1 k1 w1=>{1,?_}};have s1:Za h H1:=λg A c=>k1 g A (s0 g A c) (Qe c hn);have n1:∀d,hX f [] d->h d=Gq:=λd Z=>s0.free (w1 d Z);have az:⇑W=⇑U:=GJ ah;let aH:Nat->St->Hp->Prop:=λi B I=>iW λ(x3 x4 x5:Option V)(S:List Nat)(r u:Nat->Ge)=>jn (B=[Ga ↑G,Ga ↑t,Ga ↑n,x3,x4,x5,Gq,Gq]) (Frs P w C I n (na f r u) e S) (Za h I) (∀d,hX (na f r u) S d->h d=Gq) (∀c∈U.take i,c.2.1∈S/\c.2.2∈S)
 refine⟨_,Xb,t,Xb,{_,Qk (s1 _ _ ht)},Yw (K:=K) (a:=t) (xs:=W) aH
  {32,[],f.ml,f.ul,1,{X1,SK,(λp N=>nomatch N),(λp N=>nomatch N)},s1,n1,by simp} (by rintro i B I _ ⟨_,_,_,_,_,_,_,_,o,_⟩;exact Qk (o _ _ ht)) ?_ ?_⟩
 .rintro i y B I hi ⟨x3,x4,x5,S,r,u,rfl,l,L,n2,T⟩;ac_nf;have((k,a,d),M,D,rfl,ag):=Qy ah hi;have(al,bl):=aD _ (Gc M);have(am,o2):=l.at_.ob;intros;exists D,0,Qj (L _ _ ag),13030301;refine{0,n,am,0,o2,pD _,0,n,na f r u,e,rk,S,a,1,l,Q,al,ay a,λS3 ad af v X3 ae a3 _ F3=>?_};have g3:Za h v:=λg A c=>F3.keep g A (L g A c) (λo=>by rw[n2 g o]at c;cases c);have n3:∀d,hX (na f ad af) S3 d->h d=Gq:=λd Z=>(F3.own d Z).elim (n2 d) (λo=>L.free o);have(an,o3):=X3.at_.ob;refine{0,n,an,0,o3,pD _,0,n,na f ad af,e,rk,S3,d,1,X3,Q,bl,ay d,λS4 ao ap H4 X4 R b4 _ F4=>?_};have Y:Za h H4:=λg A c=>F4.keep g A (g3 g A c) (λo=>by rw[n3 g o]at c;cases c);refine{32,S4,ao,ap,1,X4,Y,λd Z=>(F4.own d Z).elim (n3 d) (λo=>g3.free o),λc ac=>?_};rw[TD,M]at ac;rcases Gh.mp ac with m|m
  .exact{R _ (ae _ (T c m).1),R _ (ae _ (T c m).2)}
  .have:c=(k,a,d):=by simpa using m
   subst this;exact{R _ a3,b4}
 rintro B I ⟨x3,x4,x5,S,r,u,rfl,l,L,n2,T⟩;rw[az,Tw]at T;have aQ:⇑S<=⇑e:=Xw (S:=EM ⇑e) l.nd (λH z=>Se.mpr (l.lt H z))|>λm=>by rw[E1]at m;exact m
 have ni:Wv (ρ:=Ib) (Yt e) (Zx e) (fresh (Yt e) (Zx e) S) []:=Qr4 l.nd l.cl λp N H z e1 e2=>Q.inj p H (l.lt p N) (l.lt H z) e1 e2;have N0:ig P w C h I n (na f r u) e ⇑S (fresh (Yt e) (Zx e) S):={l.at_,ni,{Q.str,l.lt,l.cl,λp=>by have:=Q.few p;lia},n2,hn,L,by show ⇑S<=60;lia,Dl (UU l.nd Q.few) (by lia),ur _,by show ⇑S<=⇑S+0*_;lia};have U0:iH e (fresh (Yt e) (Zx e) S) U 0:={T,λj p H hj=>by lia,λau X _ p N H z c=>by have c:p=H:=c;subst c;exact X.refl p,λy o=>nomatch o}
 let aI:Nat->St->Hp->Prop:=λi B v=>iy λ(x6 x7:Option V)(E:Nat)(x:Nn)=>lB (B=[Ga ↑G,Ga ↑t,Ga ↑n,x3,x4,x5,x6,x7]) (ig P w C h v n (na f r u) e E x) (iH e x U i)
 refine⟨_,Xb,t,W,Xb,Qk (L _ _ ht),A3 (K:=K) (a:=t) (xs:=W) aI
  {320,N0,U0} (by rintro i B v _ ⟨_,_,_,_,_,b,_⟩;exact Qk (b.sam _ _ ht)) ?_ ?_⟩
 .rintro i y g B v hi ⟨x6,x7,E,x,rfl,b,J⟩ hc;ac_nf;have((k,a,d),M,D,rfl,ag):=Qy ah hi;have s4:=Qf hc (.tup [.int (i:Int),↑D]);have Y:=b.sam.trans s4;have aa:=Y _ _ ag;have(aS,bS):=J.ins _ (Gc M);intros;have R:ig P w C h (zj v g (.tup [.int (i:Int),↑D])) n (na f r u) e E x:={b.at_.same s4,b.inv,b.fok,b.new,b.nn,Y,b.len,b.tt,b.cl,b.tbb};exists g,0,Qj Qb,130301;exists 0,D,201,Qj aa,Oj _ _,10;rw[Zh];by_cases hk:k="same"
  .subst hk;rw[Ls];refine Yo ?_;have(ai,o4):=R.at_.ob;refine{0,n,ai,0,o4,sQ _,0,D,201,Qj aa,Re _ _ _,0,D,201,Qj aa,ji _ _ _ _,0,Yy,λo ak=>?_};have s5:=Qf ak (.tup [.str "told",.int (i:Int)]);have g5:=Y.trans s5;have N5:ig P w C h (zj (zj v g (.tup [.int (i:Int),↑D])) o (.tup [.str "told",.int (i:Int)])) n (na f r u) e E x:={R.at_.same s5,b.inv,b.fok,b.new,b.nn,g5,b.len,b.tt,b.cl,b.tbb};have aM:=b.len;have aj:=b.tt;have aN:=b.cl;have aO:=b.tbb;have aP:⇑x.zt*Ja x+cls x*Ja x<=60*6000:=by rw[<-SS];exact BF (by lia) aj
   refine{n,na f r u,e,E,x,a,d,↑o,Ga (.told i),1,N5.at_,b.fok,⟨o,Xb,Qb⟩,by simp,aS,bS,b.inv,by lia,by lia,by lia,by lia,λx' H6 Y6 M6 F6=>?_};exact{32,x',1,N5.merged Y6 M6 F6,J.step M M6}
  .have:(k==("same":TM))=Gx:=by simpa using hk
   rw[this];exact Q4 {2,E,x,1,R,J.skip M hk}
 .rintro B v ⟨x6,x7,E,x,rfl,b,J⟩;rw[az]at J;exact{0,q n (na f r u) E x v b fA J}
end
end K06
namespace L2
open PySem PySem.Spec PyProof.Rows
inductive zZ(x:V)(vs:List V)(H:Hp)(Q:VK):Prop
 |mk (d:_) (k:_) (dv:_) (zw:_) (h0:x=↑d) (h1:vs=[kV k,dv]) (h2:H d/.dK zw) (h3:⇑zw<TF) (h4:(∀v,Xo zw k/v->Q v H)) (h5:(Xo zw k=Gq->Q dv (zj H d (.dK (V5 zw k dv))))):zZ x vs H Q
def ZL:V->List V->Hp->VK->Prop:=λx a H Q=>zZ x a H Q
theorem Ql7{X:Cx}:iG X "dict.setdefault" ZL:=by
 intro l s M H x L v K Q I C B h;have(d,k,g,a,rfl,rfl,e,G,t,u):=h;cases(show v=Tn d from C);have(J,D,rfl,A,m):=vals2 B;have(z,j,E,b,i):=nI I.Ye e;refine MZ F.slot_dict_setdefault i.typeIs F.entry_dict_setdefault (F.args_dict_setdefault_3 _ _ _) (kt_meets_setdefault (Y2 X.prog X.w) d (jP A) j D) {E,i,by rw[<-⇑b];exact z,λw hw=>?_,λr n f hs=>?_}
 .have c:=b.val k;rw[hw]at c;cases q:Xo a k with
  |none=>rw[q]at c;exact(show False from c).elim
  |some y=>rw[q]at c;exact{y,H,I.tok _,c,t y q}
 .have c:=b.val k;rw[r]at c;cases q:Xo a k with
  |some y=>rw[q]at c;exact(show False from c).elim
  |none=>
   have o:∃q,n.get? d/q:=let⟨q,_,_,hq,_⟩:=f;⟨q,hq⟩;have p:⇑(V5 a k g)<=TF:=by have:=W9 a k g;ext
   exact{g,_,R9 I (by rw[e];exact Ea) hs o (vb p j (b.put k m) f),m,u q}
end L2
namespace PySem
variable{Q:Gj->Gy->Prop}{it:Ge}{xs:Array Gj}{i:Nat}{x:Gj}
structure nD(prog:Gn)(w:Tf)(A:DS)(I S:Ge)(fp:List Ge)(n:Nat)(St:Nat->Heap->List Gj->Prop)(Out:Heap->List Gj->Prop):Prop where
 item:∀(i:Nat)(s:Gy)(acc:List Gj)(Q:Option Gj->Gy->Prop)(E:Gj->Gy->Prop),i<n->St i s.heap acc->(∀v h' tk,St (i+1) h' (acc++[v])->(∀b o,b∉fp->s.heap.get? b/o->h'.get? b/o)->Q (Ga v) {s with heap:=h',toks:=tk})->wpAny (TR prog w) A (pyNext ↑I) Q E s
 done:∀(s:Gy)(acc:List Gj)(Q:Option Gj->Gy->Prop)(E:Gj->Gy->Prop),St n s.heap acc->(∀h' tk,Out h' acc->(∀b o,b∉fp->s.heap.get? b/o->h'.get? b/o)->Q Gq {s with heap:=h',toks:=tk})->wpAny (TR prog w) A (pyNext ↑I) Q E s
 keep:∀(i:Nat)(h h':Heap)(acc:List Gj),St i h acc->(∀b o,b≠S->h.get? b/o->h'.get? b/o)->S<h'.objs.size->St i h' acc
section
variable{prog:Gn}{w:Tf}{A:DS}{E:Gj->Gy->Prop}{s:Gy}{R:C0->Gy->Prop}{I S:Ge}{fp:List Ge}{n:Nat}{St:Nat->Heap->List Gj->Prop}{Out:Heap->List Gj->Prop}
theorem Qwi(G:nD prog w A.in1 I S fp n St Out)(t:S∉fp)(g:n<=TF)(res:Gj){h₁:Heap}
  (B:∀f p a c,(∀b o,b≠S->b∉fp->h₁.get? b/o->f.get? b/o)->f.get? S=Ga {cls:=.type "list",dict:=Gq,data:=.seq a c,slots:=#[]}->a.size=n->Out f a.toList->R (.ok (.ret res)) {s with heap:=f,toks:=p}):
  ∀(k i:Nat)(h:Heap)(p c:Nat)(a:Array Gj),n - i=k->i<=n->St i h a.toList->(∀b o,b≠S->b∉fp->h₁.get? b/o->h.get? b/o)->a.size=i->
   h.get? S=Ga {cls:=.type "list",dict:=Gq,data:=.seq a c,slots:=#[]}->codeAny (TR prog w) A (.builtin "list.extend.loop" {[↑S,↑I,res],[]}) R {s with heap:=h,toks:=p}:=by
 intro k;induction k with
 |zero=>
  intro i h p c a D hi m d j y;have g:i=n:=by lia
  subst g;refine Bq Mg ?_;rw[Ny EI _];show wpAny _ A.in1 (pyNext ↑I>>=_) _ _ _;refine Gb (G.done {s with heap:=h,toks:=p} a.toList _ _ m λf q u l=>?_);exact Gm (B f q a c (λb o x r e=>l b o r (d b o x r e)) (l S _ t y) j u)
 |succ k E=>
  intro i h p c a D hi m d j y;refine Bq Mg ?_;rw[Ny EI _];show wpAny _ A.in1 (pyNext ↑I>>=_) _ _ _;refine Gb (G.item i {s with heap:=h,toks:=p} a.toList _ _ (by lia) m λv f q u l=>?_);dsimp only at l⊢;have g:=l S _ t y;have z:∀b o,b≠S->f.get? b/o->(f.update S (Lo (·.push v))).get? b/o:=λb o C e=>(E8 _ _ (Tb C)).trans e;show wpAny _ A.in1 (updateSeq S (·.push v)>>=_) _ _ _;refine Gb ?_;refine FD g rfl (Gm ⟨NI EI _,E (i+1) _ q _ (a.push v) (by lia) (by lia) (G.keep _ _ _ _ (by rw[Array.toList_push];exact u) z (Tk (DT _ g Xb)))
   (λb o x r e=>z b o x (l b o r (d b o x r e))) (by rw[Br,j]) (DT _ g Xb)⟩) (by lia) (by show(a.push v).size<=TF+1;rw[Br];lia)
theorem wV{T:String}{hb:Bool}(G:nD prog w A.in1.in1 I s.heap.objs.size fp n St Out)(B:∀b∈fp,b<s.heap.objs.size)(L:I<s.heap.objs.size)(P:n<=TF)(C:∀f:Heap,(∀b o,s.heap.get? b/o->f.get? b/o)->s.heap.objs.size<f.objs.size->St 0 f [])
  (N:∀h d,St 0 h d->CC {s with heap:=h} ↑I T)(U:(SV T==SV "list")=Gx)(V:(SV T==SV "tuple")=Gx)
  (self:∀(A:DS)(E:Gj->Gy->Prop)(h:Heap)(Q:Gj->Gy->Prop),St 0 h []->Q ↑I {s with heap:=h}->wpAny (TR prog w) A (pyIter ↑I) Q E {s with heap:=h})
  (hint:∀(A:DS)(E:Gj->Gy->Prop)(h:Heap)(Q:Bool->Gy->Prop),St 0 h []->Q hb {s with heap:=h}->wpAny (TR prog w) A (EB ↑I) Q E {s with heap:=h})
  (M:∀l F d c,(∀b o,b∉fp->s.heap.get? b/o->l.get? b/o)->l.get? s.heap.objs.size=Ga {cls:=.type "list",dict:=Gq,data:=.seq d c,slots:=#[]}->d.size=n->Out l d.toList->Q ↑s.heap.objs.size {s with heap:=l,toks:=F}):
  wpAny (TR prog w) A (call (.type "list") [↑I]) Q E s:=by
 have z:s.heap.objs.size∉fp:=λr=>EC _ (B _ r);have y:s.heap.objs.size≠I:=Dy L;refine callType_codes (Q₁:=λt k=>t=.ref s.heap.objs.size/\k={s with heap:=s.heap.push {cls:=.type "list",data:=.seq #[]}}) HH (CK _) CL
  (code_list_new _ ⟨Xb,Xb⟩) λt k h₁=>?_
 have(rfl,rfl):=h₁;have v:(s.heap.push {cls:=.type "list",data:=.seq #[]}).get? s.heap.objs.size=Ga {cls:=.type "list",data:=.seq #[]}:=To _ rfl;exists {_,v,1},CD _ _;show wpAny _ _ (do let r<-M1 ↑s.heap.objs.size;CM ↑s.heap.objs.size (λ_=>#[]);letGo r.toList.reverse;Ll ↑s.heap.objs.size ↑I .none) _ _ _;refine Gb ?_;unfold M1;refine Gb (Eg v rfl (Gm ?_));show wpAny _ _ (updateSeq s.heap.objs.size (λ_=>#[])>>=λ_=>letGo (#[]:Array Gj).toList.reverse>>=λ_=>Ll ↑s.heap.objs.size ↑I .none) _ _ _;refine Gb (FD v rfl ?_);have a:=DT (Lo (λ_=>(#[]:Array Gj))) v rfl;refine Gb (Mo ?_);generalize q:(s.heap.push {cls:=.type "list",data:=.seq #[]}).update s.heap.objs.size (Lo (λ_=>(#[]:Array Gj)))=f at a;have H:∀b o,s.heap.get? b/o->f.get? b/o:=λb o e=>by rw[<-q];exact(E8 _ _ (Tb (T2 (Tk e)))).trans (Gp _ e)
 have j:St 0 f []:=C f H (Tk a);clear q;unfold Ll;refine Gb (C3 (T:=T) (N _ _ j) ?_);have K:Mx ↑s.heap.objs.size ↑I=Gx:=by simp[Mx,y]
 simp -iota only [K,U,V,Cs,DK,Ey];refine Gb (self _ _ f _ j ?_);refine Gb (D2 (hint _ _ f _ j ?_));have p:∀(m:Heap)(c:Nat),St 0 m []->(∀b o,b≠s.heap.objs.size->f.get? b/o->m.get? b/o)->m.get? s.heap.objs.size=Ga {cls:=.type "list",dict:=Gq,data:=.seq #[] c,slots:=#[]}->
   codeAny (TR prog w) A.in1 (.builtin "list.extend.loop" {[↑s.heap.objs.size,↑I,.none],[]}) (wants (λr u=>r=DD/\Q (Tn s.heap.objs.size) u) E) {s with heap:=m,toks:=s.toks}:=by
  intro m c D S x;refine Qwi (A:=A.in1) (s:=s) (h₁:=s.heap) G z P .none (λl F d c u r O R=>{1,M l F d c (λb o hb e=>u b o (T2 (Tk e)) hb e) r O R}) n 0 m s.toks c #[] (by lia) (Ts _) D (λb o hb _ e=>S b o hb (H b o e)) rfl x
 refine FE (λ_=>?_) (λ_=>Gm {NI EI _,p f _ j (λb o _ e=>e) a});refine Gb (Fg ?_);refine Gb ?_;show wpAny _ _ (updateSeq s.heap.objs.size (·.push .none)>>=λ_=>updateSeq s.heap.objs.size (·.pop)) _ _ _;refine Gb (FD a rfl ?_);have g:=DT (Lo (·.push DD)) a rfl;refine FD (hz:=by seq_fits) g rfl ?_;have i:=DT (Lo (·.pop)) g rfl;have J:∀b o,b≠s.heap.objs.size->f.get? b/o->((f.update s.heap.objs.size (Lo (·.push DD))).update s.heap.objs.size (Lo (·.pop))).get? b/o:=λb o hb e=>(E8 _ _ (Tb hb)).trans ((E8 _ _ (Tb hb)).trans e)
 exact Gm {NI EI _,p _ _ (G.keep _ _ _ _ j J (Tk i)) J i}
end
structure iA(prog:Gn)(w:Tf)(it l:Ge)(xs:Array Gj)(St:Nat->Heap->Prop):Prop where
 item:∀(A:DS)(E:Gj->Gy->Prop)(s:Gy)(i:Nat)(x:Gj)(Q:Gj->Gy->Prop),St i s.heap->xs[i]?/x->(∀h',St (i+1) h'->Eu it s.heap h'->Q x {s with heap:=h'})->wpAny (TR prog w) A (T8 ↑it) Q E s
 fin:∀(A:DS)(E:Gj->Gy->Prop)(s:Gy)(i:Nat)(Q:Gj->Gy->Prop),A.handled=Gq->St i s.heap->xs[i]?=Gq->(∀h' e,Nq it s.heap h'->(∃o,h'.get? e/o/\o.cls=.type "StopIteration")->E ↑e {s with heap:=h'})->wpAny (TR prog w) A (T8 ↑it) Q E s
 keep:∀(i:Nat)(h h':Heap),St i h->(∀b,b=it\/b=l->∀o,h.get? b/o->h'.get? b/o)->St i h'
 there:∀(i:Nat)(h:Heap),St i h->it<h.objs.size/\l<h.objs.size
theorem xr{b:Gn}{w:Tf}{l:Ge}(d:l≠it):iA b w it l xs (λi h=>h.IsListIter it l i/\h.IsList l xs) where
 item:=λA E s i x Q a f m=>wpAny_nextOf_list_item a.1 a.2 f λg c hs=>m g {c,a.2.extBut hs.extBut d} hs
 fin:=λA E s i Q n a f j=>wpAny_nextOf_list_end n a.1 a.2 f j
 keep:=λi h g a k=>{a.1.at λo e=>k it (.inl Xb) o e,a.2.at λo e=>k l (.inr Xb) o e}
 there:=λi h a=>{let⟨_,e,_⟩:=a.1;Tk e,let⟨_,e,_⟩:=a.2;Tk e}
section
variable{prog:Gn}{w:Tf}{A:DS}{E:Gj->Gy->Prop}{s:Gy}
theorem J1{t:Ge}{a:Array Gj}(b:s.heap.IsTupleIter it t i)(ht:s.heap.IsTuple t a)(k:a[i]?/x)
  (h:∀e,e.IsTupleIter it t (i+1)->Eu it s.heap e->Q x {s with heap:=e}):wpAny (TR prog w) A (T8 ↑it) Q E s:=by
 have(o,d,j,c):=id b;have(m,g,_,l,f):=ht;unfold T8;refine Gb (DN (name:=EF "__next__") b.typeIs F.slot_tuple_iterator_next
  (Dz F.slot_tuple_iterator_next b.typeIs F.entry_tuple_iterator_next ?_ (F.args_tuple_iterator_next_1 _)))
 show wpAny _ _ (field ↑it 0>>=_) _ _ s;refine Gb (DE d c (x:=↑t) rfl ?_);show wpAny _ _ (if(Tn t==DD)=Gi then _ else _) _ _ s;rw[Gs (show¬((Tn t==DD)=Gi)from TC)];show wpAny _ _ (field ↑it 1>>=_) _ _ s;refine Gb (DE d c (x:=.int i 0) rfl ?_);show wpAny _ _ (seqItems? ↑t>>=_) _ _ s;refine Gb (Eg g f ?_);simp only[Em,k];refine Gb (Lp d c ⋯ (Gm {x,1,Gm (h _ ?_ (D9 ..))}));exact{_,DT _ d (Fd (Sh c _)),(Mr ..).trans j,by rw[Sh c];simp -iota [rawInt]}
theorem Ij{t:Ge}{a:Array Gj}(j:A.handled=Gq)(b:s.heap.IsTupleIter it t i)(ht:s.heap.IsTuple t a)(l:a[i]?=Gq)
  (k:∀c e,Nq it s.heap c->(∃o,c.get? e/o/\o.cls=.type "StopIteration")->E ↑e {s with heap:=c}):wpAny (TR prog w) A (T8 ↑it) Q E s:=by
 have(o,g,c,d):=id b;have(n,h,_,m,f):=ht;unfold T8;refine Gb (DN (name:=EF "__next__") b.typeIs F.slot_tuple_iterator_next
  (Dz F.slot_tuple_iterator_next b.typeIs F.entry_tuple_iterator_next ?_ (F.args_tuple_iterator_next_1 _)))
 show wpAny _ _ (field ↑it 0>>=_) _ _ s;refine Gb (DE g d (x:=↑t) rfl ?_);show wpAny _ _ (if(Tn t==DD)=Gi then _ else _) _ _ s;rw[Gs (show¬((Tn t==DD)=Gi)from TC)];show wpAny _ _ (field ↑it 1>>=_) _ _ s;refine Gb (DE g d (x:=.int i 0) rfl ?_);show wpAny _ _ (seqItems? ↑t>>=_) _ _ s;refine Gb (Eg h f ?_);simp only[Em,l];refine Gb (Fg (Gb (Lp g d ⋯ ?_)));show wpAny _ _ (newExc (.type "StopIteration") []>>=_) _ _ _;refine Gb ?_;simp -iota only [newExc,newTuple];refine Gb (DA ?_ (by size_fits));refine Gb (m:=firstArgMember _ _) (Bi (a:=DD) (by first|rfl|(simp -iota only [firstArgMember];rfl)) ?_);refine DA ?_ (by size_fits);simp -iota only [raiseNew];refine Gb (NH ?_);first|rw[show A.in1.handled=Gq from j]|rw[j]
 refine Gb (Gm (Bj ?_));exact k _ _ (((D9 ..).extBut.push _).push _) {_,To _ Xb,1}
end
theorem AA{b:Gn}{w:Tf}{l:Ge}(d:l≠it):iA b w it l xs (λi h=>h.IsTupleIter it l i/\h.IsTuple l xs) where
 item:=λA E s i x Q a f m=>J1 a.1 a.2 f λg c hs=>m g {c,a.2.extBut hs.extBut d} hs
 fin:=λA E s i Q n a f j=>Ij n a.1 a.2 f j
 keep:=λi h g a k=>{let⟨o,ho,r⟩:=a.1;{o,k it (.inl Xb) o ho,r},let⟨o,ho,r⟩:=a.2;{o,k l (.inr Xb) o ho,r}}
 there:=λi h a=>{let⟨_,e,_⟩:=a.1;Tk e,let⟨_,e,_⟩:=a.2;Tk e}
abbrev Rt(h:Heap)(z TI TO a:Ge)(f:Bool):Prop:=h.get? z=Ga {cls:=.type "zip",dict:=Gq,data:=.fields #[rawInt a,.bool f,.bool Gx,↑TI,↑TO],slots:=#[]}
section
variable{prog:Gn}{w:Tf}{A:DS}{E:Gj->Gy->Prop}{s:Gy}{z TI TO i1 i2 l1 l2:Ge}{k:Nat}{xs ys:Array Gj}{S1 S2:Nat->Heap->Prop}
theorem Qmz{y M r:Gj}(c:BG z TI TO i1 i2 l1 l2)(B:iA prog w i1 l1 xs S1)(C:iA prog w i2 l2 ys S2)
  (q:Nb s.heap z TI TO .none)(ac:EX s.heap TI ↑i1 ↑i2)(ad:EX s.heap TO M r)(h1:S1 k s.heap)(h2:S2 k s.heap)(hx:xs[k]?/x)(hy:ys[k]?/y)
  (hQ:∀g,Rt g z TI TO s.heap.objs.size Gx->EX g TO x y->S1 (k+1) g->S2 (k+1) g->EX g s.heap.objs.size x y->
   (∀a b,a≠z->a≠TO->a≠i1->a≠i2->s.heap.get? a/b->g.get? a/b)->Q ↑s.heap.objs.size {s with heap:=g}):
  wpAny (TR prog w) A (Builtin.«zip.__next__» {[↑z],[]}) (λfin s'=>∃g,fin=.done (.ret g)/\Q g s') E s:=by
 show wpAny _ _ (field ↑z 2>>=_) _ _ _;refine Gb (DE q rfl (x:=.bool Gx) rfl ?_);show wpAny _ _ (field ↑z 3>>=_) _ _ _;refine Gb (DE q rfl (x:=↑TI) rfl ?_);refine Gb (Eg ac rfl ?_);show wpAny _ _ (Dk ↑z>>=_) _ _ _;refine Gb ?_;unfold Dk;refine Gb (DE q rfl (x:=.none) rfl (Gm ?_));simp -iota only [Mm];refine Gb (Fg ?_);refine Gb (DE q rfl (x:=↑TO) rfl ?_);refine Gb (ES q ⋯ λK I S=>?_);replace I:Nb K z TI TO .ellipsis:=I;have D:∀a b,a≠z->s.heap.get? a/b->K.get? a/b:=λa b Z d=>S.extBut _ _ Z d;refine Gb ?_;simp -iota only [Be,Bs,LP,Mc];refine Gb (Gb (My ?_));show wpAny _ _ (T8 ↑i1>>=_) _ _ _;refine Gb (B.item _ _ _ k x _ (B.keep k _ K h1 λa h b d=>D a b (by rcases h with rfl|rfl;exact c.i1z;exact c.l1z) d) hx λag aa u=>Gm ?_);have N:EX ag TO M r:=u.extBut _ _ c.TOi1 (D _ _ c.TOz ad);refine Gb (Eg N rfl ?_);refine Gb (Fv N λL H p=>?_);replace H:EX L TO x r:=H;refine Gb (Mo (Gm ?_));have F:∀a b,a≠z->a≠i1->a≠TO->s.heap.get? a/b->L.get? a/b:=λa b f j o d=>p.extBut _ _ o (u.extBut _ _ j (D a b f d));refine Gb (Gb (My ?_));show wpAny _ _ (T8 ↑i2>>=_) _ _ _;refine Gb (C.item _ _ _ k y _ (C.keep k _ L h2 λa h b d=>by
  rcases h with rfl|rfl
  .exact F _ b c.i2z c.i12.symm c.TOi2.symm d
  .exact F _ b c.l2z c.l2i1 c.l2TO d) hy λah ab l=>Gm ?_)
 have O:EX ah TO x r:=l.extBut _ _ c.TOi2 H;refine Gb (Eg O rfl ?_);refine Gb (Fv O λe t i=>?_);replace t:EX e TO x y:=t;refine Gb (Mo (Gm (Gm ?_)));refine Gb (Eg t rfl ?_);refine Gb (BH ?_);have R:e.objs.size=s.heap.objs.size:=by rw[i.1,l.1,p.1,u.1,S.1]
 have W:Nb e z TI TO .ellipsis:=i.extBut _ _ c.TOz.symm (l.extBut _ _ c.i2z.symm (p.extBut _ _ c.TOz.symm (u.extBut _ _ c.i1z.symm I)));have ae:∀a b,a≠z->a≠TO->a≠i1->a≠i2->s.heap.get? a/b->e.get? a/b:=λa b f j o G d=>i.extBut _ _ j (l.extBut _ _ G (F a b f o j d));have V:z<e.objs.size:=Tk W;show wpAny _ _ (LA ↑z ↑e.objs.size>>=_) _ _ _;refine Gb ?_;unfold LA;have af:Nb (e.push {cls:=.type "tuple",data:=.seq #[x,y]}) z TI TO .ellipsis:=Gp _ W;refine Gb (ES af ⋯ λai J T=>?_);replace J:Nb ai z TI TO (rawInt e.objs.size):=J;refine ES J ⋯ λm v U=>?_;replace v:Nb m z TI TO (rawInt e.objs.size):=v;have n:∀a b,a≠z->e.get? a/b->m.get? a/b:=λa b f d=>U.extBut _ _ f (T.extBut _ _ f (Gp _ d));have P:EX m e.objs.size x y:=U.extBut _ _ (Dy V) (T.extBut _ _ (Dy V) (To _ Xb));rw[R]at v P;refine Gm {0,?_};show Q ↑e.objs.size _;rw[R];have X:S1 (k+1) m:=B.keep _ _ _ aa λa h b d=>by
  rcases h with rfl|rfl
  .exact n _ b c.i1z (i.extBut _ _ c.TOi1.symm (l.extBut _ _ c.i12 (p.extBut _ _ c.TOi1.symm d)))
  .exact n _ b c.l1z (i.extBut _ _ c.l1TO (l.extBut _ _ c.l1i2 (p.extBut _ _ c.l1TO d)))
 have Y:S2 (k+1) m:=C.keep _ _ _ ab λa h b d=>by
  rcases h with rfl|rfl
  .exact n _ b c.i2z (i.extBut _ _ c.TOi2.symm d)
  .exact n _ b c.l2z (i.extBut _ _ c.l2TO d)
 exact hQ m v (n _ _ c.TOz t) X Y P λa b f j o G d=>n a b f (ae a b f j o G d)
theorem yo{a:Ge}{f:Bool}{i:SR}{Q:Bool->Gy->Prop}(e:Rt s.heap z TI TO a f)(h:s.heap.get? a/i)(g:∀b,Rt b z TI TO a Gi->Eu z s.heap b->Q Gx {s with heap:=b}):
  wpAny (TR prog w) A (Dk ↑z) Q E s:=by
 unfold Dk;refine Gb (DE e rfl (x:=rawInt a) rfl ?_);show wpAny _ _ (loadIfAlive ((a:Int).toNat)>>=_) _ _ _;rw[Em];refine Gb (IU h ?_);simp -iota only [Option.isNone_some,DK,Ey];refine Gb (DE e rfl (x:=.bool f) rfl ?_);cases f with
 |true=>rw[Gs (show¬((Lm Gi !=Lm Gi)=Gi)from TC)];exact Gm (g _ e (IV _ _))
 |false=>rw[GX (show(Lm Gx !=Lm Gi)=Gi from rfl)];exact Gb (ES e ⋯ λd b c=>Gm (g d b c))
theorem OK{y:Gj}{a:Ge}{f:Bool}{S:SR}(D:BG z TI TO i1 i2 l1 l2)(u:iA prog w i1 l1 xs S1)(B:iA prog w i2 l2 ys S2)
  (I:Rt s.heap z TI TO a f)(O:s.heap.get? a/S)(H:EX s.heap TI ↑i1 ↑i2)(L:S1 k s.heap)(M:S2 k s.heap)(P:xs[k]?/x)(R:ys[k]?/y)
  (N:∀q,Rt q z TI TO a Gi->S1 (k+1) q->S2 (k+1) q->EX q s.heap.objs.size x y->
   (∀c o,c≠z->c≠i1->c≠i2->s.heap.get? c/o->q.get? c/o)->Q ↑s.heap.objs.size {s with heap:=q}):
  wpAny (TR prog w) A (Builtin.«zip.__next__» {[↑z],[]}) (λfin s'=>∃v,fin=.done (.ret v)/\Q v s') E s:=by
 show wpAny _ _ (field ↑z 2>>=_) _ _ _;refine Gb (DE I rfl (x:=.bool Gx) rfl ?_);show wpAny _ _ (field ↑z 3>>=_) _ _ _;refine Gb (DE I rfl (x:=↑TI) rfl ?_);refine Gb (Eg H rfl ?_);show wpAny _ _ (Dk ↑z>>=_) _ _ _;refine Gb (yo I O λj p i=>?_);have J:∀c o,c≠z->s.heap.get? c/o->j.get? c/o:=λc o h e=>i.extBut _ _ h e;simp -iota only [DK,Ey];refine Gb ?_;rw[<-LU];simp -iota only [LP,Mc];refine Gb (Gb (D2 ?_));show wpAny _ _ (T8 ↑i1>>=_) _ _ _;refine Gb (u.item _ _ _ k x _ (u.keep k _ j L λc r o e=>J c o (by rcases r with rfl|rfl;exact D.i1z;exact D.l1z) e) P λl m d=>Gm (Gm ?_));have C:∀c o,c≠z->c≠i1->s.heap.get? c/o->l.get? c/o:=λc o F G e=>d.extBut _ _ G (J c o F e);refine Gb (Gb (D2 ?_));show wpAny _ _ (T8 ↑i2>>=_) _ _ _;refine Gb (B.item _ _ _ k y _ (B.keep k _ l M λc r o e=>by
  rcases r with rfl|rfl
  .exact C _ o D.i2z D.i12.symm e
  .exact C _ o D.l2z D.l2i1 e) R λg n b=>Gm (Gm (Gm ?_)))
 refine Gb (BH (hsz:=Yy) ?_);have hsz:g.objs.size=s.heap.objs.size:=by rw[b.1,d.1,i.1]
 refine Gm {0,?_};show Q ↑g.objs.size _;rw[hsz];have t:∀c o,g.get? c/o->(g.push {cls:=.type "tuple",data:=.seq #[x,y]}).get? c/o:=λc o e=>Gp _ e;refine N _ (t _ _ (b.extBut _ _ D.i2z.symm (d.extBut _ _ D.i1z.symm p))) (u.keep _ _ _ m λc r o e=>t _ _ ?_) (B.keep _ _ _ n λc r o e=>t _ _ e) (by rw[<-hsz];exact To _ Xb) λc o F G K e=>t _ _ (b.extBut _ _ K (C c o F G e));rcases r with rfl|rfl
 .exact b.extBut _ _ D.i12 e
 .exact b.extBut _ _ D.l1i2 e
theorem XG{M N:Gj}{Y:Fin->Gy->Prop}(F:A.handled=Gq)(d:BG z TI TO i1 i2 l1 l2)(q:iA prog w i1 l1 xs S1)(C:iA prog w i2 l2 ys S2)
  (g:Nb s.heap z TI TO .none\/∃a O X,Rt s.heap z TI TO a O/\s.heap.get? a/X)(R:EX s.heap TI ↑i1 ↑i2)(aa:EX s.heap TO M N)(P:S1 k s.heap)(Q:S2 k s.heap)(T:xs[k]?=Gq\/ys[k]?=Gq)
  (D:∀o c,(∀a b,a≠z->a≠TO->a≠i1->a≠i2->s.heap.get? a/b->o.get? a/b)->(∃b,o.get? c/b/\b.cls=.type "StopIteration")->E ↑c {s with heap:=o}):
  wpAny (TR prog w) A (Builtin.«zip.__next__» {[↑z],[]}) Y E s:=by
 rcases g with g|⟨o,O,X,g,ha⟩
 .show wpAny _ _ (field ↑z 2>>=_) _ _ _;refine Gb (DE g rfl (x:=.bool Gx) rfl ?_);show wpAny _ _ (field ↑z 3>>=_) _ _ _;refine Gb (DE g rfl (x:=↑TI) rfl ?_);refine Gb (Eg R rfl ?_);show wpAny _ _ (Dk ↑z>>=_) _ _ _;refine Gb ?_;unfold Dk;refine Gb (DE g rfl (x:=.none) rfl (Gm ?_));simp -iota only [Mm];refine Gb (Fg ?_);refine Gb (DE g rfl (x:=↑TO) rfl ?_);refine Gb (ES g ⋯ λr y J=>?_);replace y:Nb r z TI TO .ellipsis:=y;have j:∀a b,a≠z->s.heap.get? a/b->r.get? a/b:=λa b f c=>J.extBut _ _ f c;refine Gb ?_;simp -iota only [Be,Bs,LP,Mc];refine Gb (Gb (My ?_));show wpAny _ _ (T8 ↑i1>>=_) _ _ _;have B:=q.keep k _ r P λa m b c=>j a b (by rcases m with rfl|rfl;exact d.i1z;exact d.l1z) c;cases hx:xs[k]? with
  |none=>
   refine Gb (q.fin _ _ _ k _ F B hx λl c h n=>?_);have(L,o,v):=n;have G:Nb l z TI TO .ellipsis:=h _ _ d.i1z.symm y;have I:c≠z:=λx=>by subst x;rw[G]at o;cases o;simp at v
   refine ES G ⋯ λt _ p=>D t c (λa b e _ i _ x=>p.extBut _ _ e (h _ _ i (j _ _ e x))) {L,p.extBut _ _ I o,v}
  |some x=>
   have K:ys[k]?=Gq:=by rcases T with f|f;rw[hx]at f;cases f;exact f
   refine Gb (q.item _ _ _ k x _ B hx λl Z h=>Gm ?_);have S:EX l TO M N:=h.extBut _ _ d.TOi1 (j _ _ d.TOz aa);refine Gb (Eg S rfl ?_);refine Gb (Fv S λt ad p=>?_);refine Gb (Mo (Gm ?_));have G:∀a b,a≠z->a≠i1->a≠TO->s.heap.get? a/b->t.get? a/b:=λa b e u i c=>p.extBut _ _ i (h.extBut _ _ u (j a b e c));refine Gb (Gb (My ?_));show wpAny _ _ (T8 ↑i2>>=_) _ _ _;refine Gb (C.fin _ _ _ k _ F (C.keep k _ t Q λa m b c=>by
    rcases m with rfl|rfl
    .exact G _ b d.i2z d.i12.symm d.TOi2.symm c
    .exact G _ b d.l2z d.l2i1 d.l2TO c) K λab c U n=>?_)
   have(L,o,v):=n;have W:Nb ab z TI TO .ellipsis:=U _ _ d.i2z.symm (p.extBut _ _ d.TOz.symm (h.extBut _ _ d.i1z.symm y));have I:c≠z:=λx=>by subst x;rw[W]at o;cases o;simp at v
   refine ES W ⋯ λac _ V=>D ac c (λa b e u i H x=>V.extBut _ _ e (U _ _ H (G a b e i u x))) {L,V.extBut _ _ I o,v}
 .show wpAny _ _ (field ↑z 2>>=_) _ _ _;refine Gb (DE g rfl (x:=.bool Gx) rfl ?_);show wpAny _ _ (field ↑z 3>>=_) _ _ _;refine Gb (DE g rfl (x:=↑TI) rfl ?_);refine Gb (Eg R rfl ?_);show wpAny _ _ (Dk ↑z>>=_) _ _ _;refine Gb (yo g ha λr y J=>?_);have j:∀a b,a≠z->s.heap.get? a/b->r.get? a/b:=λa b f c=>J.extBut _ _ f c;simp -iota only [DK,Ey];refine Gb ?_;rw[<-LU];simp -iota only [LP,Mc];refine Gb (Gb (D2 ?_));show wpAny _ _ (T8 ↑i1>>=_) _ _ _;have B:=q.keep k _ r P λa m b c=>j a b (by rcases m with rfl|rfl;exact d.i1z;exact d.l1z) c;cases hx:xs[k]? with
  |none=>exact Gb (q.fin _ _ _ k _ F B hx λl c h n=>D l c (λa b e _ i _ x=>h _ _ i (j _ _ e x)) n)
  |some x=>
   have K:ys[k]?=Gq:=by rcases T with f|f;rw[hx]at f;cases f;exact f
   refine Gb (q.item _ _ _ k x _ B hx λl Z h=>Gm (Gm ?_));have o:∀a b,a≠z->a≠i1->s.heap.get? a/b->l.get? a/b:=λa b e u c=>h.extBut _ _ u (j a b e c);refine Gb (Gb (D2 ?_));show wpAny _ _ (T8 ↑i2>>=_) _ _ _;exact Gb (C.fin _ _ _ k _ F (C.keep k _ l Q λa m b c=>by
    rcases m with rfl|rfl
    .exact o _ b d.i2z d.i12.symm c
    .exact o _ b d.l2z d.l2i1 c) K λt c p n=>D t c (λa b e _ i H x=>p _ _ H (o a b e i x)) n)
structure rz(S1 S2:Nat->Heap->Prop)(xs ys:Array Gj)(z TI TO i1 i2 S:Ge)(i:Nat)(h:Heap)(acc:List Gj):Prop where
 zip:(i=0/\Nb h z TI TO .none)\/∃c f oa,Rt h z TI TO c f/\h.get? c/oa/\c≠S/\c≠z/\c≠TO/\c≠i1/\c≠i2
 ti:EX h TI ↑i1 ↑i2
 to:∃a b,EX h TO a b
 s1:S1 i h
 s2:S2 i h
 len:⇑acc=i
 sl:S<h.objs.size
 out:∀(j:Nat)v,acc[j]?/v->∃c x y,v=.ref c/\xs[j]?/x/\ys[j]?/y/\EX h c x y/\c≠S/\c≠z/\c≠TO/\c≠i1/\c≠i2/\z<c
theorem uD{Q:Option Gj->Gy->Prop}{R:Gj->Gy->Prop}(b:s.TypeIs ↑z "zip")(h:wpAny (TR prog w) A.in1 (Builtin.«zip.__next__» {[↑z],[]}) (λfin s'=>∃v,fin=.done (.ret v)/\Q (Ga v) s') (λe s'=>∃o,(∃a,e=.ref a/\s'.heap.get? a/o/\o.cls=.type "StopIteration")/\Q Gq s') s):wpAny (TR prog w) A (pyNext ↑z) Q E s:=by
 unfold pyNext;refine Gb (Fl (DN (name:=EF "__next__") b F.slot_zip_next
  (Dz F.slot_zip_next b F.entry_zip_next (EN h (λfin s'⟨v,e,q⟩=>{v,e,Gm q}) λe s'⟨o,⟨a,c,f,d⟩,q⟩=>?_) (F.args_zip_next_1 _))))
 subst c;exact Gb (Lu (T:="StopIteration") (b:=Gi) ⟨o,f,d⟩ Nr (Gm q))
theorem rz.type{S:Ge}{h:Heap}{a:List Gj}(x:rz S1 S2 xs ys z TI TO i1 i2 S i h a):CC {s with heap:=h} ↑z "zip":=by
 rcases x.zip with⟨_,e⟩|⟨c,f,b,e,_⟩
 .exact{_,e,1}
 .exact{_,e,1}
theorem Qzc{S:Ge}(hh:A.handled=Gq)(p:BG z TI TO i1 i2 l1 l2)(E:iA prog w i1 l1 xs S1)(F:iA prog w i2 l2 ys S2)(u:S≠z/\S≠TI/\S≠TO/\S≠i1/\S≠i2/\S≠l1/\S≠l2):
  nD prog w A z S [z,TO,i1,i2] (min xs.size ys.size) (rz S1 S2 xs ys z TI TO i1 i2 S)
   (λh G=>∀(j:Nat)v,G[j]?/v->∃a x y,v=.ref a/\xs[j]?/x/\ys[j]?/y/\EX h a x y/\a≠S/\z<a):=by
 have D:∀{a:Ge},a≠z->a≠TO->a≠i1->a≠i2->a∉[z,TO,i1,i2]:=λac l a d h=>by simp at h;rcases h with h|h|h|h<;>contradiction
 have t:∀{a:Ge},a∉[z,TO,i1,i2]->a≠z/\a≠TO/\a≠i1/\a≠i2:=λh=>by simp at h;exact h
 refine{λi s G ab ae hi b Y=>?_,λs G ab ae b Y=>?_,λi h e G b k P=>?_}
 .have Z:xs[i]?/xs[i]:=T6 ∅;have hy:ys[i]?/ys[i]:=T6 ∅;have(ta,tb,C):=b.to;have P:=b.sl;refine uD (R:=λ_ _=>True) b.type ?_;have ad:∀e,(∃a r q,Rt e z TI TO a r/\e.get? a/q/\a≠S/\a≠z/\a≠TO/\a≠i1/\a≠i2)->(∃ac l,EX e TO ac l)->S1 (i+1) e->S2 (i+1) e->EX e s.heap.objs.size xs[i] ys[i]->(∀a f,a≠z->a≠TO->a≠i1->a≠i2->s.heap.get? a/f->e.get? a/f)->ab (Ga ↑s.heap.objs.size) {s with heap:=e,toks:=s.toks}:=by
   intro e ah ag I J D m;have W:z<s.heap.objs.size:=by rcases b.zip with⟨_,c⟩|⟨a,r,q,c,_⟩<;>exact Tk c
   have aa:TO<s.heap.objs.size:=Tk C;have ai:i1≠s.heap.objs.size:=T2 (E.there _ _ b.s1).1;have aj:i2≠s.heap.objs.size:=T2 (F.there _ _ b.s2).1;refine Y _ e s.toks {.inr ah,m _ _ p.TIz p.TITO p.TIi1 p.TIi2 b.ti,ag,I,J,by simp -iota [b.len],C6 P (Tk D),λj v n=>?_} λl f g c=>m l f (t g).1 (t g).2.1 (t g).2.2.1 (t g).2.2.2 c;rcases Dh j ⇑G with h|h
   .rw[TB h]at n;have(a,x,y,L,M,N,O,H,R,T,U,V,K):=b.out j v n;exact{a,x,y,L,M,N,m _ _ R T U V O,H,R,T,U,V,K}
   .rw[TU h]at n;have h0:j - ⇑G=0:=by have:=(Gg.mp n).1;simp at this;ext
    rw[h0]at n;simp at n;subst n;have:j=i:=by have:=b.len;ext
    subst this;exact{20,Z,hy,D,Dy P,Dy W,Dy aa,Tb ai,Tb aj,W}
  have W:z<s.heap.objs.size:=by rcases b.zip with⟨_,c⟩|⟨a,r,q,c,_⟩<;>exact Tk c
  have aa:TO<s.heap.objs.size:=Tk C;rcases b.zip with⟨_,o⟩|⟨a,r,q,o,B,Q,c2,c3,c4,c5⟩
  .exact Qmz p E F o b.ti C b.s1 b.s2 Z hy λe X af I J D m=>ad e {32,X,D,Dy P,Dy W,Dy aa,Dy (E.there _ _ b.s1).1,Dy (F.there _ _ b.s2).1} {2,af} I J D m
  .exact OK p E F o B b.ti b.s1 b.s2 Z hy λe X I J D m=>ad e {a,Gi,q,X,m _ _ c2 c4 c5 B,Q,c2,c3,c4,c5} {2,m _ _ p.TOz p.TOi1 p.TOi2 C} I J D λl f b1 _ b3 b4 c=>m l f b1 b3 b4 c
 .obtain⟨ta,tb,C⟩:=b.to;refine uD (R:=λ_ _=>True) b.type (XG (k:=min xs.size ys.size) hh p E F ?_ b.ti C b.s1 b.s2 ?_ λe c m D=>?_)
  .rcases b.zip with⟨_,o⟩|⟨a,r,q,o,B,_⟩
   .exact .inl o
   .exact .inr ⟨a,r,q,o,B⟩
  .rcases Nat.le_total xs.size ys.size with h|h
   .exact .inl (Ei ∅)
   .exact .inr (Ei ∅)
  .obtain⟨f,I,B⟩:=D;refine{f,⟨c,Xb,I,B⟩,Y e s.toks (λj v n=>?_) λl f g c=>m l f (t g).1 (t g).2.1 (t g).2.2.1 (t g).2.2.2 c};have(a,x,y,L,M,N,O,H,R,T,U,V,K):=b.out j v n;exact{a,x,y,L,M,N,m _ _ R T U V O,H,K}
 .obtain⟨ta,tb,C⟩:=b.to;refine{?_,k _ _ (Tb u.2.1) b.ti,{ta,tb,k _ _ (Tb u.2.2.1) C},E.keep _ _ _ b.s1 λl g f c=>k l f ?_ c,F.keep _ _ _ b.s2 λl g f c=>k l f ?_ c,b.len,P,λj v n=>?_}
  .rcases b.zip with⟨K,o⟩|⟨a,r,q,o,B,Q,D⟩
   .exact .inl {K,k _ _ (Tb u.1) o}
   .exact .inr {a,r,q,k _ _ (Tb u.1) o,k _ _ Q B,Q,D}
  .rcases g with rfl|rfl
   .exact Tb u.2.2.2.1
   .exact Tb u.2.2.2.2.2.1
  .rcases g with rfl|rfl
   .exact Tb u.2.2.2.2.1
   .exact Tb u.2.2.2.2.2.2
  .obtain⟨a,x,y,L,M,N,O,H,D⟩:=b.out j v n;exact{a,x,y,L,M,N,k _ _ H O,H,D}
end
theorem Qny:typeLookup (.type "zip") "__len__"=pure Gq:=by rw[FF,Lh];kernel_rfl
theorem XN:typeLookup (.type "zip") "__length_hint__"=pure Gq:=by rw[FF,Lh];kernel_rfl
section
variable{prog:Gn}{w:Tf}{A:DS}{E:Gj->Gy->Prop}{s:Gy}
theorem UF{z:Ge}{Q:Bool->Gy->Prop}(a:s.TypeIs ↑z "zip")(h:Q Gi s):wpAny (TR prog w) A (EB ↑z) Q E s:=by unfold EB;refine Gb (E5 a Qny ?_);show wpAny _ A (specialOf (Tn z) (EF "__length_hint__")>>=_) _ _ _;refine Gb (E5 a XN ?_);exact Gm h
noncomputable abbrev nL(h:Heap)(l1:Ge):Heap:=h.push {cls:=.type "tuple_iterator",data:=.fields #[↑l1,.int 0 0]}
noncomputable abbrev nr(h:Heap)(l1 l2:Ge):Heap:=(nL h l1).push {cls:=.type "tuple_iterator",data:=.fields #[↑l2,.int 0 0]}
noncomputable abbrev nk(h:Heap)(l1 l2:Ge):Heap:=(nr h l1 l2).push {cls:=.type "tuple",data:=.seq #[↑h.objs.size,.ref (nL h l1).objs.size]}
noncomputable abbrev nj(h:Heap)(l1 l2:Ge):Heap:=(nk h l1 l2).push {cls:=.type "tuple",data:=.seq #[.none,.none]}
noncomputable abbrev jy(h:Heap)(l1 l2:Ge):Heap:=(nj h l1 l2).push {cls:=.type "zip",data:=.fields #[.none,.bool Gx,.bool Gx,.ref (nr h l1 l2).objs.size,.ref (nk h l1 l2).objs.size]}
theorem XY(a b:Ge)(n o:Array Gj):
  Meets (Builtin.«zip.__new__» {[.type "zip",↑a,↑b],[]}) (λ_ R s=>s.heap.IsTuple a n/\s.heap.IsTuple b o/\
   R (.ok (.ret (.ref (nj s.heap a b).objs.size))) {s with heap:=jy s.heap a b}):=
 .of_wp λl w A R s h=>by
  have(j,g,d,m,os):=s;have(f,i,h):=h;have k:=sub_zip;have c:C9 (Hx ⟨j,g,d,m,os⟩) a n:=f;have e:C9 (Hx {j.push {cls:=.type "tuple_iterator",data:=.fields #[↑a,.int 0 0]},g,d,m,os}) b o:=IW i _;wp_walk using FN c,FN e
  exact{0,h}
theorem ZE{a b:Ge}{q:Array Gj}(f:s.heap.IsTuple a xs)(g:s.heap.IsTuple b q)
  (h:∀d,Nb d (s.heap.objs.size+4) (s.heap.objs.size+2) (s.heap.objs.size+3) .none->EX d (s.heap.objs.size+2) ↑s.heap.objs.size (.ref (s.heap.objs.size+1))->
   EX d (s.heap.objs.size+3) .none .none->d.IsTupleIter s.heap.objs.size a 0->d.IsTupleIter (s.heap.objs.size+1) b 0->d.objs.size=s.heap.objs.size+5->
   (∀c o,s.heap.get? c/o->d.get? c/o)->Q (.ref (s.heap.objs.size+4)) {s with heap:=d}):
  wpAny (TR prog w) A (call (.type "zip") [↑a,↑b]) Q E s:=by
 refine callType_new F.called_zip (by decide) (F.typeCall_zip_2 _ _) (F.newCall_zip_2 _ _) (λd=>F.args_object_init_3 d _ _) F.entry_zip_new
  (XY a b xs q) {f,g,?_}
 have i:(nL s.heap a).objs.size=s.heap.objs.size+1:=Sf ..;have j:(nr s.heap a b).objs.size=s.heap.objs.size+2:=by rw[Sf,i]
 have k:(nk s.heap a b).objs.size=s.heap.objs.size+3:=by rw[Sf,j]
 have l:(nj s.heap a b).objs.size=s.heap.objs.size+4:=by rw[Sf,k]
 have t:(jy s.heap a b).objs.size=s.heap.objs.size+5:=by rw[Sf,l]
 have e:(jy s.heap a b).get? (nj s.heap a b).objs.size/_:=To _ rfl;have p:(jy s.heap a b).get? (nk s.heap a b).objs.size/_:=Gp _ (To _ Xb);have n:(jy s.heap a b).get? (nr s.heap a b).objs.size/_:=Gp _ (Gp _ (To _ Xb));have m:(jy s.heap a b).get? (nL s.heap a).objs.size/_:=Gp _ (Gp _ (Gp _ (To _ Xb)));have r:(jy s.heap a b).get? s.heap.objs.size/_:=Gp _ (Gp _ (Gp _ (Gp _ (To _ Xb))));show _/\_;rw[j,k,l]at e;rw[i,j]at n;rw[k]at p;rw[i]at m;rw[l];exact{{_,e,1},h _ e n p {_,r,11} {_,m,11} t λc o x=>Gp _ (Gp _ (Gp _ (Gp _ (Gp _ x))))}
theorem wc{H I:Nat->Heap->Prop}{N O:Ge}{l:Array Gj}{n0:Nat}(V:A.handled=Gq)(B:iA prog w n0 N xs H)(C:iA prog w (n0+1) O l I)(J:N<n0)(K:O<n0)(a:s.heap.objs.size=n0+5)
  (Z:Nb s.heap (n0+4) (n0+2) (n0+3) .none)(m:EX s.heap (n0+2) ↑n0 (.ref (n0+1)))(n:EX s.heap (n0+3) .none .none)(r:H 0 s.heap)(t:I 0 s.heap)(Y:min xs.size l.size<=TF)
  (U:∀g u d c,(∀b o,b<n0->s.heap.get? b/o->g.get? b/o)->g.get? (n0+5)=Ga {cls:=.type "list",dict:=Gq,data:=.seq d c,slots:=#[]}->d.size=min xs.size l.size->
   (∀(j:Nat)v,d.toList[j]?/v->∃c x y,v=.ref c/\xs[j]?/x/\l[j]?/y/\EX g c x y/\c≠n0+5/\n0<=c)->Q (.ref (n0+5)) {s with heap:=g,toks:=u}):
  wpAny (TR prog w) A (call (.type "list") [.ref (n0+4)]) Q E s:=by
 have D:=B4 (n:=n0) J K;have G:=Qzc (A:=A.in1.in1) (S:=s.heap.objs.size) V D B C {by rw[a];exact Dy (EL _),by rw[a];exact Dy (by show n0+2<n0+5;exact SH (by decide) _),by rw[a];exact Dy (by show n0+3<n0+5;exact SH (by decide) _),by rw[a];exact Dy (MK (by decide)),by rw[a];exact Dy (by show n0+1<n0+5;exact SH (by decide) _),by rw[a];exact Dy (TV J (DF _ _)),by rw[a];exact Dy (TV K (DF _ _))};refine wV (T:="zip") (hb:=Gi) G (λb hb=>?_) (by rw[a];exact EL _) Y (λz f q=>{.inl {1,f _ _ Z},f _ _ m,{2,f _ _ n},B.keep _ _ _ r λb _ o e=>f b o e,C.keep _ _ _ t λb _ o e=>f b o e,1,q,λj v p=>by simp at p}) (λh d i=>i.type) (by decide) (by decide) (λA E h Q i k=>?_) (λA E h Q i k=>UF i.type k) (λg u d c W L X M=>?_)
 .simp only[Ti,EO,FZ]at hb;rw[a];rcases hb with h|h|h|h<;>rw[h]
  .exact EL _
  .exact SH (by decide) _
  .exact MK (by decide)
  .exact SH (by decide) _
 .rcases i.zip with⟨_,e⟩|⟨c,f,q,e,_⟩
  .exact wpAny_pyIter_zip e k
  .refine Mq (s:={s with heap:=h}) {_,e,1} F.slot_zip_iter (Dz F.slot_zip_iter {_,e,1} F.entry_zip_iter ?_ (F.args_zip_iter_1 _));show wpAny _ _ (ret (.ref (n0+4))) _ _ _;exact Gm {0,"zip",_,{_,e,1},F.slot_zip_next.lookup,k}
 .rw[a]at L M⊢;refine U g u d c (λb o hb e=>W b o (λz=>?_) e) L X λj v p=>?_
  .simp only[Ti,EO,FZ]at z;rcases z with h|h|h|h<;>rw[h]at hb
   .exact absurd hb (NV.mpr (DF _ _))
   .exact absurd hb (NV.mpr (DF _ _))
   .exact absurd hb (EC _)
   .exact absurd hb (NV.mpr (DF _ _))
  .obtain⟨c,x,y,f,q,P,R,S,T⟩:=M j v p;exact{c,x,y,f,q,P,R,S,FI (Sd (DF _ _) T)}
end
end PySem
namespace L2
open PySem PySem.Spec PyProof.Rows
theorem zv.Q4b{X:Cx}{a:List (Ge×SR)}{l:List (Option V)}{H f:Hp}{s:Gy}{h:Heap}{m:Nat}(I:zv X a l H s)(k:∀b u,s.heap.get? b/u->h.get? b/u)(d:∀b,b<s.heap.objs.size->f b=H b)
  (i:∀b o,s.heap.objs.size<=b->f b/o->Yq X.prog X.w f h b o):zv X a l f {s with heap:=h,toks:=m}:=by
 have g:∀b o,H b/o->f b/o:=λb o e=>by rw[d b (I.Ye b o e).lt];exact e
 refine I.un {λb u q _ _ _=>k b u q,λb u q _ _ _=>{u.slots,k b u q},λb u q n _=>by rw[d b (Tk q)];exact n,λb u q _=>{u,k b u q},λb p e=>g b _ e,λb o u e=>g b _ e,λb r e=>{#[],by rw[g b _ e];simp}} λb o e=>?_;by_cases j:b<s.heap.objs.size
 .rw[d b j]at e;exact(I.Ye b o e).jk (λc u _ q=>k c u q) (λc q=>g c _ q) λc p q=>g c _ q
 .exact i b o (RZ j) e
def kU(H:Hp)(v:V)(p:V×V):Prop:=∃c,v=.ref c/\H c/.tup [p.1,p.2]
def QB(K:Gd):List V->Hp->VK->Prop:=λa H Q=>∃p q xs ys,a=[↑p,↑q]/\((Jf K H p xs/\Jf K H q ys)\/(hB K H p xs/\hB K H q ys))/\
 ∀(r:Ge)(es:List V)(H':Hp),Za H H'->H r=Gq->H' r/.lst es->Df (kU H') es (xs.zip ys)->Q ↑r H'
open Classical in
noncomputable def iM(H:Hp)(r:Ge)(es:List V)(xs ys:List V):Hp:=λb=>if b=r then Ga (.lst es)else if h:∃p:V×V,∃j:Nat,es[j]?/↑b/\xs[j]?/p.1/\ys[j]?/p.2 then Ga (.tup [(Fh h).1,(Fh h).2])else H b
section
variable{X:Cx}{zq:List (Ge×SR)}{σ:St}{H:Hp}{s:Gy}
theorem y0{E:Heap}{tk c:Nat}{g:Nat}{e:Array Gj}{l m:List V}{us ws:List Gj}(T:zv X zq σ H s)(I:s.heap.objs.size=g)(rx:Yl l us)(ry:Yl m ws)(hk:∀a D,a<g->s.heap.get? a/D->E.get? a/D)
  (hS:E.get? (g+5)=Ga {cls:=.type "list",dict:=Gq,data:=.seq e c,slots:=#[]})(C:e.size=min ⇑us ⇑ws)(q:⇑l<=TF)
  (Y:∀(j:Nat)v,e.toList[j]?/v->∃c x y,v=.ref c/\us[j]?/x/\ws[j]?/y/\EX E c x y/\c≠g+5/\g<=c):
  ∃d J,zv X zq σ J {s with heap:=E,toks:=tk}/\Za H J/\H (g+5)=Gq/\J (g+5)/.lst d/\Df (kU J) d (l.zip m):=by
 have lx:=⇑rx;have ly:=⇑ry;have ex:∀j:Nat,j<e.size->∃c,e.toList[j]?/Tn c:=λj z=>by
  have b:e.toList[j]?/e[j]:=by rw[Eb,T6 z]
  have(c,x,y,f,_):=Y j _ b;exact{c,by rw[b,f]}
 let d:List V:=(EM e.size).map λj=>match e.toList[j]? with|some (Tn c)=>V.ref c|_=>V.non
 have U:∀(j:Nat)c,e.toList[j]?/Tn c->d[j]?/V.ref c:=λj c b=>by
  have z:j<e.size:=by rw[<-DC];exact(Gg.mp b).1
  show((EM e.size).map _)[j]?=_;rw[Tq,List.getElem?_range z,DZ];simp only[b]
 have ad:∀(j:Nat)a,d[j]?/V.ref a->e.toList[j]?/Tn a:=λj a b=>by
  have z:j<e.size:=by have:=(Gg.mp b).1;simpa[d]using this
  have(c,K):=ex j z;rw[U j c K]at b;cases b;exact K
 have W:⇑d=e.size:=by simp[d]
 have lz:e.size=⇑(l.zip m):=by rw[LR,C,lx,ly]
 have L:∀a(p:V×V)(j:Nat),d[j]?/↑a->l[j]?/p.1->m[j]?/p.2->∃u v,zu p.1 u/\zu p.2 v/\EX E a u v/\a≠g+5/\g<=a:=λa p j f k r=>by have(c,x,y,B,M,N,O,P,Q):=Y j _ (ad j a f);cases B;have(u,q,R):=rx.get k;have(v,A,S):=ry.get r;rw[M]at q;cases q;rw[N]at A;cases A;exact⟨x,y,R,S,O,P,Q⟩
 have aa:∀a(p:V×V)(j:Nat),d[j]?/↑a->l[j]?/p.1->m[j]?/p.2->iM H (g+5) d l m a/.tup [p.1,p.2]:=λa p j f k r=>by have(u,v,r1,r2,n,o,_):=L a p j f k r;have B:∃p:V×V,∃j:Nat,d[j]?/↑a/\l[j]?/p.1/\m[j]?/p.2:=⟨p,j,f,k,r⟩;unfold iM;rw[Gs o,dif_pos B];have(Q,M,N,O):=Ng B;have(u',v',R,S,P,_):=L a (Fh B) Q M N O;have:({cls:=.type "tuple",data:=.seq #[u,v]}:SR)={cls:=.type "tuple",data:=.seq #[u',v']}:=T3 (n.symm.trans P);injection this with _ _ q;injection q with q;injection q with q;injection q with F w;injection w with w;subst F w;rw[r1.inj R,r2.inj S]
 have ab:∀a,a<g->iM H (g+5) d l m a=H a:=λa o=>by unfold iM;rw[Gs (T2 (TV o (DF _ _))),dif_neg];rintro⟨p,j,f,k,r⟩;have(_,_,_,_,_,_,q):=L a p j f k r;exact absurd o (NV.mpr q)
 have ac:∀a,g<=a->H a=Gq:=λa o=>T.Ye.fresh (by rw[I];exact o);exists d,iM H (g+5) d l m,?_,λa D b=>?_,ac _ (DF _ _),(by unfold iM;rw[GX rfl])
 .refine T.Q4b (λa u b=>hk a u (by rw[<-I];exact Tk b) b) (λa o=>ab a (by rw[<-I];exact o)) λa D o b=>?_;by_cases F:a=g+5
  .subst F;have:D=.lst d:=by unfold iM at b;rw[GX rfl]at b;exact(T3 b).symm
   subst this;refine{by rw[W,lz,LR];lia,e.toList,c,?_,by rw[Su];exact hS};have all:∀(h:List Gj)(i:List V),⇑h=⇑i->(∀j:Nat,∀v,h[j]?/v->∃c,v=.ref c/\i[j]?/V.ref c)->Yl i h:=by
    intro h;induction h with
    |nil=>intro i q _;cases i with
     |nil=>exact .nil
     |cons _ _=>simp at q
    |cons v h Z=>intro i q G;cases i with
     |nil=>simp at q
     |cons x i=>have(t,f,k):=G 0 v rfl;simp at k;subst f k;exact .cons rfl (Z i (by simpa using q) λj v A=>by have:=G (j+1) v (by simpa using A);simpa using this)
   refine all e.toList d (by rw[W,DC]) λj v A=>?_;have(t,x,y,f,_):=Y j v A;subst f;exact{t,1,U j t A}
  .by_cases w:∃p:V×V,∃j:Nat,d[j]?/↑a/\l[j]?/p.1/\m[j]?/p.2
   .obtain⟨p,j,f,k,r⟩:=w;rw[aa a p j f k r]at b;cases b;have(u,v,r1,r2,n,_):=L a p j f k r;exact{Yy,[u,v],.cons r1 (.cons r2 .nil),_,n,10}
   .exfalso;unfold iM at b;rw[Gs F,dif_neg w,ac a (by rw[<-I];exact o)]at b;cases b
 .rw[ab a (by rw[<-I];exact(T.Ye a D b).lt)];exact b
 .have all:∀(i:List V)(h:List (V×V)),⇑i=⇑h->(∀(j:Nat)p,h[j]?/p->∃v,i[j]?/v/\kU (iM H (g+5) d l m) v p)->Df (kU (iM H (g+5) d l m)) i h:=by
   intro i;induction i with
   |nil=>intro h C _;cases h with
    |nil=>exact .nil
    |cons _ _=>simp at C
   |cons v i Z=>intro h C G;cases h with
    |nil=>simp at C
    |cons p h=>have(v',f,k):=G 0 p rfl;simp at f;subst f;exact .cons k (Z h (by simpa using C) λj p n=>by have:=G (j+1) p (by simpa using n);simpa using this)
  refine all d (l.zip m) (by rw[W,lz]) λj p n=>?_;rw[Lx]at n;have z:j<e.size:=by have F:=(Gg.mp n.1).1;have w:=(Gg.mp n.2).1;rw[lz,LR];lia
  have(t,K):=ex j z;have:=U j t K;exact{↑t,this,t,1,aa t p j this n.1 n.2}
end
section
variable{X:Cx}{a b:D0}{ta:TA}{p1 p2 pos1 pos2:M4}
theorem vn(hc:X.calm=Gi)(ad:Gl X "list")(af:X.mg "list"=Gq)(ae:Gl X "zip")(ag:X.mg "zip"=Gq)(ha:PA X [a,b] ta)
  (S:T4 [JI (.Name "zip" p2) [a,b] [] pos2] X.env=(Gx,eval (.Call (.Name "zip" p2) [a,b] [] pos2) X.env)::T4 [] X.env:=by rfl)(ac:T4 [a,b] X.env=(Gx,eval a X.env)::T4 [b] X.env:=by rfl)
  (ah:(E7 pos1 (T4 ([]:List D0) X.env)).any (·.1)=Gx:=by rfl)(ai:(E7 pos2 (T4 [b] X.env)).any (·.1)=Gx:=by rfl):
  PE X (.Call (.Name "list" p1) [.Call (.Name "zip" p2) [a,b] [] pos2] [] pos1) (tCB (QB X.K) ta):=by
 intro al s am W an t aa;refine Ef (Jc t ad af boot_list ?_);refine callWith_type1 ?_ S ah;rw[S];show wpAny _ _ (spliced ((Gx,eval (.Call (.Name "zip" p2) [a,b] [] pos2) X.env)::E7 pos1 (T4 ([]:List D0) X.env))) _ _ s;refine FS ?_;refine Ef (Jc t ae ag boot_zip ?_);refine callWith_type1 (Xd (ha pos2 al s am W _ t aa) λR e zz=>?_) ac ai;have(vs,H1,h,r1,q1):=zz;have(p,q,xs,ys,rfl,hq,U):=q1;have(u,o,rfl,ru,rv):=vals2 r1;cases(show u=Tn p from ru);cases(show o=Tn q from rv);have T:=h.ok.hd hc;rcases hq with⟨z,A⟩|⟨z,A⟩
 .obtain⟨R,n,f,aj⟩:=h.list z;have(V,Q,g,ak):=h.list A;have l:p<e.heap.objs.size:=by have(_,c,_):=f.isList;exact Tk c
  have m:q<e.heap.objs.size:=by have(_,c,_):=g.isList;exact Tk c
  have lx:=⇑n;refine call_zip_2 f.isList g.isList λy P C D F G N i=>LZ ?_;refine wc (s:={e with heap:=y}) (n0:=e.heap.objs.size) T (xr (T2 l)) (xr (T2 (TV m (DF _ _)))) l m N P C D {F,Heap.IsList.at f.isList (λd c=>i _ d c)} {G,Heap.IsList.at g.isList (λd c=>i _ d c)} (by rw[Tp,Tp];lia) λab tk Y Z H B I K=>?_;have(w,k,v,x,J,M,L):=y0 (tk:=tk) h rfl n Q (λb d E c=>H b d E (i b d c)) B (by simpa using I) (by lia) (λj o O=>by simpa using K j o O);exact{.ref (e.heap.objs.size+5),k,v,1,U _ w k x J M L}
 .obtain⟨R,n,f,aj⟩:=h.tuple z;have(V,Q,g,ak):=h.tuple A;have f:e.heap.IsTuple p R.toArray:=f;have g:e.heap.IsTuple q V.toArray:=g;have l:p<e.heap.objs.size:=by have(_,c,_):=f;exact Tk c
  have m:q<e.heap.objs.size:=by have(_,c,_):=g;exact Tk c
  have lx:=⇑n;refine ZE f g λy P C D F G N i=>LZ ?_;refine wc (s:={e with heap:=y}) (n0:=e.heap.objs.size) T (AA (T2 l)) (AA (T2 (TV m (DF _ _)))) l m N P C D {F,let⟨d,c,r⟩:=f;{d,i _ d c,r}} {G,let⟨d,c,r⟩:=g;{d,i _ d c,r}} (by rw[Tp,Tp];lia) λab tk Y Z H B I K=>?_;have(w,k,v,x,J,M,L):=y0 (tk:=tk) h rfl n Q (λb d E c=>H b d E (i b d c)) B (by simpa using I) (by lia) (λj o O=>by simpa using K j o O);exact{.ref (e.heap.objs.size+5),k,v,1,U _ w k x J M L}
end
end L2
namespace PySem
theorem Qnm:typeLookup (.type "list_reverseiterator") "__len__"=pure Gq:=by rw[FF,Lh];kernel_rfl
theorem YF:typeLookup (.type "list_reverseiterator") "__length_hint__"=pure (Ga (.builtin "list_reverseiterator.__length_hint__")):=by rw[FF,Lh];kernel_rfl
section
variable{prog:Gn}{w:Tf}{A:DS}{E:Gj->Gy->Prop}{s:Gy}
theorem Qvo{z:Ge}{Q:Bool->Gy->Prop}(b:s.TypeIs ↑z "list_reverseiterator")(h:Q Gx s):wpAny (TR prog w) A (EB ↑z) Q E s:=by
 unfold EB;refine Gb (E5 b Qnm ?_);show wpAny _ A (specialOf (Tn z) (EF "__length_hint__")>>=_) _ _ _;refine Gb (E5 b YF ?_);generalize hid:("list_reverseiterator.__length_hint__":String)=c
 wp_delta
 rw[show splitId c/("list_reverseiterator","__length_hint__")from by subst hid;decide+kernel];subst hid;refine Gb (Lu (T:="list_reverseiterator") (b:=Gi) b (by rw[isSubtype_type];kernel_rfl) ?_);refine FE (λa=>absurd a (by decide)) (λ_=>?_);refine FE (λ_=>?_) (λa=>absurd (by decide+kernel) a);refine FE (λa=>absurd a (by decide+kernel)) (λ_=>?_);exact Gm h
structure Q8v(xs:Array Gj)(it l S:Ge)(i:Nat)(h:Heap)(acc:List Gj):Prop where
 rv:h.IsRevIter it l ((xs.size:Int) - 1 - (i:Int))
 ls:h.IsList l xs
 acc:acc=xs.toList.reverse.take i
theorem SC{xs:Array Gj}{f l S:Ge}(v:A.handled=Gq)(q:S≠f/\S≠l)(n:l≠f):nD prog w A f S [f] xs.size (Q8v xs f l S) (λ_ d=>d=xs.toList.reverse):=by
 refine{λi s d Q E hi c j=>?_,λs d Q E c j=>?_,λi h g d c k _=>?_}
 .have r:xs[xs.size - 1 - i]?/xs[xs.size - 1 - i]:=T6 ∅;have e:(xs.size:Int) - 1 - (i:Int)=((xs.size - 1 - i:Nat):Int):=by ext
  have a:=c.rv;rw[e]at a;refine Nh a c.ls r λg p t=>?_;have x:xs.toList.reverse[i]?/xs[xs.size - 1 - i]:=by rw[EJ (by rw[DC];exact hi),DC,Eb];exact r
  refine j _ g s.toks {?_,c.ls.extBut t.extBut n,?_} λb o m e=>t.extBut b o (λz=>m (by simp[z])) e
  .have u:((xs.size - 1 - i:Nat):Int) - 1=(xs.size:Int) - 1 - ((i+1:Nat):Int):=by ext
   rw[<-u];exact p
  .rw[c.acc,TD,x];rfl
 .have a:=c.rv;rw[show(xs.size:Int) - 1 - (xs.size:Int)= -1 by ext]at a;refine Nv v a λg p=>j g s.toks ?_ λb o m e=>p b o (λz=>m (by simp[z])) e;rw[c.acc,<-DC,<-SI,Tw]
 .exact{c.rv.at λo e=>k f o (Tb q.1) e,c.ls.at λo e=>k l o (Tb q.2) e,c.acc}
end
end PySem
namespace L2
open PySem PySem.Spec PyProof.Rows
def YV(K:Gd):List V->Hp->VK->Prop:=λa H Q=>∃p xs,a=[↑p]/\Jf K H p xs/\∀r,H r=Gq->Q ↑r (zj H r (.lst xs.reverse))
theorem WH{b:List V}{a:List Gj}(h:Yl b a):Yl b.reverse a.reverse:=by
 induction h with
 |nil=>exact .nil
 |cons h _ c=>rw[Lj,Lj];exact c.append (.cons h .nil)
theorem QE{X:Cx}{a:D0}{T:TA}{p1 x k g:M4}(n:X.calm=Gi)(G:Gl X "list")(K:X.mg "list"=Gq)(J:Gl X "reversed")(L:X.mg "reversed"=Gq)(Z:PA X [a] T)
  (p:T4 [JI (.Name "reversed" x) [a] [] g] X.env=(Gx,eval (.Call (.Name "reversed" x) [a] [] g) X.env)::T4 [] X.env:=by rfl)(F:T4 [a] X.env=(Gx,eval a X.env)::T4 [] X.env:=by rfl)
  (M:(E7 k (T4 ([]:List D0) X.env)).any (·.1)=Gx:=by rfl)(N:(E7 g (T4 ([]:List D0) X.env)).any (·.1)=Gx:=by rfl):
  PE X (.Call (.Name "list" p1) [.Call (.Name "reversed" x) [a] [] g] [] k) (tCB (YV X.K) T):=by
 intro l s V H Q I h;refine Ef (Jc I G K boot_list ?_);refine callWith_type1 ?_ p M;rw[p];show wpAny _ _ (spliced ((Gx,eval (.Call (.Name "reversed" x) [a] [] g) X.env)::E7 k (T4 ([]:List D0) X.env))) _ _ s;refine FS ?_;refine Ef (Jc I J L CA ?_);refine callWith_type1 (Xd (Z g l s V H _ I h) λus f zz=>?_) F N;have(vs,W,w,r1,q1):=zz;have(b,xs,rfl,t,q):=q1;have(u,rfl,ru):=vals1 r1;cases(show u=Tn b from ru);have(d,S,O,hz):=w.list t;have hl:=⇑S;have P:b<f.heap.objs.size:=by have(_,e,_):=O.isList;exact Tk e
 refine NR O.isList (LZ ?_);have j:(f.heap.push (revObj b ((d.toArray.size:Int) - 1))).objs.size=f.heap.objs.size+1:=Sf ..;have C:(f.heap.push (revObj b ((d.toArray.size:Int) - 1))).objs.size≠f.heap.objs.size:=by rw[j];exact Bd _
 have D:(f.heap.push (revObj b ((d.toArray.size:Int) - 1))).objs.size≠b:=by rw[j];exact Dy (RM P)
 refine wV (s:={f with heap:=f.heap.push (revObj b ((d.toArray.size:Int) - 1))}) (T:="list_reverseiterator") (hb:=Gx) (SC (xs:=d.toArray) (l:=b) (w.ok.hd n) ⟨C,D⟩ (T2 P)) (λc n=>?_) (by show f.heap.objs.size<(f.heap.push _).objs.size;rw[j];exact EL _) (by rw[Tp];lia)
  (λh2 R _=>{?_,O.isList.at λo e=>R _ o (Gp _ e),by simp}) (λh m v=>let⟨o,r,n,_⟩:=v.rv;⟨o,r,n⟩) (by decide) (by decide) (λA E h Q v t=>Fs (s:={f with heap:=h}) v.rv t) (λA E h Q v t=>Qvo (s:={f with heap:=h}) (let⟨o,r,n,_⟩:=v.rv;⟨o,r,n⟩) t) (λy U m c hk B aa r=>?_)
 .have e:c=f.heap.objs.size:=by simpa using n
  rw[e];show f.heap.objs.size<(f.heap.push _).objs.size;rw[j];exact EL _
 .have i:(d.toArray.size:Int) - 1 - ((0:Nat):Int)=(d.toArray.size:Int) - 1:=by lia
  rw[i];exact{_,R _ _ (To _ Xb),11}
 .have B:y.get? (f.heap.push (revObj b ((d.toArray.size:Int) - 1))).objs.size=Ga {cls:=.type "list",dict:=Gq,data:=.seq m c,slots:=#[]}:=B;have i:f.heap.objs.size<=(f.heap.push (revObj b ((d.toArray.size:Int) - 1))).objs.size:=by rw[j];exact LW _
  have Y:zv X l V (zj W (f.heap.push (revObj b ((d.toArray.size:Int) - 1))).objs.size (.lst xs.reverse)) {f with heap:=y,toks:=U}:=
   w.laid (t':=U) (λc o e=>hk c o (λz=>by
    have:c=f.heap.objs.size:=by simpa using z
    exact absurd (Tk e) (by rw[this];exact EC _)) (Gp _ e)) i
    (show Yq X.prog X.w _ y _ (.lst _)from{by rw[SI];lia,m.toList,c,by rw[r];exact WH S,by rw[Su];exact B})
  exact{.ref (f.heap.push (revObj b ((d.toArray.size:Int) - 1))).objs.size,_,Y,1,q _ (w.Ye.fresh i)}
end L2
namespace Nt
inductive kL:Nat->List (Nat×Nat)->Nat->Prop
 |nil (p:Nat):kL p [] p
 |cons {p q z:Nat} {r:List (Nat×Nat)}:kL q r z->kL p ((p,q)::r) z
theorem Qwu{l:List Nat}{p z:Nat}(b:l.head?/p)(a:l.getLast?/z):kL p (l.zip (l.drop 1)) z:=by
 induction l generalizing p with
 |nil=>cases b
 |cons x r c=>
  cases b;cases r with
  |nil=>cases a;exact .nil _
  |cons y r=>exact .cons (c rfl (by rw[List.getLast?_cons_cons]at a;exact a))
theorem Ch.last{up:Nat->Option Nat}{p:Nat}{l:List Nat}(h:Ch up p l):∃a,l=a++[Yf l]:=by have b:=h.ne;exists l.dropLast;unfold Yf;rw[Lw,Eo b];exact(Lc b).symm
inductive ip(up:Nat->Option Nat)(one other:Nat)(st:List (Nat×Nat)):Prop
 |mk (l1:List Nat) (l2:List Nat) (P:List Nat) (Q:List Nat) (s:List Nat) (m:Nat) (h0:Ch up one l1) (h1:Ch up other l2) (h2:l1=P++m::s) (h3:l2=Q++m::s) (h4:(P=[]\/Q=[]\/P.getLast?≠Q.getLast?)) (h5:st=(P++m::Q.reverse).zip ((P++m::Q.reverse).drop 1)):ip up one other st
theorem zX{P d s c:List Nat}{m g:Nat}(h:P++m::s=d++g::c)(f:⇑s<⇑c):∃u,P=d++g::u/\c=u++m::s:=by
 rcases List.append_eq_append_iff.mp h with⟨a,e,b⟩|⟨a,e,b⟩
 .have:=congrArg Sc b;simp at this;cases a with
  |nil=>simp at b;rw[b.2]at f;ext
  |cons y a=>simp at this;ext
 .cases a with
  |nil=>simp at b;rw[b.2]at f;ext
  |cons y a=>simp only[DG,DB]at b;exact{a,by rw[e,b.1],b.2}
theorem ip.uniq{up:Nat->Option Nat}{h c:Nat}{C i:List (Nat×Nat)}(a:ip up h c C)(b:ip up h c i):C=i:=by
 have(S,T,P,Q,s,m,E,F,G,H,t,rfl):=a;have(I,J,j,k,d,g,l,n,o,p,w,rfl):=b;have M:=E.uniq l;have N:=F.uniq n;subst M N;have q:P++m::s=j++g::d:=by rw[<-G,o]
 have r:Q++m::s=k++g::d:=by rw[<-H,p]
 have e:∀{P Q j k s d:List Nat}{m g:Nat},P++m::s=j++g::d->Q++m::s=k++g::d->(P=[]\/Q=[]\/P.getLast?≠Q.getLast?)->¬⇑s<⇑d:=λx y t f=>by
  have(u,A,K):=zX x f;have(v,B,L):=zX y f;have:u=v:=by have:=K.symm.trans L;exact Mw this
  subst this;rcases t with z|z|z
  .rw[A]at z;simp at z
  .rw[B]at z;simp at z
  .rw[A,B,Sw,Sw,Eo (List.cons_ne_nil _ _)]at z;exact z rfl
 have f:⇑s=⇑d:=by have x:=e q r t;have y:=e q.symm r.symm w;lia
 have(O,D):=Bf q (by simp[f]);have(R,_):=Bf r (by simp[f]);simp only[DB]at D;rw[O,R,D.1]
structure Way(x:ia W ρ)(one other:Nat)(st:List (Nat×Nat)):Prop where
 path:kL one st other
 lk:∀p q,(p,q)∈st->∃k,x.Xr p q/k/\∀n,Cn (x.zt.take n) one other->k<n
 len:⇑st<=2*⇑x.S
 rel:ip x.up one other st
end Nt
namespace K06
open PySem L2 Sb Nt
def nX(H:Hp)(v:V)(p:Nat×Nat):Prop:=∃c,v=.ref c/\H c/.tup [jv p.1,jv p.2]
inductive AB(P:Gn)(w:Tf)(C:Ge)(vs:List V)(H:Hp)(Q:VK):Prop
 |mk (n:Ge) (A:Na) (fs:List Fm) (tb:Nat) (x:Nn) (one:Nat) (other:Nat) (h0:vs=[↑n,jv one,jv other]) (h1:Ym P w C H n A fs tb x) (h2:Wv (Yt fs) (Zx fs) x []) (h3:one∈x.S) (h4:other∈x.S) (h5:x.zg one=x.zg other) (h6:⇑x.S<=1000) (h7:∀(r:Ge)(es:List V)(st:List (Nat×Nat))(H':Hp),Za H H'->H r=Gq->H' r/.lst es->Df (nX H') es st->Way x one other st->Q ↑r H'):AB P w C vs H Q
def qU(P:Gn)(w:Tf)(C:Ge):Sp:=λa H Q _=>AB P w C a H Q
theorem A8(P:List Nat)(a m:Nat):R8 ((P++[a,m]).map jv) (-2:Int)/jv a:=by
 unfold R8 ixN;rw[Gs (by decide),GX (by simp;lia)];have e:((-2:Int)+(⇑((P++[a,m]).map jv):Int)).toNat=⇑P:=by simp;lia
 rw[e];simp
theorem ZA(Q:List Nat)(m:Nat):U2 ((Q++[m]).map jv) Gq (Ga (-1:Int))=Q.map jv:=by
 unfold U2;rw[HT.Ro];have e:HT.Va ⇑((Q++[m]).map jv) ⇑((Q++[m]).map jv) (Ga (-1:Int))=⇑Q:=by show(if(-1:Int)<0 then((-1:Int)+(⇑((Q++[m]).map jv):Int)).toNat else min (-1:Int).toNat ⇑((Q++[m]).map jv))=_;rw[GX (by decide)];simp;lia
 rw[e];simp
theorem OV(l:List V):U2 l (Ga 1) Gq=l.drop 1:=by
 cases l with
 |nil=>rfl
 |cons x r=>rw[iD];rfl
theorem Ad{H:Hp}{a:List V}{l m:List Nat}(h:Df (kU H) a ((l.map jv).zip (m.map jv))):Df (nX H) a (l.zip m):=by
 induction l generalizing a m with
 |nil=>cases h;exact .nil
 |cons x l b=>cases m with
  |nil=>cases h;exact .nil
  |cons y m=>cases h with
   |cons h t=>exact .cons h (b t)
theorem Q89{A G g:Prop}(k:(A->G)->g)(f:A->G):g:=k f
theorem Q85{c d:Type}{A G:c->d->Prop}{g:Prop}(k:(∀a b,A a b->G a b)->g)(f:∀a b,A a b->G a b):g:=k f
section
variable{P:Gn}{w:Tf}{K:Gd}{mg:TM->Option Gj}{base:Heap}
theorem AO:Q7 ["self","one","other","climb","descent","stops"] ["self","one","other"] (Qo md):=by eq_refl
theorem ZM{al fU R:Ge}{fd am:Dn}(F:Wd K "way" "Net.way" md al fd)(ak:Jj K mg R)(y:I0 mg)(mU:Yp K R "way_up" fU)(GU:Q3 P w K mg base Ya 1 fU am ["self","place"] (Ka P w R))(bU:zk K am ["self","place"] []):
  Q3 P w K mg base Ya 2 al fd ["self","one","other"] (qU P w R):=by
 refine F.ok AO (λu W g e H=>?_) (λv A E s W u g e f H=>?_)
 .obtain⟨n,A,Y,tb,x,D,r,rfl,_⟩:=H;rfl
 have(n,A,Y,tb,x,D,r,rfl,X,z,oS,tS,he,hS,q):=H;have an:Yj 1 _:=f.mono ∅;have nd:=AO.nd;show∃t,Xu ?my _ t/\_;let aB:Vq ?my md 3:={_,Qc (Qz 5 nd (Zg X5 {3} (QE rfl rfl y.list rfl y.reversed (Qa (Z3 Wn {4} Yv (Yd (Jz V4 Qi))) Qd)))) (Qg (Qt (vn rfl rfl y.list rfl y.zip (Qa {5} (Qa (Z3 Wn {5} (Yd Qi) Yv) Qd)))))}
 let aC:Vq ?my md 2:=⟨_,Qc (Wu Tj (PW.pt (Iu (Qp oi (Qm Zp rfl y.len GY (Qa {3} Qd)) Qi (Qu _)) (Iu (Qp oi (Qm Zp rfl y.len GY (Qa {4} Qd)) Qi (Qu _))
    (Jn (Qp Xs (Qn Ze {3} (Jz V4 Qi)) (Qn Ze {4} (Jz V4 Qi)) (Qu _)))))) (Qc (Zn (jw Te Ep Er O3 {3})) (Qg (Zn (jw Te Ep Er O3 {4}))))) aB.2⟩
 exists _,Qc (Qz 3 nd (Zm {0} ak.cl mU GU an bU .nil Q5 (Qa {1} Qd))) (Qc (Qz 4 nd (Zm {0} ak.cl mU GU an bU .nil Q5 (Qa {2} Qd))) aC.2);have(C,k):=z.fst.chain D oS;have(L,l):=z.fst.chain r tS;have aq:=z.fst.chS k oS;have ar:=z.fst.chS l tS;have aD:=Xw k.nodup aq;have aE:=Xw l.nodup ar;have(dx,o1):=X.ob;refine{0,n,dx,0,o1,yY _,0,n,A,Y,tb,x,D,C,1,X,k,aq,by ext,λj H1 T c1 e1=>?_};refine{0,n,dx,0,T _ _ o1,yY _,0,n,A,Y,tb,x,r,L,1,X.same T,l,ar,by ext,λh H2 g2 d2 e2=>?_};have ax:=T.trans g2;have aA:W h=Gq:=T.free d2;have ap:j≠h:=Qe e1 d2;have er:Yf C=Yf L:=(z.root D r C L oS tS k l).mp he;have(P0,f1):=k.last;have(Q0,f2):=l.last;dsimp only[Ui];exists λao au i=>iy λ(b a U:List Nat)(c:Nat)=>jz (ao=⇑b) (C=b++c::U) (L=a++c::U) (au=[Ga ↑n,Ga (jv D),Ga (jv r),Ga ↑j,Ga ↑h,Gq]) (Za W i) (i j/.lst ((b++[c]).map jv)) (i h/.lst ((a++[c]).map jv)),
  {_,P0,Q0,[],Yf C,1,f1,by rw[er];exact f2,1,ax,by rw[<-f1];exact g2 _ _ e1,by rw[er,<-f2];exact e2}
 rintro ao au i ⟨b,a,U,c,rfl,I,J,rfl,Z,B,S⟩;have lc:⇑((b++[c]).map jv)=⇑b+1:=by simp
 have ld:⇑((a++[c]).map jv)=⇑a+1:=by simp
 have lP:⇑b+1<=⇑C:=by rw[I];simp
 have lQ:⇑a+1<=⇑L:=by rw[J];simp
 have ay:(b++c::a.reverse).head?/D:=by
  have(aa,f):=k.head;rw[I]at f;cases b with
  |nil=>simp at f⊢;exact f.1
  |cons d b=>simp at f⊢;exact f.1
 have az:(b++c::a.reverse).getLast?/r:=by
  have(aa,f):=l.head;rw[J]at f;rw[Sw];have:(c::a.reverse).getLast?/r:=by
   cases a with
   |nil=>simp at f⊢;exact f.1
   |cons d a=>simp at f;rw[Lj,<-DG,Sy,f.1]
  rw[this];rfl
 apply Q89 (A:=b=[]\/a=[]\/b.getLast?≠a.getLast?)
 .intro O;exists 0,j,0,.inl (Qk B),3010;rw[lc];by_cases u:b=[]
  .have m:b=[]\/a=[]\/b.getLast?≠a.getLast?:=.inl u;rw[Td (by rw[u];decide)];refine Q4 (Q4 ?_);exact O m
  rw[Tg (by have:0<⇑b:=Lz.mpr u;ext)];refine Yo {0,h,0,.inl (Qk S),3010,?_};rw[ld];by_cases v:a=[]
  .have m:b=[]\/a=[]\/b.getLast?≠a.getLast?:=.inr (.inl v);rw[Td (by rw[v];decide)];refine Q4 (Q4 ?_);exact O m
  rw[Tg (by have:0<⇑a:=Lz.mpr v;ext)];ac_nf;obtain⟨e,d,M⟩:∃e d,b=e++[d]:={b.dropLast,b.getLast u,(Lc u).symm};obtain⟨g,E,N⟩:∃g E,a=g++[E]:={a.dropLast,a.getLast v,(Lc v).symm};intros;have av:i j/.lst ((e++[d,c]).map jv):=by rw[B,M];simp
  have aw:i h/.lst ((g++[E,c]).map jv):=by rw[S,N];simp
  refine Yo {0,{0,j,201,Qk av,A8 _ _ _,0,{0,h,201,Qk aw,A8 _ _ _,10,?_}}};rw[mV];by_cases Q:d=E
  .subst Q;subst M N;rw[Tg rfl];refine Yo {_,λ_ _ H=>H,?_};have ae:((e++[d]++[c]).map jv)[⇑((e++[d]++[c]).map jv) - 1]?/jv c:=by simp
   have af:((g++[d]++[c]).map jv)[⇑((g++[d]++[c]).map jv) - 1]?/jv c:=by simp
   have ac:((e++[d]++[c]).map jv).dropLast=(e++[d]).map jv:=by rw[TZ (l₂:=[c])];simp
   have ad:((g++[d]++[c]).map jv).dropLast=(g++[d]).map jv:=by rw[TZ (l₂:=[c])];simp
   exists 0,.inl {13,Qk B},j,301,B,ae;rw[ac];have V:(zj i j (.lst ((e++[d]).map jv))) h/.lst ((g++[d]++[c]).map jv):=by rw[Qh (Tb ap)];exact S
   exists 0,.inl {13,Qk V},h,301,V,af;rw[ad];refine{⇑e,by simp,e,g,c::U,d,1,by rw[I];simp,by rw[J];simp,1,λab o G=>?_,?_,Qb}
   .rw[Qh (Qe G aA),Qh (Qe G c1)];exact Z ab o G
   .rw[Qh ap,Qb]
  .have m:b=[]\/a=[]\/b.getLast?≠a.getLast?:=.inr (.inr (by rw[M,N,Sy,Sy];intro G;exact Q (T3 G)));rw[Td Q];refine Q4 ?_;exact O m
 .intro m;refine{0000,{h,0,Qk S,λM u=>?_}};rw[ZA];have Q:=Ql (o:=.lst (_root_.List.map jv a)) B (Qe B u);refine{M,0,Qk Qb,λN v=>?_};have z2:=Ql (o:=.lst (_root_.List.map jv a).reverse) Q (Qe Q v);refine{j,N,301,z2,Qb,small (by rw[SI,Gv,Gv,Gk];simp only[TQ,S8];ext),λe ai=>?_};have ag:Fw jv (b++[c])++(Fw jv a).reverse=(b++c::a.reverse).map jv:=by simp
  rw[ag];dsimp only[Ui];refine{00,{0,{e,0,Qk Qb,λg E=>?_}}};rw[OV];have aj:e≠g:=Qe Qb E;have O:Za i (zj (zj (zj (zj i M (.lst (Fw jv a))) N (.lst (Fw jv a).reverse)) e (.lst ((b++c::a.reverse).map jv))) g (.lst (((b++c::a.reverse).map jv).drop 1))):=((Qf u _).trans (Qf v _)).trans ((Qf ai _).trans (Qf E _));refine{e,g,30,.inl {Qk (Ql Qb aj),Qk Qb},λaa es V sm r0 ah G=>?_};rw[<-CF]at G;exact q aa es _ V (Z.trans (O.trans sm)) (Z.free (O.free r0)) ah (Ad G) {Qwu ay az,λp q' hm=>z.fst.way k l I J m p q' hm,by rw[LR,Gk,TQ,SI];ext,222,k,l,I,J,m,1}
end
end K06
namespace PySem
section
variable{prog:Gn}{w:Tf}{A:DS}{E:Gj->Gy->Prop}{s:Gy}{d v:Ge}{es:Array Lq}{ep:Nat}
theorem Qqg{Q:Gj->Gy->Prop}(f:s.heap.IsValuesView v d)(j:s.heap.I8 d es ep)
  (h:Q ↑s.heap.objs.size {s with heap:=s.heap.push {cls:=.type "dict_valueiterator",data:=.fields #[↑d,.int 0 0,.int es.size 0,.int ep 0]}}):
  wpAny (TR prog w) A (pyIter ↑v) Q E s:=by
 have(ov,e,i,c):=id f;have(o,g,k,a):=id j;refine Mq f.typeIs F.slot_dict_values_iter (Dz F.slot_dict_values_iter f.typeIs F.entry_dict_values_iter ?_ (F.args_dict_values_iter_1 _));unfold Builtin.«dict_values.__iter__»;refine Gb (Gm ?_);refine Gb ?_;unfold B5;refine Gb (DE e c (x:=↑d) rfl (Gm ?_));refine Gb ?_;unfold Bg;refine Gb (EG g a ?_);refine Gb (S9 g a ?_);have b:Ev "dict_valueiterator"=Gx:=by decide
 simp -iota only [b,DK,Ey];refine DA (Gm {0,"dict_valueiterator",_,{_,To _ Xb,1},F.slot_dict_valueiterator_next.lookup,?_});simpa[rawInt]using h
theorem UN{c:Ge}{i:Nat}{e:Lq}{Q:Option Gj->Gy->Prop}(a:s.heap.IsValIter c d i es.size ep)(u:s.heap.I8 d es ep)(m:es[i]?/e)
  (p:∀h,h.IsValIter c d (i+1) es.size ep->Eu c s.heap h->Q (Ga e.val) {s with heap:=h}):
  wpAny (TR prog w) A (pyNext ↑c) Q E s:=by
 have(o,n,q,l):=id a;have(v,j,r,g):=id u;unfold pyNext;refine Gb (Fl (DN (name:=EF "__next__") a.typeIs F.slot_dict_valueiterator_next
  (Dz F.slot_dict_valueiterator_next a.typeIs F.entry_dict_valueiterator_next ?_ (F.args_dict_valueiterator_next_1 _))))
 refine Gb (Gm ?_);refine Gb ?_;refine Gb ?_;first|refine Gb (EY a.typeIs (Gm ?_))|refine Gb (SF a.typeIs (Gm ?_))
 refine Gb (F0 n l ?_);have k:Ev "dict_valueiterator"=Gx:=by decide
 simp -iota only [k,DK,Ey];show wpAny _ _ (if(Tn d==DD)=Gi then _ else _) _ _ s;rw[Gs (show¬((Tn d==DD)=Gi)from TC)];refine Gb (Gm ?_);refine Gb (EG j g ?_);rw[Gs ⋯];refine Gb (Gm ?_);refine Gb (S9 j g ?_);rw[Gs ⋯];refine Gm ?_;have f:i<es.size:=by
  rcases Dh i es.size with h|h
  .exact h
  .rw[Ei h]at m;cases m
 have t:es[i]=e:=by rw[T6 f]at m;exact T3 m
 simp only[show¬((i:Int)<0)from by lia,Ey,Em,T6 f];refine Gb ?_;first|refine Gb (EY a.typeIs (Gm ?_))|refine Gb (SF a.typeIs (Gm ?_))
 refine Gb (Fe a.typeIs ?_);show wpAny _ _ (setField ↑c 1 (rawInt ((i:Int)+1))>>=_) _ _ s;refine Gb (Lp n l ⋯ ?_);have b:(s.heap.update c (Fn (·.setIfInBounds 1 (rawInt ((i:Int)+1))))).IsValIter c d (i+1) es.size ep:=
  {_,DT _ n (Fd (Sh l _)),(Mr ..).trans q,by rw[Sh l];simp -iota [rawInt]}
 refine Gb (D2 ?_);refine Gb (Fe (s:={s with heap:=s.heap.update c (Fn (·.setIfInBounds 1 (rawInt ((i:Int)+1))))}) b.typeIs ?_);refine Gb (Fe (s:={s with heap:=s.heap.update c (Fn (·.setIfInBounds 1 (rawInt ((i:Int)+1))))}) b.typeIs ?_);show wpAny _ _ (pure es[i].val) _ _ _;rw[t];exact Gm (Gm {0,Gm (p _ b (D9 ..))})
theorem Qxa{f:Ge}{i:Nat}{Q:Option Gj->Gy->Prop}(n:A.handled=Gq)(a:s.heap.IsValIter f d i es.size ep)(p:s.heap.I8 d es ep)(g:es.size<=i)
  (l:∀h,Nq f s.heap h->Q Gq {s with heap:=h}):wpAny (TR prog w) A (pyNext ↑f) Q E s:=by
 have(o,k,h,j):=id a;have(q,c,m,b):=id p;unfold pyNext;refine Gb (Fl (DN (name:=EF "__next__") a.typeIs F.slot_dict_valueiterator_next
  (Dz F.slot_dict_valueiterator_next a.typeIs F.entry_dict_valueiterator_next ?_ (F.args_dict_valueiterator_next_1 _))))
 refine Gb (Gm ?_);refine Gb ?_;refine Gb ?_;first|refine Gb (EY a.typeIs (Gm ?_))|refine Gb (SF a.typeIs (Gm ?_))
 refine Gb (F0 k j ?_);have e:Ev "dict_valueiterator"=Gx:=by decide
 simp -iota only [e,DK,Ey];show wpAny _ _ (if(Tn d==DD)=Gi then _ else _) _ _ s;rw[Gs (show¬((Tn d==DD)=Gi)from TC)];refine Gb (Gm ?_);refine Gb (EG c b ?_);rw[Gs ⋯];refine Gb (Gm ?_);refine Gb (S9 c b ?_);rw[Gs ⋯];refine Gm ?_;simp only[show¬((i:Int)<0)from by ext,Ey,Em,Ei g];refine Gb ?_;first|refine Gb (EY a.typeIs (Gm ?_))|refine Gb (SF a.typeIs (Gm ?_))
 show wpAny _ _ (setField ↑f 0 .none>>=_) _ _ s;refine Gb (Lp k j ⋯ ?_);show wpAny _ _ (newExc (.type "StopIteration") []>>=_) _ _ _;refine Gb ?_;simp -iota only [newExc,newTuple];refine Gb (DA ?_ (by size_fits));refine Gb (m:=firstArgMember _ _) (Bi (a:=DD) (by first|rfl|(simp -iota only [firstArgMember];rfl)) ?_);refine DA ?_ (by size_fits);simp -iota only [raiseNew];refine Gb (NH ?_);rw[show A.in1.handled=Gq from n];refine Gb (Gm (Bj ?_));refine Gb (Lu (T:="StopIteration") (b:=Gi) {_,To _ Xb,1} Nr ?_);exact Gm (l _ (((D9 ..).extBut.push _).push _))
theorem Walks.Qy0(t:A.handled=Gq)(I d:Ge)(n:d≠I)(c:Array Lq)(p:Nat):
  Walks prog w A I [I,d] [I] c.size (λi v=>∃e,c[i]?/e/\v=e.val) (λi h=>h.IsValIter I d i c.size p/\h.I8 d c p) where
 sub:=λb f=>by simp at f;simp -iota [f]
 frame:=λ_ _ _ a q=>{a.1.at λo e=>q I ⋯ o e,a.2.at λo e=>q d ⋯ o e}
 item:=λi s Q E hi a g=>by have r:c[i]?/c[i]:=T6 hi;refine UN a.1 a.2 r λl j k=>?_;exact g _ l s.toks {_,r,1} {j,a.2.at λo e=>(k.2 d n).trans e} λb o f e=>k.extBut b o (λh=>f (by simp -iota [h])) e
 done:=λs Q E a g=>Qxa t a.1 a.2 (Gz _) λl m=>g l s.toks λb o f e=>m b o (λh=>f (by simp -iota [h])) e
 self:=λ_ _ _ _ a g=>wpAny_pyIter_valiter a.1 g
theorem Km:BD prog w "dict_values" v d es.size (λi x=>∃e,es[i]?/e/\x=e.val) (λh=>h.IsValuesView v d/\h.I8 d es ep) where
 type:=λ_ a=>a.1.typeIs
 there:=λ_ a=>{let⟨_,ho,_⟩:=a.1;Tk ho,a.2.lt}
 keep:=λ_ _ a c=>{let⟨o,ho,x⟩:=a.1;{o,c v (.inl Xb) o ho,x},a.2.at λo e=>c d (.inr Xb) o e}
 notList:=by decide
 notTuple:=by decide
 hint:=λ_ _ _ _ a b=>CO a.1.typeIs b
 iter:=λ_ _ f a=>{2,(λ_ _ b=>Qqg a.1 a.2 b),Walks.Qy0 f _ d (T2 a.2.lt) es ep,{{_,To _ Xb,11},a.2.at λo e=>Gp _ e}}
end
end PySem
namespace L2
open PySem PySem.Spec PyProof.Rows
variable{P:Gn}{w:Tf}{H:Hp}{X:Cx}{σ:St}{a:Ge}{zw:List (Wg×V)}{tg:D0}
def vvw(v d:Ge):HO:=.ext λh=>h.IsValuesView v d
theorem WK{h:Heap}{v d:Ge}(x:h.IsValuesView v d):Yq P w H h v (vvw v d):=by
 exists x,?_
 .obtain⟨o,a,_⟩:=x;exact⟨o,a⟩
 .rintro b c ⟨o,a,r⟩ k;exact{o,k o a,r}
section
variable{X:Cx}{o:D0}{to:TE}{name:TM}{apos cpos:M4}{id:String}{r:V->List V->Hp->VK->Prop}
def Q5h(P:Gn)(w:Tf)(r:V->List V->Hp->VK->Prop)(to:TE):TE:=λσ H Q=>to σ H λx H1=>(∃d zw,x=.ref d/\H1 d/Uw P w d zw)/\r x [] H1 Q
theorem PF(slot:Slot "dict" name id)(e:typeOf (.builtin id)=pure (.type "method_descriptor"))(m:iG X id r)(n:PE X o to)
  (b:attributeBase o name X.env (eval o X.env)=eval o X.env:=by rfl)(c:(apos.endLine==cpos.line)=Gi:=by rfl):PE X (.Call (.Attribute o name apos) [] [] cpos) (Q5h X.prog X.w r to):=by
 intro a s g H Q I h;refine MH b c (Xd (n a s g H _ I h) λv u w=>?_);have(x,i,f,t,ty,q):=w;have(d,p,rfl,j):=ty;cases(show v=Tn d from t);have(k,l):=tF f j;exact{"dict",id,SN,slot,e,k,l,SW rfl (NB (m a u g i ↑d [] _ [] Q f rfl .nil q))}
inductive tx(P:Gn)(w:Tf)(x:V)(vs:List V)(H:Hp)(Q:VK):Prop
 |mk (d:_) (zw:_) (h0:x=↑d) (h1:vs=[]) (h2:DH P w H d zw) (h3:∀v,H v=Gq->Q ↑v (zj H v (vvw v d))):tx P w x vs H Q
def P2(P:Gn)(w:Tf):V->List V->Hp->VK->Prop:=λx a H Q=>tx P w x a H Q
theorem Q0m:iG X "dict.values" (P2 X.prog X.w):=by intro c s y H x u v t Q I l k h;have(d,i,rfl,rfl,D,q):=h;cases(show v=Tn d from l);cases k;have(z,g,w,j,o,n,m,e,f,p,r,a):=kj I D.at_;have b:s.TypeIs ↑d "dict":={o,e,f.1};refine Dz Mz b B6 ?_ (BI _);refine Gb ?_;unfold HK;refine Gb (Fc b ?_);show wpAny _ _ (pure d) _ _ s;refine Gm ?_;show wpAny _ _ (Lg d>>=_) _ _ s;unfold Lg;rw[Gs (by rw[g];exact TC)];refine Gb (Gm ?_);refine Gb (DA (Gm {0,?_}));exact{↑s.heap.objs.size,_,I.laid (a:=s.heap.objs.size) (o:=vvw s.heap.objs.size d) (t':=s.toks) (λ_ _ q=>Gp _ q) (Gz _) (WK {_,To _ Xb,11}),1,q _ (I.Ye.fresh (Gz _))}
theorem XM(K:X.calm=Gi):Up X (.type "list") (λxs H Q=>∃v d b,xs=[↑v]/\H v/vvw v d/\DH X.prog X.w H d b/\∀l,H l=Gq->Q ↑l (zj H l (.lst (b.map λp=>p.2.2)))):=by
 intro m s R H xs V Q I r h;have(v,d,b,rfl,l,D,q):=h;have(u,rfl,O):=vals1 r;cases(show u=Tn v from O);have(z,S,P,n,o,es,ep,E,F,G,w,j):=kj I D.at_;have x:s.heap.IsValuesView v d:=(I.Ye v _ l).1;have e:es.size=⇑b:=by rw[GJ n,<-Gv (f:=entryOfKey (Vx X.prog X.w)),<-w,DC]
 refine Bb (Km (es:=es) (ep:=ep)) (I.ok.hd K) ⟨x,o,E,F,G⟩ (by rw[e];exact z) λy A a C N J c=>?_;have g:⇑(b.map λp=>p.2.2)<=TF:=by rw[Gv];exact z
 have l:Yl (b.map λp=>p.2.2) a.toList:=by
  have k:es.toList.map (·.val)=P.map λq=>q.2.2:=by rw[w,Di];rfl
  have f:a.toList=es.toList.map (·.val):=by
   refine L8 λi=>?_;by_cases hi:i<a.size
   .obtain⟨M,L,l⟩:=c.2 i a[i] (T6 hi);rw[Eb,T6 hi,Tq,Eb,L,l];rfl
   .have L:=c.1;rw[De (by simp;lia),De (by simp;lia)]
  rw[f,k];clear q z w k f g e c D j;induction n with
  |nil=>exact .nil
  |@cons p q T U L t M=>rw[Tt,Tt];exact .cons L.2.2 M
 have B:zv X m R (zj H s.heap.objs.size (.lst (b.map λp=>p.2.2))) {s with heap:=y,toks:=A}:=
  I.laid (t':=A) N (Gz _) (show Yq X.prog X.w _ y _ (.lst _)from{g,a.toList,C,l,by rw[Su];exact J})
 exact{↑s.heap.objs.size,_,B,1,q _ (I.Ye.fresh (Gz _))}
end
def um:HO->Prop
 |.dK _=>True
 |.frz _ (.dK _)=>True
 |_=>False
theorem zv.swap{g:List (Ge×SR)}{s:Gy}{u j:HO}(I:zv X g σ H s)(e:H a/u)(k:um u)(b:um j)(D:∀o v,X.H₀ a≠Ga (.frz o v))(l:Yq X.prog X.w (zj H a j) s.heap a j):zv X g σ (zj H a j) s:=by
 have i:∀b,H b=Gq->b≠a:=λb d z=>by rw[z,e]at d;cases d
 have w:∀b f,H b/.tup f->b≠a:=λb f d z=>by rw[z,e]at d;cases d;exact k
 have E:∀b y,H b/.own y->b≠a:=λb f d z=>by rw[z,e]at d;cases d;exact k
 have F:∀b r,H b/.tbl r->b≠a:=λb f d z=>by rw[z,e]at d;cases d;exact k
 refine{I.ok,I.os,I.bare,{I.base.keep,I.base.slot,λb o A n C=>?_,I.base.there,λb f h=>?_,λb o v h=>?_,λb r h=>?_},I.loc,I.cell,?_,λx c h=>?_,λp h=>?_,λb o h=>?_,I.len}
 .have:=I.base.free b o A n C;rw[Qh (i b this)];exact this
 .have:=I.base.Qv b f h;rw[Qh (w b f this)];exact this
 .have m:b≠a:=λz=>D o v (z▸h);rw[Qh m];exact I.base.Qba b o v h
 .obtain⟨m,t⟩:=I.base.Qc1 b r h;exact{m,by rw[Qh (F _ _ t)];exact t}
 .rw[Qh (i _ I.free)];exact I.free
 .rw[Qh (i _ (I.Iz x c h))];exact I.Iz x c h
 .obtain⟨t,m,B⟩:=I.pin p h;exact{t,by rw[Qh (i _ m)];exact m,B}
 .by_cases d:b=a
  .subst d;rw[Qb]at h;cases h;exact l
  .rw[Qh d]at h;exact(I.Ye b o h).jk (λc v _ q=>q) (λc q=>by rw[Qh (E c b q)];exact q) λc f q=>by rw[Qh (w c f q)];exact q
def fz(o:SR)(zw:List (Wg×V)):HO:=.frz o (.dK zw)
theorem QQ{b:Hp}{h:Heap}(x:Yq P w H h a (.dK zw)):Yq P w b h a (.dK zw):=x
def lM(a:Ge)(o:SR)(zw:List (Wg×V)):It:={λi H=>i<⇑zw/\H a/fz o zw,λi H x H'=>H'=H/\∃p,zw[i]?/p/\x=kV p.1,λi H=>⇑zw<=i/\H a/fz o zw}
theorem YT{k:Wg}{u:Gj}(h:jG k u=Gi):zu (kV k) u:=by
 rcases Xl h with⟨i,t,rfl,rfl⟩|⟨x,t,rfl,rfl⟩
 .exact⟨t,Xb⟩
 .exact⟨t,Xb⟩
theorem KM{c:List (Wg×Gj)}(r:KV zw c){i:Nat}{p:Wg×V}(h:zw[i]?/p):∃u,c[i]?/(p.1,u):=by
 unfold KV at r;induction r generalizing i with
 |nil=>simp at h
 |@cons a b g k e t f=>
  cases i with
  |zero=>simp at h;subst h;have(j,d):=b;exact{d,by simp -iota [e.1]}
  |succ i=>simp -iota only [SO]at h⊢;exact f h
theorem XB{K:Gd}(l c:Ge)(a:SR)(m:List (Wg×V))(C:Array Lq)(r:Nat)(x:a.data=.dict C r):jc P w K tg (lM l a m) [c] c (λi h=>h.IsKeyIter c l i ⇑m r) where
 mem:=by simp
 obj:=λi h e f g=>by
  have b:f=c:=by simpa using g
  subst b;have(a,b,Q,d):=e;exact{a,b,λT z=>by rw[d]at z;cases z}
 keep:=λi h t e k=>e.at λa b=>k c ⋯ a b
 item:=by
  intro X J hw I S i U s W A Y j v e M;subst J hw I;have(hi,N):=M;have(n,z,hd,y,q,B):=j.Ye l _ N;have(aa,o',ab,p,L,o,O):=B.dictAt;rw[n]at p;cases p;rw[x]at o;cases o;have T:m[i]?/m[i]:=Gf hi;have(u,hu):=KM q T;have(D,E,f2,F,G,H):=v c ⋯;have R:s.heap.IsKeyIter c l i ⇑y r:=by rw[<-⇑q];exact e
  refine wpAny_pyNext_dict_item (knd:=Y2 X.prog X.w) R ⟨a,C,n,L,x,O⟩ hu λac t hk Q sb=>?_;have Z:zv X U W A {s with heap:=t}:=j.turned (t':=s.toks) (λf a g b=>(sb.2 f g).trans b) D E F G H;rw[<-⇑q]at Q;have(o2,e2,c2,d2):=id Q;exact{ac,1,kq (s:={s with heap:=t}) e2 c2 d2 (by decide) {kV m[i].1,A,Z,YT hk,{13,T,1},Q,λf g=>(v f g).1}}
 done:=by
  intro X J hw I S i U s W A Y j v e M;subst J hw I;have(hi,N):=M;have(n,z,hd,y,q,B):=j.Ye l _ N;have(aa,o',ab,p,L,o,O):=B.dictAt;rw[n]at p;cases p;rw[x]at o;cases o;have(D,E,f2,F,G,H):=v c ⋯;have T:⇑m=⇑y:=⇑q;have R:s.heap.IsKeyIter c l i ⇑y r:=by rw[<-T];exact e
  exact wpAny_pyNext_dict_end (knd:=Y2 X.prog X.w) (j.ok.hd S) R ⟨a,C,n,L,x,O⟩ (De (by lia)) λt Q=>{1,j.turned (t':=s.toks) (λf a g b=>Q f a g b) D E F G H}
 self:=λ_ _ _ _ _ e h=>Nu e h
inductive tV(R:It->Hp->Prop)(x:V)(H1:Hp):Prop
 |mk (a:_) (zw:_) (h0:x=↑a) (h1:((H1 a/.dK zw/\∀o,R (lM a o zw) (zj H1 a (fz o zw))))):tV R x H1
def YR(te:TE):TI:=λσ H R=>te σ H λx H1=>tV R x H1
inductive wM(t:TS)(D:Ends)(σ:St)(H:Hp):Prop
 |mk (a:_) (zw:_) (h0:H a/.dK zw) (h1:t {nx:=(λσ' H'=>∃o,H' a/fz o zw/\D.nx σ' (zj H' a (.dK zw))),rt:=(λv H'=>∃o,H' a/fz o zw/\D.rt v (zj H' a (.dK zw))),bk:=(λσ' H'=>∃o,H' a/fz o zw/\D.bk σ' (zj H' a (.dK zw))),ct:=(λσ' H'=>∃o,H' a/fz o zw/\D.ct σ' (zj H' a (.dK zw)))} σ H):wM t D σ H
def Q5b(t:TS):TS:=λD σ H=>wM t D σ H
section
variable{X:Cx}{tg:D0}
theorem zv.yn{b:List (Ge×SR)}{s:Gy}(I:zv X b σ H s)(e:H a/.dK zw):∀o v,X.H₀ a≠Ga (.frz o v):=λo v z=>by rw[I.base.Qba a o v z]at e;cases e
theorem wm{e:D0}{u:TE}(D:PE X e u):PI X tg e (YR u):=by
 intro d s w H R I h;refine Xd (D d s w H _ I h) λv i J=>?_;have(x,y,j,F,E):=J;have(a,f,e,l,q):=E;subst e;cases F;have(z,p,G,g,m):=nI j.Ye l;have(A,o,n,t,C,c,r):=m.dictAt;refine wpAny_pyIter_dict (knd:=Y2 X.prog X.w) p ⟨o,n,t,C,c,r⟩ ?_;have k:zv X d w (zj y a (fz o f)) i:=j.swap l trivial trivial (j.yn l) ⟨t,z,p,G,g,m⟩;refine{i.heap.objs.size,[i.heap.objs.size],20,k.kept (t':=i.toks) λb o e=>Gp _ e,XB a _ o f n A c,?_,λb B=>?_,q o}
 .rw[⇑g];exact{_,To _ Xb,11}
 .have e:b=i.heap.objs.size:=by simpa using B
  subst e;exact k.jh (Gz _) (k.Ye.fresh (Gz _))
theorem yb{m:DQ}{t:TS}(h:PS X m t):PS X m (Q5b t):=by
 intro c s w H D I n;have(a,k,e,q):=n;have p:=I.yn e;have un:∀{b:St}{i:Hp}{l:Gy}{o:SR},zv X c b i l->i a/fz o k->zv X c b (zj i a (.dK k)) l:=λd g=>d.swap g trivial trivial p (by have(_,r):=d.Ye a _ g;exact QQ r)
 refine Xd (h c s w H _ I q) λf l r=>?_;cases f with
 |next=>have(b,i,d,o,g,j):=r;exact⟨b,_,un d g,j⟩
 |cont=>have(b,i,d,o,g,j):=r;exact{b,_,un d g,j}
 |brk=>have(b,i,d,o,g,j):=r;exact{b,_,un d g,j}
 |ret v=>have(x,b,i,d,u,o,g,j):=r;exact{x,b,_,un d g,u,j}
end
theorem vy{o:SR}{g:TG}{k:TS}{D:Ends}(b:Nat->St->Hp->Prop)(l:b 0 σ H)(r:∀i σ H,i<=⇑zw->b i σ H->H a/fz o zw)
  (hs:∀i p σ H,zw[i]?/p->b i σ H->g (kV p.1) σ H λf H2=>k {D with nx:=b (i+1),ct:=b (i+1),bk:=D.nx} f H2)(n:∀σ H,b ⇑zw σ H->D.nx σ H):
  ∃W:Nat->Nat->St->Hp->Prop,(∃m,W 0 m σ H)/\∀i m σ H,W i m σ H->
   ((lM a o zw).stop i H/\D.nx σ H)\/((lM a o zw).go i H/\∃N:St->Hp->Prop,(∀d c,N d c->∃j,j<m/\W (i+1) j d c)/\∀x c,(lM a o zw).yld i H x c->g x σ c λf H2=>k {D with nx:=N,ct:=N,bk:=D.nx} f H2):=by
 exists λi m σ H=>m=⇑zw - i/\i<=⇑zw/\b i σ H,{⇑zw,by simp,Ts _,l};rintro i m σ H ⟨rfl,hi,p⟩;have q:=r i σ H hi p;by_cases h:i<⇑zw
 .refine .inr {⟨h,q⟩,b (i+1),λd c t=>{⇑zw - (i+1),by ext,1,h,t},λx c y=>?_};have(e,y,s,j):=y;subst e j;exact hs i y σ _ s p
 .have e:i=⇑zw:=by ext
  subst e;exact .inl {{Gz _,q},n σ H p}
def lU(lo:Int)(n:Nat):It:={λi _=>i<n,λi H x H'=>H'=H/\x=.int (lo - i),λi _=>n<=i}
theorem Qq8{K:Gd}(c:Ge)(m:Int)(n:Nat):jc P w K tg (lU m n) [c] c (λi h=>Nm h c (m+(i:Nat)*(-1)) ((n:Int) - (i:Nat)) (-1)) where
 mem:=by simp
 obj:=λi h a b f=>by
  have e:b=c:=by simpa using f
  subst e;exact{_,a,λv z=>by have g:Hn _=IY v:=z;cases g}
 keep:=λi h j a k=>k c ⋯ _ a
 item:=by intro X A hw y B i d s D H E I l a C;subst A hw y;have(p,q,G,r,u,x):=l c ⋯;have W:=Ho (prog:=X.prog) (w:=X.w) (I.ok.hd B) c m (-1) n;refine W.item i s _ _ C a λv j z J g L=>?_;have(t,rfl):=J;have F:zv X d D H {s with heap:=j,toks:=z}:=I.turned (λb o f e=>L b o (by simpa using f) e) p q r u x;refine{0,kq (s:={s with heap:=j,toks:=z}) (n:="range_iterator") g rfl rfl (by decide) {.int (m - i),H,F,{t,?_},⟨Xb,Xb⟩,g,λb f=>(l b f).1}};congr 1;lia
 done:=by intro X A hw y B i d s D H E I l a C;subst A hw y;have(p,q,G,r,u,x):=l c ⋯;exact MQ (I.ok.hd B) a (by have:n<=i:=C;lia) λj g=>{1,I.turned (t':=s.toks) (λb o f e=>g b o f e) p q r u x}
 self:=λ_ _ _ _ _ a h=>MR a h
theorem rangeSize_down(n:Nat):SJ ((n:Int) - 1) (-1) (-1)=n:=by unfold SJ;simp -iota only [show¬((-1:Int)>0) by decide,Ey,show -(-1:Int)=1 by decide,C2];split<;>lia
theorem small_down{n:Nat}(h:n<=1000000):ND ((n:Int) - 1) (-1) (-1)=Gi:=by unfold ND;rw[rangeSize_down];simp -iota only [Bv,T5,Bool.or_eq_true,decide_eq_true_eq,FR,show¬((-1:Int)>0) by decide,Ey];lia
inductive vK(R:It->Hp->Prop)(vs:List V)(H1:Hp):Prop
 |mk (n:Nat) (h0:vs=[.int ((n:Int) - 1),.int (-1),.int (-1)]) (h1:n<=1000000) (h2:R (lU ((n:Int) - 1) n) H1):vK R vs H1
def KY(ta:TA):TI:=λσ H R=>ta σ H λa H1=>vK R a H1
theorem KQ{a b c:D0}{v:TA}{p j:M4}(C:Gl X "range")(D:X.mg "range"=Gq)(A:PA X [a,b,c] v)(hs:T4 [a,b,c] X.env=[(Gx,eval a X.env),(Gx,eval b X.env),(Gx,eval c X.env)]:=by rfl)(i:T4 [b,c] X.env=[(Gx,eval b X.env),(Gx,eval c X.env)]:=by rfl):
  PI X tg (.Call (.Name "range" p) [a,b,c] [] j) (KY v):=by
 intro f s w H R I h;refine JR (Jc I C D HS (EA (Xd (A j f s w H _ I h) λL g K=>?_) (by rw[hs,i]) (by rw[i];rfl)));have(M,u,x,J,F):=K;have(n,e,E,q):=F;subst e;cases J with
 |cons r k=>
  cases k with
  |cons G k=>
   cases k with
   |cons m k=>
    cases k;have(t,rfl):=r;have(t',rfl):=G;have(d,rfl):=m;refine call_range_3 (by decide) ?_ (.inl (MT ∅));refine NL (Hq ..) (small_down E) ?_;have l:zv X f w u {g with heap:=g.heap.push {cls:=.type "range",data:=.fields #[.int ((n:Int) - 1) t,.int (-1) t',.int (-1) d]},toks:=g.toks}:=x.kept λb o e=>Gp _ e;refine⟨(g.heap.push {cls:=.type "range",data:=.fields #[.int ((n:Int) - 1) t,.int (-1) t',.int (-1) d]}).objs.size,[(g.heap.push {cls:=.type "range",data:=.fields #[.int ((n:Int) - 1) t,.int (-1) t',.int (-1) d]}).objs.size],_,_,u,Xb,
     l.kept (t':=g.toks) λb o e=>Gp _ e,Qq8 _ ((n:Int) - 1) n,?_,λb B=>?_,q⟩
    .have y:((n:Int) - 1)+((0:Nat):Int)*(-1)=(n:Int) - 1:=by simp
     have z:(n:Int) - ((0:Nat):Int)=SJ ((n:Int) - 1) (-1) (-1):=by rw[rangeSize_down];simp
     show Nm _ _ (((n:Int) - 1)+((0:Nat):Int)*(-1)) ((n:Int) - ((0:Nat):Int)) (-1);rw[y,z];exact To _ rfl
    .have e:b=(g.heap.push {cls:=.type "range",data:=.fields #[.int ((n:Int) - 1) t,.int (-1) t',.int (-1) d]}).objs.size:=by simpa using B
     subst e;exact l.jh (Gz _) (l.Ye.fresh (Gz _))
theorem Kj{h:Int}{n:Nat}{g:TG}{k:TS}{D:Ends}(b:Nat->St->Hp->Prop)(l:b 0 σ H)
  (hs:∀i σ H,i<n->b i σ H->g (.int (h - i)) σ H λf H2=>k {D with nx:=b (i+1),ct:=b (i+1),bk:=D.nx} f H2)(o:∀σ H,b n σ H->D.nx σ H):
  ∃W:Nat->Nat->St->Hp->Prop,(∃m,W 0 m σ H)/\∀i m σ H,W i m σ H->
   ((lU h n).stop i H/\D.nx σ H)\/((lU h n).go i H/\∃N:St->Hp->Prop,(∀d a,N d a->∃j,j<m/\W (i+1) j d a)/\∀x a,(lU h n).yld i H x a->g x σ a λf H2=>k {D with nx:=N,ct:=N,bk:=D.nx} f H2):=by
 exists λi m σ H=>m=n - i/\i<=n/\b i σ H,{n,by simp,Ts _,l};rintro i m σ H ⟨rfl,hi,p⟩;by_cases c:i<n
 .refine .inr {c,b (i+1),λd a j=>{n - (i+1),by ext,1,c,j},λx a y=>?_};have(e,y):=y;subst e y;exact hs i σ _ c p
 .have e:i=n:=by ext
  subst e;exact .inl {Gz _,o σ H p}
inductive Ak(vs:List V)(H:Hp)(Q:VK):Prop
 |mk (d:_) (zw:_) (ks:_) (h0:vs=[↑d]) (h1:H d/.dK zw) (h2:zw.map (·.1)=ks.map FJ) (h3:⇑zw<64) (h4:∀(r:Ge)(ns:List Int),H r=Gq->ns.Perm ks->ns.Pairwise (·<=·)->Q ↑r (zj H r (.lst (ns.map V.int)))):Ak vs H Q
def ZY:List V->Hp->VK->Prop:=λa H Q=>Ak a H Q
theorem Qze{h:Heap}:∀{b:List (Wg×V)}{d:List (Wg×Gj)}{c:List Int}{a:List Gj},KV b d->b.map (·.1)=c.map FJ->⇑a=⇑d->(∀(i:Nat)(u:Gj),a[i]?/u->∃k x,d[i]?/(k,x)/\(Y2 P w).is k u=Gi)->MY a c:=by
 intro b;induction b with
 |nil=>
  intro d c a t e f _;cases t;cases a with
  |cons=>cases f
  |nil=>
   cases c with
   |nil=>exact .nil
   |cons=>cases e
 |cons p b n=>
  intro d c a t e f g;cases t with
  |cons r t=>
   cases c with
   |nil=>cases e
   |cons k c=>
    cases a with
    |nil=>cases f
    |cons u a=>
     simp -iota only [Tt,DB]at e;have(o,x,j,l):=g 0 u rfl;simp at j;have:o=FJ k:=by rw[<-e.1,r.1,j]
     subst this;have(q,rfl):=NX (k:=k) (v:=u) l;exact .cons _ _ (n t e.2 (by simpa using f) λi u m=>g (i+1) u m)
theorem Qrf{a:List Gj}{b:List Int}(h:MY a b):Yl (b.map V.int) a:=by
 induction h with
 |nil=>exact .nil
 |cons n t r c=>exact .cons {40} c
theorem VS(M:X.calm=Gi):Up X (.builtin "sorted") ZY:=by
 intro m s U H Y W Q I r h;have(d,zw,D,rfl,R,C,P,q):=h;have(u,rfl,T):=vals1 r;cases(show u=Tn d from T);have(z,N,y,n,K):=nI I.Ye R;have(ep,t):=K.dictAt;have c:⇑zw=⇑y:=⇑n;refine Mf kind_sorted plain_sorted entry_sorted (args_sorted1 _) ?_;unfold Builtin.«sorted»;refine Gb (m:=checkCount "sorted" 1 1 _) (Gm ?_);refine Gb (HL (A:=X.A.in1) (JJ (knd:=Y2 X.prog X.w) (kvs:=y) (ep:=ep) N) (I.ok.hd M) t (by rw[<-c];exact z) λf E a w g=>?_);have j:⇑a.toList=⇑y:=by rw[DC];exact g.1
 have L:MY a.toList D:=Qze (P:=X.prog) (w:=X.w) (h:=f) n C j λi u S=>g.2 i u (by rw[<-Eb];exact S);have A:zv X m U H {s with heap:=f,toks:=E}:=I.kept w;refine Gb (wpAny_newList ?_ (by rw[j,<-c];exact z));have v:(f.push {cls:=.type "list",data:=.seq a.toList.toArray}).get? f.objs.size/seqObj "list" a.toList.toArray 0:=To _ rfl;refine Gb (D2 ?_);refine Dz Ha {_,v,1} CQ ?_ (CG _);refine list_sort_tree v L (by rw[j,<-c];exact P) λout l G B J=>?_;exists 40;refine Gm {0,?_};have(e,O):=sortedHeap_at (out:=out) v;have k:∀b o,f.get? b/o->(sortedHeap (f.push {cls:=.type "list",data:=.seq a.toList.toArray}) f.objs.size a.toList out).get? b/o:=λb o p=>by rw[sortedHeap_old (T2 (Tk p)) (by rw[size_push'];exact RM (Tk p))];exact Gp _ p
 have x:⇑l<=TF:=by
  rw[B.length_eq];have:⇑D=⇑zw:=by have:=congrArg Sc C;simpa using this.symm
  rw[this];exact z
 have F:=A.laid (a:=f.objs.size) (o:=.lst (l.map V.int)) (t':=E) k (Gz _) {by rw[Gv];exact x,out.toList,e,Qrf G,by rw[Su];exact O};exact{↑f.objs.size,_,F,1,q _ _ (A.Ye.fresh (Gz _)) B J}
end L2
namespace K06
open PySem L2 Sb Nt
variable{X:Ge->Prop}{H H' H1 H0:Hp}{v:V}{ks:List Nat}{k a b p q tb m j:Nat}{fs:List Fm}{x:Nn}{N:Nat->Nat->Option Nat}{ps S ts U:List Th}{u t:Th}{f C r n L d D fW fB M fR fL f0 fI fN CP CB fC fA:Ge}{fd fdW fdB fdR fdL fdI fdN fdA:Dn}{A:Na}{st:List (Nat×Nat)}{lks:List Lk}{xs ys:List V}{P:Gn}{w:Tf}{ens:List En}{tl:Tl}{α:Type}{ds:List DI}
inductive zr(C:Ge)(vs:List V)(H:Hp)(Q:VK):Prop
 |mk (n:Ge) (A:Na) (fs:List Fm) (x:Nn) (p:Nat) (h0:vs=[↑n,jv p]) (h1:(∃dx,H n/.ins C dx (Xp A))) (h2:(∃ws,H A.f/.lst ws/\Df (Og H) ws fs)) (h3:Rd H A.l (.dK (dS x.S λp=>jv (x.zg p)))) (h4:p<⇑fs) (h5:(∀q∈Zx fs p,q∈x.S)) (h6:⇑(Zx fs p)<=1000000) (h7:∀(c:Ge)(H':Hp),Za H H'->H c=Gq->Og H' ↑c (Zv (Yt fs) (Zx fs) x.zg p)->Q ↑c H'):zr C vs H Q
def zf(C:Ge):Sp:=λa H Q _=>zr C a H Q
abbrev Row:=TM×List Nat×Nat
inductive U3(H:Hp)(X:Ge->Prop)(v:V)(r:Row):Prop
 |mk (c:_) (l:_) (h0:v=↑c) (h1:H c/.tup [.str r.1,↑l,jv r.2.2]) (h2:H l/.lst (r.2.1.map jv)) (h3:¬X l):U3 H X v r
theorem U3.kp(i:∀{c:Ge}{a:List V},H c/.tup a->H' c/.tup a)(g:∀{c:Ge}{a:List V},H c/.lst a->¬X c->H' c/.lst a){r:Row}(h:U3 H X v r):U3 H' X v r:=by have(c,l,d,e,f,b):=h;exact{c,l,d,i e,g f b,b}
theorem U3.ex{Y:Ge->Prop}(f:∀c a,H c/.lst a->¬X c->¬Y c){r:Row}(h:U3 H X v r):U3 H Y v r:=by have(c,l,b,d,a,e):=h;exact{c,l,b,d,a,f _ _ a e}
inductive U1(H:Hp)(X:Ge->Prop)(v:V)(rs:List Row):Prop
 |mk (r:_) (es:_) (h0:v=↑r) (h1:H r/.lst es) (h2:¬X r) (h3:Df (U3 H X) es rs):U1 H X v rs
theorem U1.kp{X:Ge->Prop}{H b:Hp}(l:∀{c:Ge}{a:List V},H c/.tup a->b c/.tup a)(e:∀{c:Ge}{a:List V},H c/.lst a->¬X c->b c/.lst a){v:V}{f:List Row}(h:U1 H X v f):U1 b X v f:=by have(r,g,i,j,d,k):=h;exact{r,g,i,e j d,d,Qr k λ_ _ h=>h.kp l e}
theorem U1.ex{X Y:Ge->Prop}{H:Hp}(b:∀c a,H c/.lst a->¬X c->¬Y c){v:V}{d:List Row}(h:U1 H X v d):U1 H Y v d:=by have(r,c,e,a,f,g):=h;exact{r,c,e,a,b _ _ a f,Qr g λ_ _ h=>h.ex b}
noncomputable def Vu(fs:List Fm)(x:Nn)(N:Nat->Nat)(p:Nat):Row:=(Yt fs p,(Zx fs p).map (λq=>N (x.zg q)),N (x.zg p))
structure tK(fs:List Fm)(x:Nn)(rs:List Row):Prop where
 ex:∃N:Nat->Nat,(∀p∈x.S,∀q∈x.S,N (x.zg p)=N (x.zg q)->x.zg p=x.zg q)/\(∀p∈x.S,Vu fs x N p∈rs)/\∀r∈rs,∃p∈x.S,r=Vu fs x N p
 nd:(rs.map λr=>(r.1,r.2.1)).Nodup
inductive u9(P:Gn)(w:Tf)(C:Ge)(vs:List V)(H:Hp)(Q:VK):Prop
 |mk (n:Ge) (A:Na) (fs:List Fm) (tb:Nat) (x:Nn) (h0:vs=[↑n]) (h1:Ym P w C H n A fs tb x) (h2:iV fs x.S) (h3:Wv (Yt fs) (Zx fs) x []) (h4:⇑x.S<=1000) (h5:∀(v:V)(rs:List Row)(H':Hp),Za H H'->U1 H' (λb=>∃o,H b/o) v rs->tK fs x rs->Q v H'):u9 P w C vs H Q
def xj(P:Gn)(w:Tf)(C:Ge):Sp:=λa H Q _=>u9 P w C a H Q
theorem Pg{l:Nat}(b:l∉ks)(a:k∈ks++[l]):(ks++[l]).idxOf k=if k=l then ⇑ks else ks.idxOf k:=by
 rw[RK];by_cases h:k=l
 .subst h;rw[Gs b,GX rfl];simp
 .have:k∈ks:=by
   rcases Gh.mp a with z|z
   .exact z
   .exact absurd (by simpa using z) h
  rw[GX this,Gs h]
theorem ri(e:a∈ks)(f:b∈ks)(h:ks.idxOf a=ks.idxOf b):a=b:=by have c:=Ma (E9 e);have d:=Ma (E9 f);rw[<-c,<-d];simp only[h]
def jt(fs:List Fm)(x:Nn)(N:Nat->Nat)(X:Ge->Prop)(H:Hp)(e:KE)(p:Nat):Prop:=e.1=Xn (Zv (Yt fs) (Zx fs) x.zg p)/\U3 H X e.2.2 (Vu fs x N p)
theorem wL{N:Nat->Nat}{d:List KE}{f:List Nat}(h:Df (jt fs x N X H) d f)(k:Fm):(Ys d (Xn k)).isSome=Gi↔∃p∈f,Zv (Yt fs) (Zx fs) x.zg p=k:=by
 induction h with
 |nil=>simp[Ys]
 |@cons e p d f g t i=>
  by_cases c:e.1=Xn k
  .rw[Xc c];simp only[NO,true_iff];exact{p,Tc,Js (g.1.symm.trans c)}
  .rw[Y9 c,i];constructor
   .rintro⟨q,a,b⟩;exact{q,Gr _ a,b}
   .rintro⟨q,a,b⟩;rcases Ti.mp a with rfl|a
    .exact absurd (by rw[g.1,b]) c
    .exact⟨q,a,b⟩
theorem Q0d{N:Nat->Nat}{f:List KE}{b:List Nat}(i:U3 H X v (Vu fs x N p))(a:∀q∈b,Zv (Yt fs) (Zx fs) x.zg q=Zv (Yt fs) (Zx fs) x.zg p->Vu fs x N q=Vu fs x N p)(h:Df (jt fs x N X H) f b):
  Df (jt fs x N X H) (f.map λe=>if e.1=Xn (Zv (Yt fs) (Zx fs) x.zg p)then(e.1,e.2.1,v)else e) b:=by
 induction h with
 |nil=>exact .nil
 |@cons e q f b d t j=>
  refine .cons ?_ (j λq g=>a q (Gr _ g));dsimp only;by_cases c:e.1=Xn (Zv (Yt fs) (Zx fs) x.zg p)
  .rw[GX c];exists d.1;rw[a q Tc (Js (d.1.symm.trans c))];exact i
  .rw[Gs c];exact d
theorem Qzq{a:Ge}{u:HO}(r:Rd H a u)(g:Za H H'):Rd H' a u:=by
 rcases r with r|⟨o,r⟩
 .exact .inl (g _ _ r)
 .exact .inr {o,g _ _ r}
theorem pK{a:Ge}{S:List Nat}{f:Nat->V}(h:Rd H a (.dK (dS S f)))(b:p∈S):Vr H a (jv p) (Ga (f p)):=.inl {_,ki p,h,1,(ko b).symm}
section
variable{P:Gn}{w:Tf}{K:Gd}{mg:TM->Option Gj}{base:Heap}
theorem Qr0(F:Wd K "key_of" "Net.key_of" Oo f fd)(g:Jj K mg C)(M:I0 mg):Q3 P w K mg base Ya 1 f fd ["self","place"] (zf C):=by
 refine F.ok oC (λvs m O N c=>?_) (λab d ac s m vs O N X c=>?_)
 .obtain⟨n,d,a,x,p,rfl,_⟩:=c;rfl
 have(n,d,a,x,p,rfl,(t,H),(J,S,u),le,B,W,hl,T):=c;have Y:=Ju X;have nd:=oC.nd;exists _,Qc (Qz 2 nd (Qn Ze (Qx {0}) {1}))
  (Qg (Qt (Zf (Qa (Qn Qs {2} Qi) (Qa (Xz Ub rfl M.tuple Dg (Qa
   (Ua (te:=lC (mw K (Uj 1) "leads") (Uj 0)) (own:=["part"]) (fv:=[(0,"self")]) rfl (S:=(by eq_refl:X8 (Qo Oo) _)) (.cons rfl (DW Xb) rfl .nil) (Uy (Qn Qs {2} Qi))
    (λ_ _ _ _ _=>Yz (i:=0) tD rfl (DW Xb) (Si Xb)) (λ_ _ _ _ _=>Wk) (λ_ _ _ _ _=>Yc Y (Qx {1}) {0} (λ_ _=>rfl))) Qd)) Qd)))))
 have hw:p<⇑J:=by rw[GJ u];exact B
 ac_nf;have(y,E,o,h,R,v,z):=Qy u (Gf hw);intros;rw[ku B]at E;cases E;have Q:R8 [V.str (Yt a p),V.ref h] (1:Int)/↑h:=Xt;exists 0,n,C,t,30,H,g.cl,g.Qdj,Jt _,0,d.f,J,301,Qk S,Zk (Gf hw);rw[R];refine{0,o,201,Qj v,Oj _ _,0,o,201,Qj v,Q,h,1,{_,Qj z},λaa D=>?_};have s3:=Qf D (.lst []);refine Jx (K:=K) (a:=h) (xs:=(Zx a p).map jv) (small (by rw[Gv];ext)) (λi k l e=>(∃L,l=[L,Ga ↑n])/\Za m e/\k=((Zx a p).take i).map λq=>jv (x.zg q))
  {{40},s3,by simp} (λi k l e _ c=>Qj (c.2.1 _ _ z)) ?_ ?_
 .rintro i y k l e hi Z ⟨⟨L,rfl⟩,b,rfl⟩ j;rw[Tq]at hi;cases eq:(Zx a p)[i]? with
  |none=>rw[eq]at hi;cases hi
  |some q=>
   rw[eq]at hi;cases hi;exists 0,n,C,t,30,b _ _ H,g.cl,g.Vv,Xf _,0,d.l,0,pK (Qzq le b) (W q (Gc eq)),j,{40},λA G r=>?_
   .rw[Qh (Qe r D)];exact b _ _ r
   .rw[TD,eq,TZ];rfl
 .rintro k l e Z ⟨_,b,rfl⟩ j;rw[Gv,Tw]at j;refine{aa,0,.inl {Qk j,λG U=>?_}};have s4:=Qf U (.tup ((Zx a p).map λq=>jv (x.zg q)));refine{Yy,λr A=>?_};have I:=Qf A (.tup [.str (Yt a p),↑G]);refine T r _ ((b.trans s4).trans I) (b.free (s4.free A)) {r,G,1,Qb,?_};rw[I _ _ Qb];simp only[Zv,Di];rfl
theorem sG{S:List Nat}{f:Nat->V}{i:Nat}{a:Wg×V}(h:(dS S f)[i]?/a):∃p,S[i]?/p/\a=(ki p,f p):=by
 unfold dS at h;rw[Tq]at h;cases e:S[i]? with
 |none=>rw[e]at h;cases h
 |some p=>rw[e]at h;cases h;exact⟨p,Xb,Xb⟩
theorem AH:Q7 ["self","numbers","place","found","key"] ["self"] (Qo jm):=by eq_refl
theorem UC:(["lead","numbers"]:List TM).Nodup:=by decide+kernel
theorem Y3{fK:Ge}{aK:Dn}(F:Wd K "rows" "Net.rows" jm f fd)(W:Jj K mg C)(aI:I0 mg)(mK:Yp K C "key_of" fK)(GK:Q3 P w K mg base Ya 1 fK aK ["self","place"] (zf C))(bK:zk K aK ["self","place"] []):
  Q3 P w K mg base Ya 2 f fd ["self"] (xj P w C):=by
 refine F.ok AH (λM I J E e=>?_) (λQ h T s I M J E N e=>?_)
 .obtain⟨n,h,d,tb,x,rfl,_⟩:=e;rfl
 have(n,h,d,tb,x,rfl,X,FO,aJ,hS,q):=e;have hu:=Ju N;have a8:=N.units;have a7:Yj 1 _:=N.mono (by lia);have nd:=AH.nd;show∃t,Xu ?my _ t/\_;let w5:Vq ?my jm 4:={_,Qg (Qt (Xz (XM Xb) rfl aI.list T9 (Qa (PF Mz CH Q0m {3}) Qd)))}
 let w4:Vq ?my jm 3:=⟨_,Qc (yb (Yb Tj rfl (wm (Qx {0})) (Z7 2 nd)
   (Qc (Qz 4 nd (Zm {0} W.cl mK GK a7 bK .nil Q5 (Qa {2} Qd)))
   (Qg (Rw (Zf (Qa (Qn Qs {4} Qi) (Qa
     (Ua (te:=lC (Uj 1) (Uj 0)) (own:=["lead"]) (fv:=[(1,"numbers")]) rfl (S:=(by eq_refl:X8 (Qo jm) _)) (.cons rfl (DW Xb) rfl .nil) (Uy (Qn Qs {4} Qi))
      (λ_ _ _ _ _=>Yz (i:=0) UC rfl (DW Xb) (Si Xb)) (λ_ _ _ _ _=>Wk) (λ_ _ _ _ _=>Yc hu {1} {0} (λ_ _=>rfl)))
     (Qa (Yc hu {1} (Yc hu (Qx {0}) {2} (λ_ _=>rfl)) (λ_ _=>rfl)) Qd))))
    (jY {3} {4} (jZ a8))))))) w5.2⟩
 let w3:Vq ?my jm 2:={_,Qc (V3 (i:=3) (te:=rb P w) nd rfl (DW Xb) Rv) w4.2}
 let w2:Vq ?my jm 1:=⟨_,Qc (yb (Yb Tj rfl (wm (Qx {0})) (Z7 2 nd)
   (Qg (Zn (X0 SN La Lb Ql7 {1} (Qa (Yc hu (Qx {0}) {2} (λ_ _=>rfl)) (Qa (Qm WC rfl aI.len GY (Qa {1} Qd)) Qd))))))) w3.2⟩
 exists _,Qc (V3 (i:=1) nd rfl (Si Xb) Jr) w2.2;have(dx,o1):=X.ob;intro num aq;have s1:=Qf aq (.dK []);have X1:=X.same s1;have nl:num≠h.l:=Tb (Qe X.le aq);have nn:num≠n:=Tb (Qe o1 aq);have ln:n≠h.l:=Yr o1 X.le nofun;exists h.l,_,X1.le;refine⟨_,Xb,n,C,dx,_,_,Xb,s1 _ _ o1,W.cl,W.Vv,Xf _,h.l,_,Xb,X1.le,λg=>vy (λi L U=>kz λ(x2:Option V)(v:List Nat)=>jz (L=[Ga ↑n,Ga ↑num,x2,Gq,Gq]) (U num/.dK (dS v λk=>jv (v.idxOf k))) (v.Nodup) (⇑v<=i) (∀p∈x.S.take i,x.zg p∈v) (U h.l/fz g (dS x.S λp=>jv (x.zg p))) (∀c u,I c/u->c≠h.l->U c/u))
  {_,[],1,Ql Qb nl,SK,Ts _,by simp,Qb,λc u b H=>Ql (s1 _ _ b) H} (by rintro i L U _ ⟨_,_,_,_,_,_,_,e,_⟩;exact e) ?_ ?_⟩
 .rintro i pr L U hi ⟨x2,v,rfl,af,aG,aN,ae,am,fr⟩;have(p,l,rfl):=sG hi;have pS:p∈x.S:=Gc l;have a4:i<⇑x.S:=(Gg.mp l).1;refine{0,.inr (.inr (.inl {1,.inl {_,af}})),0,n,C,dx,30,fr _ _ o1 ln,W.cl,W.Vv,Xf _,0,h.l,0,pK (.inr ⟨g,am⟩) pS,0,num,0,af,num,ki (x.zg p),301,af,by rw[V0,TH];lia,λO Z=>?_,λZ=>?_}
  .have S:x.zg p∈v:=by refine B7 λaa=>?_;rw[oT aa]at Z;cases Z
   refine{_,v,1,af,aG,by lia,λB N=>?_,am,fr};rw[TD,l]at N;rcases Gh.mp N with e|e
   .exact ae B e
   .have:B=p:=by simpa using e
    rw[this];exact S
  .have S:x.zg p∉v:=λaa=>by rw[ko aa]at Z;cases Z
   have eo:V5 (dS v λk=>jv (v.idxOf k)) (ki (x.zg p)) (.int (⇑(dS v λk=>jv (v.idxOf k)):Int))=dS (v++[x.zg p]) λk=>jv ((v++[x.zg p]).idxOf k):=by rw[jO S,V0];refine Vc λk E=>?_;rw[Pg S E];split<;>rfl
   rw[eo];refine{_,v++[x.zg p],1,Qb,DP.mpr {aG,by simp,λa ha c H=>by simp at H;subst H;exactλaa=>S (aa▸ha)},by rw[Gk,GQ];lia,λB N=>?_,Ql am (Tb nl),λc u b H=>Ql (fr c u b H) (Qe b aq)};rw[TD,l]at N;rcases Gh.mp N with e|e
   .exact Gu _ (ae B e)
   .have:B=p:=by simpa using e
    rw[this];simp
 rintro L U ⟨x2,v,rfl,af,aG,aN,ae,am,fr⟩;rw[V0,Tw]at ae;rw[V0]at aN;exists g,am;have t2:∀c u,I c/u->(zj U h.l (.dK (dS x.S λp=>jv (x.zg p)))) c/u:=λc u b=>by
  by_cases e:c=h.l
  .subst e;rw[Qb,<-b];exact X.le.symm
  .exact Ql (fr c u b e) e
 generalize a5:(dS v λk=>jv (v.idxOf k))=av at af;have au:∀p∈x.S,Xo av (ki (x.zg p))/jv (v.idxOf (x.zg p)):=λp l=>by rw[<-a5];exact ko (ae p l)
 generalize aL:(λk=>v.idxOf k)=m;have au:∀p∈x.S,Xo av (ki (x.zg p))/jv (m (x.zg p)):=λp l=>by rw[<-aL];exact au p l
 have aM:∀p∈x.S,∀q∈x.S,m (x.zg p)=m (x.zg q)->x.zg p=x.zg q:=λp l q D b=>by rw[<-aL]at b;exact ri (ae p l) (ae q D) b
 have aH:(zj U h.l (.dK (dS x.S λp=>jv (x.zg p)))) num/.dK av:=Ql af nl;generalize zj U h.l (.dK (dS x.S λp=>jv (x.zg p)))=H3 at t2 aH;intro r ap;have s4:=Qf ap (Uw P w r []);have g4:Za I (zj H3 r (Uw P w r [])):=λc u b=>s4 _ _ (t2 c u b);have X4:=X.same g4;have nf:num≠r:=Qe aH ap;have fl:h.l≠r:=Qe (t2 _ _ X.le) ap;exists h.l,_,X4.le;refine⟨_,Xb,n,C,dx,_,_,Xb,g4 _ _ o1,W.cl,W.Vv,Xf _,h.l,_,Xb,X4.le,λg=>vy (λi L G=>jN λ(x2 x4:Option V)(z:List KE)=>mj (L=[Ga ↑n,Ga ↑num,x2,Ga ↑r,x4]) (DH P w G r z) (∃o:List Nat,⇑o<=i/\Df (jt d x m (λc=>∃g,I c/g) G) z o/\(o.map λp=>Zv (Yt d) (Zx d) x.zg p).Nodup/\(∀p∈o,p∈x.S)/\∀p∈x.S.take i,∃p'∈o,Zv (Yt d) (Zx d) x.zg p'=Zv (Yt d) (Zx d) x.zg p) (G num/.dK av) (G h.l/fz g (dS x.S λp=>jv (x.zg p))) (∀c u,I c/u->c≠h.l->G c/u))
  {2,[],1,{Ql Qb (Tb fl),(λp l=>nomatch l)},{[],Ts _,.nil,SK,(λp l=>nomatch l),by simp},Ql (Ql aH nf) nl,Qb,λc u b H=>Ql (g4 _ _ b) H} (by rintro i L G _ ⟨_,_,_,_,_,_,_,e,_⟩;exact e) ?_ ?_⟩
 .rintro i pr L G hi ⟨x2,x4,z,rfl,D5,⟨o,a6,ar,aw,ag,al⟩,aO,ac,ad⟩;ac_nf;have(p,l,rfl):=sG hi;have pS:p∈x.S:=Gc l;have a4:i<⇑x.S:=(Gg.mp l).1;have ba:=FO.few p;have(ws,f1,f2):=X.fo;intros;have tu:Q6 I G:=λc xs b=>ad c _ b (Yr b X.le nofun);have fA:G h.f/.lst ws:=ad _ _ f1 (Yr f1 X.le nofun);have o5:=ad _ _ o1 ln;refine{0,n,dx,0,o5,pb _,0,n,h,d,x,p,1,⟨dx,o5⟩,{ws,fA,Qr f2 λ_ _ e=>e.Qv tu},.inr ⟨g,ac⟩,FO.lt p pS,FO.pts p pS,by lia,λaj H6 J a9 fm=>?_};ac_nf;have(c',b,ec,h1,R):=id fm;intros;cases ec;simp only[Zv]at h1 R;have ao:=J _ _ aO;have D6:DH P w H6 r z:={J _ _ D5.at_,Zq (Q6.of J) D5.keys};refine{0,aj,201,Qj h1,Oj _ _,0,aj,201,Qj h1,Re _ _ _,b,1,{_,Qj R},λB an=>?_};have s7:=Qf an (.lst []);have bb:=GJ ar;refine Jx (K:=K) (a:=b) (xs:=((Zx d p).map x.zg).map jv) (small (by rw[Gv,Gv];lia)) (λi ys L E=>(∃x0,L=[x0,Ga ↑num])/\Za H6 E/\ys=((Zx d p).take i).map λq=>jv (m (x.zg q))) {{40},s7,by simp} (λi ys L E _ e=>Qj (e.2.1 _ _ R)) ?_ ?_
  .rintro j y ys L E M a3 ⟨⟨x0,rfl⟩,T,rfl⟩ ak;rw[Tq,Tq]at M;cases eq:(Zx d p)[j]? with
   |none=>rw[eq]at M;cases M
   |some Q=>rw[eq]at M;cases M;have Z:=au Q (FO.pts p pS Q (Gc eq));exists 00,num,0,(by have:=Vr.k (k:=ki (x.zg Q)) (T _ _ ao);rw[Z]at this;exact this),ak,{40},λc g eb=>Ql (T _ _ eb) (Qe eb an);rw[TD,eq,TZ];rfl
  .rintro ys L E a3 ⟨_,T,rfl⟩ ak;rw[Gv,Gv,Tw]at ak;have Z:=au p pS;have a1:=T _ _ ao;have dg:Vr E num (jv (x.zg p)) (Ga (jv (m (x.zg p)))):=by have:=Vr.k (k:=ki (x.zg p)) a1;rw[Z]at this;exact this
   refine{00,n,C,dx,30,T _ _ (J _ _ o5),W.cl,W.Vv,Xf _,0,h.l,0,pK (.inr {g,T _ _ (J _ _ ac)}) pS,num,0,dg,Vk,λA hm=>?_};generalize aZ:jv (m (x.zg p))=O;have s8:=Qf hm (.tup [.str (Yt d p),↑B,O]);have M:Za H6 (zj E A (.tup [.str (Yt d p),↑B,O])):=T.trans s8;have D8:DH P w (zj E A (.tup [.str (Yt d p),↑B,O])) r z:={M _ _ D6.at_,Zq (Q6.of M) D6.keys};have k8:=(fm.Qv (Q6.of M)).key (FO.str p);exists 00,r,aj,_,z,11,D8,k8,(by rw[TH];lia);have a2:∀c g,I c/g->∃u,H6 c/u:=λc g eb=>by
    by_cases H:c=h.l
    .rw[H];exact{_,J _ _ ac}
    .exact{g,J _ _ (ad c g eb H)}
   have aE:U3 (zj E A (.tup [.str (Yt d p),↑B,O])) (λc=>∃g,I c/g) ↑A (Vu d x m p):=⟨A,B,Xb,by rw[<-aZ];exact Qb,by
    show _/HO.lst (((Zx d p).map λq=>m (x.zg q)).map jv);rw[Di];exact s8 _ _ ak,λ⟨g,eo⟩=>by
    have(u,ab):=a2 _ _ eo;rw[an]at ab;cases ab⟩
   generalize aD:Vo z (Xn (Zv (Yt d) (Zx d) x.zg p)) aj ↑A=ai;have aF:∀{c:Ge}{xs:List V},(zj E A (.tup [.str (Yt d p),↑B,O])) c/.tup xs->(zj (zj E A (.tup [.str (Yt d p),↑B,O])) r (Uw P w r ai)) c/.tup xs:=λb=>Ql b (Yr b D8.at_ nofun);have a0:∀{c:Ge}{xs:List V},(zj E A (.tup [.str (Yt d p),↑B,O])) c/.lst xs->(zj (zj E A (.tup [.str (Yt d p),↑B,O])) r (Uw P w r ai)) c/.lst xs:=λb=>Ql b (Yr b D8.at_ nofun);have ah:Df (jt d x m (λc=>∃g,I c/g) (zj E A (.tup [.str (Yt d p),↑B,O]))) z o:=Qr ar λ_ _ e=>{e.1,e.2.kp (λb=>M _ _ (J _ _ b)) (λb _=>M _ _ (J _ _ b))};have aY:∀q∈o,Zv (Yt d) (Zx d) x.zg q=Zv (Yt d) (Zx d) x.zg p->Vu d x m q=Vu d x m p:=λq D b=>by have Y:=aJ.cong (ag q D) pS b;simp only[Zv,Es]at b;unfold Vu;rw[b.1,Y];congr 2;have:=congrArg (Fw m) b.2;rw[Di,Di]at this;exact this
   have aX:∃Q:List Nat,⇑Q<=i+1/\Df (jt d x m (λc=>∃g,I c/g) (zj E A (.tup [.str (Yt d p),↑B,O]))) ai Q/\(Q.map λp=>Zv (Yt d) (Zx d) x.zg p).Nodup/\(∀p∈Q,p∈x.S)/\∀q∈x.S.take (i+1),∃p'∈Q,Zv (Yt d) (Zx d) x.zg p'=Zv (Yt d) (Zx d) x.zg q:=by
    rw[<-aD];unfold Vo;by_cases S:(Ys z (Xn (Zv (Yt d) (Zx d) x.zg p))).isSome=Gi
    .rw[GX S];refine{o,by lia,Q0d aE aY ah,aw,ag,λq D=>?_};rw[TD,l]at D;rcases Gh.mp D with e|e
     .exact al q e
     .have:q=p:=by simpa using e
      rw[this];exact(wL ah _).mp S
    .rw[Gs S];have aB:∀q∈o,Zv (Yt d) (Zx d) x.zg q≠Zv (Yt d) (Zx d) x.zg p:=λq D b=>S ((wL ah _).mpr ⟨q,D,b⟩);refine{o++[p],by rw[Gk,GQ];lia,EV ah ⟨Xb,aE⟩,?_,λq D=>?_,λq D=>?_}
     .rw[TZ];refine DP.mpr {aw,by simp,λa ha c H=>?_};have(q,D,rfl):=Tx.mp ha;have:c=Zv (Yt d) (Zx d) x.zg p:=by simpa using H
      rw[this];exact aB q D
     .rcases Gh.mp D with e|e
      .exact ag q e
      .have:q=p:=by simpa using e
       rw[this];exact pS
     .rw[TD,l]at D;rcases Gh.mp D with e|e
      .obtain⟨p',h1,R⟩:=al q e;exact{p',Gu _ h1,R}
      .have:q=p:=by simpa using e
       rw[this];exact{p,by simp,1}
   ac_nf;have(Q,aR,aT,aU,aV,aW):=aX;intros;exact{2,ai,1,{Qb,Zq (λc xs b=>aF b) (by rw[<-aD];exact D8.keys.put k8)},{Q,aR,Qr aT λ_ _ e=>{e.1,e.2.kp aF (λb _=>a0 b)},aU,aV,aW},Ql (M _ _ ao) nf,Ql (M _ _ (J _ _ ac)) fl,λc u b H=>Ql (M _ _ (J _ _ (ad c u b H))) (Qe (t2 _ _ b) ap)}
 .rintro L G ⟨x2,x4,z,rfl,D5,⟨o,a6,ar,aw,ag,al⟩,aO,ac,ad⟩;rw[V0,Tw]at al;exists g,ac;have t6:Za I (zj G h.l (.dK (dS x.S λp=>jv (x.zg p)))):=λc u b=>by
   by_cases e:c=h.l
   .subst e;rw[Qb,<-b];exact X.le.symm
   .exact Ql (ad c u b e) e
  have aA:∀{c:Ge}{xs:List V},G c/.tup xs->(zj G h.l (.dK (dS x.S λp=>jv (x.zg p)))) c/.tup xs:=λb=>Ql b (Yr b ac nofun);have aQ:∀{c:Ge}{xs:List V},G c/.lst xs->(zj G h.l (.dK (dS x.S λp=>jv (x.zg p)))) c/.lst xs:=λb=>Ql b (Yr b ac nofun);have D6:DH P w (zj G h.l (.dK (dS x.S λp=>jv (x.zg p)))) r z:={Ql D5.at_ (Tb fl),Zq (λc xs b=>aA b) D5.keys};have ay:Df (jt d x m (λc=>∃g,I c/g) (zj G h.l (.dK (dS x.S λp=>jv (x.zg p))))) z o:=Qr ar λ_ _ e=>{e.1,e.2.kp aA (λb _=>aQ b)};generalize zj G h.l (.dK (dS x.S λp=>jv (x.zg p)))=H6 at t6 D6 ay;refine{0,{r,z,1,D6.at_},r,z,11,D6,λQ aP=>?_};have s7:=Qf aP (vvw Q r);have D7:DH P w (zj H6 Q (vvw Q r)) r z:={s7 _ _ D6.at_,Zq (Q6.of s7) D6.keys};refine{Q,r,z,1,Qb,D7,λE Y=>?_};have s8:=Qf Y (.lst (z.map λp=>p.2.2));have az:=s7.trans s8;refine q ↑E (o.map (Vu d x m)) _ (t6.trans az) {E,0,Qb,(by rintro⟨g,eo⟩;rw[s7.free Y|>t6.free]at eo;cases eo),?_} {{m,aM,λp l=>?_,λB N=>?_},?_}
  .have ax:∀{J:Hp},Za H6 J->∀{z:List KE}{o:List Nat},Df (jt d x m (λc=>∃g,I c/g) H6) z o->Df (U3 J (λc=>∃g,I c/g)) (z.map λp=>p.2.2) (o.map (Vu d x m)):=λ{J}M{z o}e=>by
    induction e with
    |nil=>exact .nil
    |cons e t T=>exact .cons (e.2.kp (λb=>M _ _ b) (λb _=>M _ _ b)) T
   exact ax az ay
  .obtain⟨p',h1,R⟩:=al p l;have Y:=aJ.cong (ag p' h1) l R;refine Tx.mpr {p',h1,?_};simp only[Zv,Es]at R;unfold Vu;rw[R.1,Y];congr 2;have:=congrArg (Fw m) R.2;rw[Di,Di]at this;exact this
  .obtain⟨p,l,rfl⟩:=Tx.mp N;exact{p,ag p l,1}
  .rw[Di];have:∀{o:List Nat},(∀p∈o,p∈x.S)->(o.map λp=>Zv (Yt d) (Zx d) x.zg p).Nodup->(o.map ((λB:Row=>(B.1,B.2.1))∘Vu d x m)).Nodup:=by
    intro o M nd;unfold IF at nd⊢;rw[RN]at nd⊢;refine CI (λ{a c}ha H e aa=>e ?_) nd;simp only[Cz,Vu,Es]at aa;simp only[Zv,Es];exists aa.1;have aS:=M a ha;have bS:=M c H;have aC:∀{E A:List Nat},(∀q∈E,q∈x.S)->(∀q∈A,q∈x.S)->E.map (λq=>m (x.zg q))=A.map (λq=>m (x.zg q))->E.map x.zg=A.map x.zg:=by
     intro E;induction E with
     |nil=>intro A _ _ b;cases A with
      |nil=>rfl
      |cons _ _=>simp at b
     |cons u E T=>
      intro A Y hm b;cases A with
      |nil=>simp at b
      |cons J A=>simp only[Tt,DB]at b⊢;exact{aM u (Y u Tc) J (hm J Tc) b.1,T (λq D=>Y q (Gr _ D)) (λq D=>hm q (Gr _ D)) b.2}
    exact aC (FO.pts a aS) (FO.pts c bS) aa.2
   exact this ag aw
def Wy(fs:List Fm)(a:Lk):List (Nat×Nat):=match a.2.2 with
 |none=>(Zx fs a.1).zip (Zx fs a.2.1)
 |some _=>[]
inductive vR(P:Gn)(w:Tf)(C:Ge)(vs:List V)(H:Hp)(Q:VK):Prop
 |mk (n:Ge) (A:Na) (fs:List Fm) (tb:Nat) (x:Nn) (v:V) (lk:Lk) (h0:vs=[↑n,v]) (h1:Ym P w C H n A fs tb x) (h2:Oi H v lk) (h3:lk.1<⇑fs) (h4:lk.2.1<⇑fs) (h5:∀(r:Ge)(es:List V)(H':Hp),Za H H'->H r=Gq->H' r/.lst es->Df (nX H') es (Wy fs lk)->Q ↑r H'):vR P w C vs H Q
def qc(P:Gn)(w:Tf)(C:Ge):Sp:=λa H Q _=>vR P w C a H Q
structure Nd(fs:List Fm)(x:Nn)(one other:Nat)(ns:List Nat):Prop where
 lt:∀k∈ns,k<⇑x.zt
 top:∀st,ip x.up one other st->∀p q,(p,q)∈st->∀k,x.Xr p q/k->k∈ns
 low:∀k∈ns,∀lk,x.zt[k]?/lk->∀p q,(p,q)∈Wy fs lk->∀st,ip x.up p q st->∀u v,(u,v)∈st->∀j,x.Xr u v/j->j∈ns/\j<k
 only:∀k∈ns,∃st p q j,ip x.up one other st/\(p,q)∈st/\x.Xr p q/j/\k<=j
inductive wK(P:Gn)(w:Tf)(C:Ge)(vs:List V)(H:Hp)(Q:VK):Prop
 |mk (n:Ge) (A:Na) (fs:List Fm) (tb:Nat) (x:Nn) (one:Nat) (other:Nat) (h0:vs=[↑n,jv one,jv other]) (h1:Ym P w C H n A fs tb x) (h2:Wv (Yt fs) (Zx fs) x []) (h3:iV fs x.S) (h4:one∈x.S) (h5:other∈x.S) (h6:x.zg one=x.zg other) (h7:⇑x.S<=1000) (h8:⇑x.zt<64) (h9:∀(r:Ge)(ns:List Nat)(H':Hp),Za H H'->H r=Gq->H' r/.lst (ns.map jv)->ns.Nodup->ns.Pairwise (·<=·)->Nd fs x one other ns->Q ↑r H'):wK P w C vs H Q
def wB(P:Gn)(w:Tf)(C:Ge):Sp:=λa H Q _=>wK P w C a H Q
theorem Ah{r:Option Ib}(h:ke H v r):decide (v=V.non)= !r.isSome:=by
 cases r with
 |none=>rw[show v=V.non from h];rfl
 |some r=>
  cases r with
  |told n=>have(c,rfl,_):=h;rfl
  |asked=>have(c,rfl,_):=h;rfl
theorem nQ(I:Wv (Yt fs) (Zx fs) x []){d:Lk}(g:x.zt[k]?/d)(c:(p,q)∈Wy fs d):p∈x.S/\q∈x.S/\Cn (x.zt.take k) p q:=by
 have(a,b,r):=d;have(e,f,h):=I.lnk k a b r g;cases r with
 |some r=>simp[Wy]at c
 |none=>simp only[Wy]at c;have(_,j,h):=h rfl;have(i,hi):=Dj.mp c;rw[Lx]at hi;exact{I.pt_ a e p (Gc hi.1),I.pt_ b f q (Gc hi.2),h i p q hi.1 hi.2}
theorem wo:Q7 ["net","link"] ["net","link"] (Qo oe):=by eq_refl
theorem K3(F:Wd K "pairs_below" "pairs_below" oe f fd)(b:Jj K mg C)(i:I0 mg):Q3 P w K mg base Ya 1 f fd ["net","link"] (qc P w C):=by
 refine F.ok wo (λvs E H D g=>?_) (λad a ae s E vs H D hr g=>?_)
 .obtain⟨n,a,T,tb,x,ab,y,rfl,_⟩:=g;rfl
 have(n,a,T,tb,x,ab,y,rfl,X,(e,A,rfl,h,aa),u,v,q):=g;have nd:=wo.nd;show∃t,Xu ?my _ t/\_;let ac:Vq ?my oe 1:={_,Qg (Qt (vn rfl rfl i.list rfl i.zip (Qa (Qn Qs (Qn Ze (Qx {0}) (Qn Qs {1} Qi)) Qi) (Qa (Qn Qs (Qn Ze (Qx {0}) (Qn Qs {1} Qi)) Qi) Qd))))}
 exists _,Qc (Zc (Qp kX (Qn Qs {1} Qi) U9 (Qu _)) (Qg (Qt (Zu Qd))) Qw) ac.2;exists 0,e,201,Qj h,ji _ _ _ _,10;rw[Ah aa];have(I,J,B):=y;cases B with
 |some B=>refine Yo {Ts _,λp c=>?_};exact q p [] _ (Qf c _) c Qb .nil
 |none=>
  refine Q4 ?_;have(j,z):=X.ob;have(d,k,c):=X.fo;have l:I<⇑d:=by rw[GJ c];exact u
  have m:J<⇑d:=by rw[GJ c];exact v
  have(y1,o,L,N,Q,U,W):=Qy c (Gf l);have(y2,r,M,O,R,V,Y):=Qy c (Gf m);rw[ku u]at o;rw[ku v]at r;cases o;cases r;exists 0,n,C,j,30,z,b.cl,b.Qdj,Jt _,0,e,201,Qj h,Oj _ _,a.f,d,301,Qk k,Zk (Gf l),L,32,Q,1,Qj U,Re _ _ _;exists 0,n,C,j,30,z,b.cl,b.Qdj,Jt _,0,e,201,Qj h,Re _ _ _,a.f,d,301,Qk k,Zk (Gf m),M,32,R,1,Qj V,Re _ _ _;exact{N,O,30,.inr {Qj W,Qj Y},λA S G sm r0 Z pr=>q A S G sm r0 Z (Ad pr)}
theorem zJ(U:Jj K mg C){G:List V}{N0:List Nat}{O Q f R S T:Option V}{t:Ends}
  (X:Ym P w C H n A fs tb x)(g1:Za H H1)(d0:H d=Gq)(I:H1 d/.dK (dS N0 λ_=>V.bl Gi))(hL:H1 L/.lst G)(aa:Df (nX H1) G st)(J:∀p q,(p,q)∈st->∃k,x.Xr p q/k/\k<m)(ak:N0.Nodup)(h:m<=64)(hN:∀k∈N0,k<64)
  (q:∀b f e,b.Nodup->(∀k∈N0,k∈b)->(∀k∈b,k∈N0\/(k<m/\∃p q,(p,q)∈st/\x.Xr p q/k))->(∀p q k,(p,q)∈st->x.Xr p q/k->k∈b)->R7 d H1 e->e d/.dK (dS b λ_=>V.bl Gi)->t.nx [Ga ↑n,O,Q,Ga ↑d,f,R,S,T] e):
  ∃W:Nat->Nat->St->Hp->Prop,(∃m,W 0 m [Ga ↑n,O,Q,Ga ↑d,f,R,S,T] H1)/\∀i m g H,W i m g H->
   ((iP K L).stop i H/\t.nx g H)\/((iP K L).go i H/\∃b:St->Hp->Prop,(∀o e,b o e->∃h,h<m/\W (i+1) h o e)/\∀x e,(iP K L).yld i H x e->Ui 4 x g e λu H2=>zL (Uj 3) (lC (mw K (Uj 0) "link_at") (Uj 4)) (tC (V.bl Gi)) {t with nx:=b,ct:=b,bk:=t.nx} u H2):=by
 have(dx,o1):=X.ob;have(aq,z,ao,af):=X.at_;have Ld:L≠d:=Yr hL I nofun;let am:Nat->St->Hp->Prop:=λi g H2=>kz λ(f:Option V)(b:List Nat)=>jz (g=[Ga ↑n,O,Q,Ga ↑d,f,R,S,T]) (b.Nodup) (∀k∈N0,k∈b) (∀k∈b,k∈N0\/(k<m/\∃p q,(p,q)∈st/\x.Xr p q/k)) (∀p q k,(p,q)∈st.take i->x.Xr p q/k->k∈b) (R7 d H1 H2) (H2 d/.dK (dS b λ_=>V.bl Gi))
 refine Yw (K:=K) (a:=L) (xs:=G) am
  {f,N0,1,ak,λ_ c=>c,λ_ c=>.inl c,by simp,R7.refl,I} (by rintro i g H2 _ ⟨_,_,_,_,_,_,_,Y,_⟩;exact Qk (Y _ _ hL Ld)) ?_ ?_
 .rintro i y g H2 hi ⟨f,b,rfl,r,D,s,E,l,F⟩;have((p,h),he,v,rfl,hc):=Qy aa hi;have ac:(p,h)∈st:=Gc he;have(k,M,ai):=J p h ac;have nd1:n≠d:=Qe o1 d0;have aj:A.a≠d:=Qe z d0;have o2:=l _ _ (g1 _ _ o1) nd1;have ae:=l _ _ (g1 _ _ z) aj;have ag:=l _ _ hc (Yr hc I nofun);have dg:Vr H2 A.a ↑v (Ga (jv k)):=by have:=Vr.t (k:=[ki p,ki h]) ae (show H2 v/(.tup ([ki p,ki h].map kV))from ag);rw[af p h,M]at this;exact this
  have ap:⇑b<=64:=by have:⇑b<=⇑(EM 64):=Xw r λk J=>Se.mpr ((s k J).elim (hN k) (λc=>by have:=c.1;ext));rwa[E1]at this
  have dp:=Oh.k (k:=ki k) (v:=V.bl Gi) F (by rw[V0,TH];ext);exists 00,n,C,dx,30,o2,U.cl,U.Qc5,pC _,0,A.a,0,dg,d,0,dp;have Z:R7 d H1 (zj H2 d (.dK (V5 (dS b λ_=>V.bl Gi) (ki k) (V.bl Gi)))):=λv al ad c=>Ql (l v al ad c) c;have tk:∀{u:List Nat},(∀j∈b,j∈u)->k∈u->∀p q k,(p,q)∈st.take (i+1)->x.Xr p q/k->k∈u:=λ{u}hs ah p' q' k' ab N=>by
   rw[TD,he]at ab;rcases Gh.mp ab with c|c
   .exact hs _ (E p' q' k' c N)
   .have:(p',q')=(p,h):=by simpa using c
    cases this;rw[M]at N;cases N;exact ah
  by_cases B:k∈b
  .exists _,b,1,r,D,s,tk (λ_ c=>c) B,Z;rw[Qb,pH B];congr 2;exact Vc λp _=>by split<;>rfl
  .exists _,b++[k],1,DP.mpr {r,by simp,λa z Y hb=>by simp at hb;subst hb;exactλan=>B (an▸z)},λj o=>Gu _ (D j o),λj o=>?_,tk (λj o=>Gu _ o) ⋯,Z
   .rcases Gh.mp o with c|c
    .exact s j c
    .have:j=k:=by simpa using c
     rw[this];exact .inr ⟨ai,p,h,ac,M⟩
   .rw[Qb,jO B];congr 2;exact Vc λp _=>by split<;>rfl
 .rintro g H2 ⟨f,b,rfl,r,D,s,E,l,F⟩;rw[GJ aa,Tw]at E;exact q b f H2 r D s E l F
theorem yP:Q7 ["net","one","other","needed","step","number","part","twin"] ["net","one","other"] (Qo Ik):=by eq_refl
theorem QA(F:Wd K "links_needed" "links_needed" Ik f fd)(I:Jj K mg C)(al:I0 mg)(mW:Yp K C "way" fW)(GW:Q3 P w K mg base Ya 2 fW fdW ["self","one","other"] (qU P w C))(bW:zk K fdW ["self","one","other"] [])
  (GB:Q3 P w K mg base Ya 1 fB fdB ["net","link"] (qc P w C))(kB:KI K fB)(bB:zk K fdB ["net","link"] [])(mB:MG mg "pairs_below" fB):
  Q3 P w K mg base Ya 3 f fd ["net","one","other"] (wB P w C):=by
 refine F.ok yP (λZ af m l b=>?_) (λa6 Q ba s af Z m l hr b=>?_)
 .obtain⟨n,Q,D,tb,x,aj,ak,rfl,_⟩:=b;rfl
 have(n,Q,D,tb,x,aj,ak,rfl,X,aa,FO,oS,tS,he,hS,a9,q):=b;have hu:=Ju hr;have aO:Yj 1 _:=hr.mono ∅;have nd:=yP.nd;show∃t,Xu ?my _ t/\_;let aY:Subtype (Xu ?my (sub [2,0,0,0,0,0] (Q9 Ik))):={_,Qg (Yb Tj rfl (Yh (Zm {0} I.cl mW GW hr bW .nil Q5 (Qa {6} (Qa {7} Qd)))) (Z7 4 nd) (Qg (Vl hu {3} (Yc hu (Qx {0}) {4} (λ_ _=>rfl)) Z9 Xb)))}
 let aZ:Subtype (Xu ?my (sub [2,0,0,0] (Q9 Ik))):={_,Qg (Yb Tj rfl (Yh (Zb GB aO rfl mB kB bB .nil Q5 (Qa {0} (Qa (Qn Ze (Qx {0}) {5}) Qd)))) (V8 rfl (Zr (Z7 6 nd) (Zr (Z7 7 nd) Wp))) aY.2)}
 let a0:Vq ?my Ik 2:={_,Qc (Yb Tj rfl (KQ rfl al.range (Qa (Zg Ru (Qm Zp rfl al.len GY (Qa (Qx {0}) Qd)) Qi) (Qa (Jz V4 Qi) (Qa (Jz V4 Qi) Qd)))) (Z7 5 nd) (Qg (Zc (Oz (rW hu {5} {3})) aZ.2 Qw))) (Qg (Qt (Qm (VS Xb) rfl al.sorted CJ (Qa {3} Qd))))}
 let a4:Vq ?my Ik 1:={_,Qc (Yb Tj rfl (Yh (Zm {0} I.cl mW GW hr bW .nil Q5 (Qa {1} (Qa {2} Qd)))) (Z7 4 nd) (Qg (Vl hu {3} (Yc hu (Qx {0}) {4} (λ_ _=>rfl)) Z9 Xb))) a0.2}
 exists _,Qc (Qz 3 nd Jr) a4.2;intro d d0;have s1:=Qf d0 (.dK []);have(dx,o1):=X.ob;have(ls,av,ax):=X.li;have aT:=GJ ax;have aP:∀p q k,x.Xr p q/k->k<⇑x.zt:=λp q k b=>by obtain⟨N,b|b⟩:=aa.fst.Qij p q k b<;>exact(Gg.mp b).1
 refine{0,n,dx,0,s1 _ _ o1,qh _,00,n,Q,D,tb,x,aj,ak,1,X.same s1,aa,oS,tS,he,hS,λaz es r H2 g2 L0 hL aH W=>{az,1,{_,Qk hL},?_}};refine zJ I X (s1.trans g2) d0 (N0:=[]) (g2 _ _ Qb) hL aH (m:=⇑x.zt) (λp q b=>?_) SK ∅ (λk c=>nomatch c) λe H H3 S i1 i2 i3 bt e3=>?_
 .obtain⟨k,o,h⟩:=W.lk p q b;exact{k,o,aP _ _ _ o}
 have g3:Za af H3:=λA ao v=>bt _ _ (g2 _ _ (s1 _ _ v)) (Qe v d0);exists 0,n,C,dx,30,g3 _ _ o1,I.cl,I.zt,J2 _,Q.k,0,.inl (Qk (g3 _ _ av)),30100,⇑x.zt,by rw[aT],∅;let aW:Nat->St->Hp->Prop:=λi O H4=>iO λ(H x5 U Y:Option V)(e:List Nat)=>ij (O=[Ga ↑n,Ga (jv aj),Ga (jv ak),Ga ↑d,H,x5,U,Y]) (Za af H4) (H4 d/.dK (dS e λ_=>V.bl Gi)) (e.Nodup) (∀k∈e,k<⇑x.zt) (∀p q k,(p,q)∈r->x.Xr p q/k->k∈e) (∀k∈e,∃p q j,(p,q)∈r/\x.Xr p q/j/\k<=j) (∀k∈e,⇑x.zt - i<=k->∀z,x.zt[k]?/z->∀p q,(p,q)∈Wy D z->∀r,ip x.up p q r->∀u g,(u,g)∈r->∀j,x.Xr u g/j->j∈e/\j<k)
 refine Kj aW
  {22,e,1,g3,e3,S,λk c=>(i2 k c).elim nofun (·.1),i3,λk c=>(i2 k c).elim nofun (by rintro⟨_,p,q,o,h⟩;exact{p,q,k,o,h,Gz _}),λk c b=>?_} ?_ ?_
 .have:=(i2 k c).elim nofun (·.1);ext
 .rintro i O H4 hi ⟨H,x5,U,Y,e,rfl,B,R,S,ab,ai,ae,ah⟩;have aF:((⇑x.zt:Int) - 1 - (i:Int))=((⇑x.zt - 1 - i:Nat):Int):=by ext
  rw[aF];generalize a8:⇑x.zt - 1 - i=l;have kl:l<⇑x.zt:=by ext
  have dg:Vr H4 d (jv l) (Xo (dS e λ_=>V.bl Gi) (ki l)):=Vr.k (k:=ki l) R;exists 00,d,0,dg,0;rw[yL];by_cases ag:l∈e
  .rw[Tg ag];refine Yo ?_;have au:l<⇑ls:=by ext
   ac_nf;have(z,ad,aQ):=Qy ax (Gf au);have aR:=aQ.Qv (Q6.of B);have(a,A,rs):=z;have(aS,bS,_):=aa.lnk l a A rs ad;intros;refine{00,n,C,dx,30,B _ _ o1,I.cl,I.zt,J2 _,0,Q.k,ls,301,Qk (B _ _ av),Zk (Gf au),n,Q,D,tb,x,_,(a,A,rs),1,X.same B,aR,FO.lt a aS,FO.lt A bS,λL5 aG H5 g5 aA ap ar=>{L5,1,{_,Qk ap},?_}};have aB:L5≠d:=Tb (Qe R aA);have aU:∀{m:List Nat}{i':Nat},(∀k∈e,k∈m)->(∀k∈m,k∈e\/k<l)->(∀p q,(p,q)∈Wy D (a,A,rs)->∀r,ip x.up p q r->∀u g,(u,g)∈r->∀j,x.Xr u g/j->j∈m/\j<l)->
     ∀k∈m,⇑x.zt - (i+1)<=k->∀z,x.zt[k]?/z->∀p q,(p,q)∈Wy D z->∀r,ip x.up p q r->∀u g,(u,g)∈r->∀j,x.Xr u g/j->j∈m/\j<k:=λ{m i'}a1 a2 a3 k c b z am p q E T G u g L j J=>by
    rcases Dh k (⇑x.zt - i)with h|h
    .have:k=l:=by ext
     subst this;rw[ad]at am;cases am;exact a3 p q E T G u g L j J
    .have aK:k∈e:=(a2 k c).elim id λay=>by ext
     have(b1,b2):=ah k aK h z am p q E T G u g L j J;exact{a1 _ b1,b2}
   let aX:Nat->St->Hp->Prop:=λi5 O Z=>iy λ(H U Y:Option V)(m:List Nat)=>jz (O=[Ga ↑n,Ga (jv aj),Ga (jv ak),Ga ↑d,H,Ga (jv l),U,Y]) (R7 d H5 Z) (Z d/.dK (dS m λ_=>V.bl Gi)) (m.Nodup) (∀k∈e,k∈m) (∀k∈m,k∈e\/k<l) (∀p q,(p,q)∈(Wy D (a,A,rs)).take i5->∀r,ip x.up p q r->∀u g,(u,g)∈r->∀j,x.Xr u g/j->j∈m/\j<l)
   refine Yw (K:=K) (a:=L5) (xs:=aG) aX
    {32,e,1,R7.refl,g5 _ _ R,S,λ_ b=>b,λ_ b=>.inl b,by simp} (by rintro i5 O Z _ ⟨_,_,_,_,_,bt,_⟩;exact Qk (bt _ _ ap aB)) ?_ ?_
   .rintro i5 y O Z aJ ⟨H,U,Y,m,rfl,ac,e6,an,sub,only,done⟩;ac_nf;have((p,N),aw,aD,rfl,hc):=Qy ar aJ;have aN:(p,N)∈Wy D (a,A,rs):=Gc aw;have(pS,rS,cn):=nQ aa ad aN;intros;have g6:Za af Z:=λA ao v=>ac _ _ (g5 _ _ (B _ _ v)) (Qe v d0);have aM:x.zg p=x.zg N:=(aa.conn p pS N rS).mpr (cn.mono λay hz=>Dm hz);have c6:=ac _ _ hc (Yr hc (g5 _ _ R) nofun);exists aD,0,Qj c6,130301;refine{0,n,dx,0,g6 _ _ o1,qh _,00,n,Q,D,tb,x,p,N,1,X.same g6,aa,pS,rS,aM,hS,λL7 a7 bb H7 g7 a5 aq aI W7=>{L7,1,{_,Qk aq},?_}};refine zJ I X (g6.trans g7) d0 (N0:=m) (g7 _ _ e6) aq aI (m:=l) (λp q b=>?_) an ∅ (λk c=>?_) λN8 H H8 aV i1 i2 i3 aC e8=>?_
    .obtain⟨k,o,h⟩:=W7.lk p q b;exact{k,o,h l cn}
    .rcases only k c with b|b
     .have:=ab k b;ext
     .ext
    .refine{32,N8,1,λA ao v b=>aC _ _ (g7 _ _ (ac _ _ v b)) b,e8,aV,λk c=>i1 k (sub k c),λk c=>(i2 k c).elim (only k) (λb=>.inr b.1),λp' M E T G u g L j J=>?_};rw[TD,aw]at E;rcases Gh.mp E with b|b
     .obtain⟨b1,b2⟩:=done p' M b T G u g L j J;exact{i1 _ b1,b2}
     .have:(p',M)=(p,N):=by simpa using b
      cases this;have:=G.uniq W7.rel;subst this;have(k,o,h):=W7.lk u g L;rw[J]at o;cases o;exact{i3 u g j L J,h l cn}
   .rintro O Z ⟨H,U,Y,m,rfl,ac,e6,an,sub,only,done⟩;rw[GJ ar,Tw]at done;exact{22,m,1,λA ao v=>ac _ _ (g5 _ _ (B _ _ v)) (Qe v d0),e6,an,λk c=>(only k c).elim (ab k) (λb=>by ext),λp q k o h=>sub _ (ai p q k o h),λk c=>(only k c).elim (ae k) (λb=>by have(p,q,j,o,h,h3):=ae l ag;exact{p,q,j,o,h,by ext}),aU (i':=0) sub only done}
  .rw[Td ag];refine Q4 {22,e,1,B,R,S,ab,ai,ae,λk c b=>?_};rcases Dh k (⇑x.zt - i)with h|h
   .have:k=l:=by ext
    exact absurd (this▸c) ag
   .exact ah k c h
 .rintro O H4 ⟨H,x5,U,Y,e,rfl,B,R,S,ab,ai,ae,ah⟩;have aL:⇑e<64:=by have:⇑e<=⇑(EM x.zt.length):=Xw S λk c=>Se.mpr (ab k c);rw[E1]at this;ext
  refine{0,d,_,e.map (λk:Nat=>(k:Int)),1,R,?_,by rw[V0];exact aL,λN l r0 Z hs=>?_}
  .unfold dS;rw[Di,Di];rfl
  have aE:l=(l.map E2).map (λk:Nat=>(k:Int)):=by rw[Di];refine(Ft l).symm.trans (TY λay hz=>?_);have:=Z.mem_iff.mp hz;have(k,_,rfl):=Tx.mp this;rfl
  have m:(l.map E2).Perm e:=by
   have:=Z.map E2;rw[Di]at this;have v:(e.map (E2∘λk:Nat=>(k:Int)))=e:=by refine(TY λk _=>?_).trans (Ft e);rfl
   rwa[v]at this
  have eo:HO.lst (l.map V.int)=HO.lst ((l.map E2).map jv):=by
   congr 1
   conv=>lhs;rw[aE]
   rw[Di];rfl
  have pw:(l.map E2).Pairwise (·<=·):=by rw[RN];exact hs.imp λb=>by ext
  rw[eo];refine q N (l.map E2) _ (B.trans (Qf r0 _)) (B.free r0) Qb (m.nodup_iff.mpr S) pw {λk c=>ab k (m.mem_iff.mp c),λT G p M E k c=>?_,λk c z ad p M E T G u g L j J=>?_,λk c=>?_}
  .have:=G.uniq W.rel;subst this;exact m.mem_iff.mpr (ai p M k E c)
  .obtain⟨b1,b2⟩:=ah k (m.mem_iff.mp c) ∅ z ad p M E T G u g L j J;exact{m.mem_iff.mpr b1,b2}
  .subst_vars;have(p,M,j,o,h,h3):=ae k (m.mem_iff.mp c);intros;exact{r,p,M,j,W.rel,o,h,h3}
end
inductive Lr where
 |told (n:Nat)
 |asked
 |turn (k:Nat)
 |chain (ks:List Nat)
 |like (ks:List Nat)
abbrev Ln:=Nat×Nat×Lr
variable{ls:List Ln}
def nY(a:List Ln):Nat->List Nat->Nat->Prop
 |p,[],q=>p=q
 |p,k::b,q=>∃m r,a[k]?/(p,m,r)/\nY a m b q
def jq(fs:List Fm)(d:List Lk)(c:List Ln)(a b:Nat):Lr->Prop
 |.told n=>(a,b,Ga (.told n))∈d
 |.asked=>(a,b,Ga .asked)∈d
 |.turn k=>∃r,c[k]?/(b,a,r)
 |.chain e=>nY c a e b
 |.like e=>Yt fs a=Yt fs b/\⇑(Zx fs a)=⇑(Zx fs b)/\⇑e=⇑(Zx fs a)/\∀j k p q:Nat,e[j]?/k->(Zx fs a)[j]?/p->(Zx fs b)[j]?/q->∃r,c[k]?/(p,q,r)
def iR(fs:List Fm)(c:List Lk)(ls:List Ln):Prop:=∀(i a b:Nat)r,ls[i]?/(a,b,r)->jq fs c (ls.take i) a b r
theorem iR.nil:iR fs lks []:=λi a b r h=>by simp at h
theorem iR.snoc{r:Lr}(g:iR fs lks ls)(h:jq fs lks ls a b r):iR fs lks (ls++[(a,b,r)]):=λi e f j hi=>by
 rcases Dh i ⇑ls with c|c
 .rw[TB c]at hi;rw[SU (by lia)];exact g i e f j hi
 .rw[TU c]at hi;have:i=⇑ls:=by
   rcases Dh (i - ⇑ls) 1 with d|d
   .lia
   .rw[De (by simpa using d)]at hi;cases hi
  subst this;simp at hi;have(rfl,rfl,rfl):=hi;rw[List.take_left];exact h
def R0(H:Hp)(X:Ge->Prop)(v:V):Lr->Prop
 |.told n=>∃c,v=.ref c/\H c/.tup [.str "told",jv n]
 |.asked=>∃c,v=.ref c/\H c/.tup [.str "asked"]
 |.turn k=>∃c,v=.ref c/\H c/.tup [.str "turn",jv k]
 |.chain a=>∃c l,v=.ref c/\H c/.tup [.str "chain",↑l]/\H l/.lst (a.map jv)/\¬X l/\⇑a<=1000000
 |.like a=>∃c l,v=.ref c/\H c/.tup [.str "like",↑l]/\H l/.lst (a.map jv)/\¬X l/\⇑a<=1000000
inductive iI(H:Hp)(X:Ge->Prop)(us:List V)(v:V)(l:Ln):Prop
 |mk (c:_) (v1:_) (v2:_) (rv:_) (h0:v=↑c) (h1:H c/.tup [v1,v2,rv]) (h2:us[l.1]?/v1) (h3:us[l.2.1]?/v2) (h4:R0 H X rv l.2.2):iI H X us v l
structure I9(L M:Ge)(H H':Hp):Prop where
 keep:∀b o,H b/o->b≠L->b≠M->H' b/o
 there:∀b,H' b=Gq->H b=Gq
theorem I9.refl:I9 L M H H:={λ_ _ e _ _=>e,λ_ h=>h}
theorem I9.trans{d:Hp}(a:I9 L M H H1)(b:I9 L M H1 d):I9 L M H d:={λc o e f g=>b.keep c o (a.keep c o e f g) f g,λc h=>a.there c (b.there c h)}
theorem I9.of(g:Za H H1):I9 L M H H1:={λc o e _ _=>g c o e,λc h=>g.free h}
theorem R0.kp(e:∀{c:Ge}{f:List V},H c/.tup f->H' c/.tup f)(j:∀{c:Ge}{f:List V},H c/.lst f->¬X c->H' c/.lst f):∀{r:Lr},R0 H X v r->R0 H' X v r:=by
 intro r h;cases r with
 |told n=>have(c,a,b):=h;exact{c,a,e b}
 |asked=>have(c,a,b):=h;exact{c,a,e b}
 |turn k=>have(c,a,b):=h;exact{c,a,e b}
 |chain m=>have(c,l,a,b,g,d,i):=h;exact{c,l,a,e b,j g d,d,i}
 |like m=>have(c,l,a,b,g,d,i):=h;exact{c,l,a,e b,j g d,d,i}
theorem iI.kp{X:Ge->Prop}{H b:Hp}(d:∀{c:Ge}{a:List V},H c/.tup a->b c/.tup a)(m:∀{c:Ge}{a:List V},H c/.lst a->¬X c->b c/.lst a){e:List V}{v:V}{l:Ln}(h:iI H X e v l):iI b X e v l:=by have(c,o,p,n,f,g,i,j,k):=h;exact{c,o,p,n,f,d g,i,j,k.kp d m}
theorem R0.ex{Y:Ge->Prop}(g:∀c a,H c/.lst a->¬X c->¬Y c):∀{r:Lr},R0 H X v r->R0 H Y v r:=by
 intro r h;cases r with
 |told n=>exact h
 |asked=>exact h
 |turn k=>exact h
 |chain i=>have(c,l,b,d,a,e,f):=h;exact{c,l,b,d,a,g _ _ a e,f}
 |like i=>have(c,l,b,d,a,e,f):=h;exact{c,l,b,d,a,g _ _ a e,f}
theorem iI.ex{X Y:Ge->Prop}{H:Hp}(i:∀c b,H c/.lst b->¬X c->¬Y c){a:List V}{v:V}{l:Ln}(h:iI H X a v l):iI H Y a v l:=by have(c,k,m,j,b,d,e,f,g):=h;exact{c,k,m,j,b,d,e,f,g.ex i}
set_option genInjectivity false in
structure Sv where
 sh:Ge
 n:Ge
 t:Ge
 L:Ge
 M:Ge
 A:Na
 fs:List Fm
 tb:Nat
 x:Nn
 us:List V
 H0:Hp
 Ex:Ge->Prop
noncomputable def js(v:Sv):List (TM×V):=[("things",↑v.t),("net",↑v.n),("lines",↑v.L),("numbers",↑v.M)]
structure Vp(P:Gn)(w:Tf)(C D:Ge)(v:Sv)(H:Hp)(ls:List Ln)(N:Nat->Nat->Option Nat):Prop where
 ob:∃dx,H v.sh/.ins D dx (js v)
 sam:Za v.H0 H
 L0:v.H0 v.L=Gq
 M0:v.H0 v.M=Gq
 net:Ym P w C v.H0 v.n v.A v.fs v.tb v.x
 th:v.H0 v.t/.lst v.us
 li:∃vs,H v.L/.lst vs/\Df (iI H v.Ex v.us) vs ls
 nu:∃zw,H v.M/.dT zw/\⇑zw<=⇑ls/\∀i j:Nat,Xo zw [ki i,ki j]=(N i j).map jv
 ok:∀i j k,N i j/k->∃r,ls[k]?/(i,j,r)
 good:iR v.fs v.x.zt ls
 exL:v.Ex v.L
 exA:∀b,v.Ex b->∃o,H b/o
theorem I9.tp{a:List (List Wg×V)}(F:I9 L M H H')(d:H M/.dT a)(b:H L/.lst xs){c:Ge}(e:H c/.tup ys):H' c/.tup ys:=F.keep _ _ e (Yr e b nofun) (Yr e d nofun)
theorem I9.lp{a:List (List Wg×V)}(F:I9 L M H H')(d:H M/.dT a)(b:X L){c:Ge}(e:H c/.lst ys)(h:¬X c):H' c/.lst ys:=F.keep _ _ e (λz=>h (z▸b)) (Yr e d nofun)
theorem Vp.fr{v:Sv}(S:Vp P w C D v H ls N)(g:Za H H'):Vp P w C D v H' ls N:=by have(c,j):=S.ob;have(k,f,i):=S.li;have(a,n1,n2,n3):=S.nu;exact{{c,g _ _ j},S.sam.trans g,S.L0,S.M0,S.net,S.th,{k,g _ _ f,Qr i λ_ _ h=>h.kp (λe=>g _ _ e) (λe _=>g _ _ e)},{a,g _ _ n1,n2,n3},S.ok,S.good,S.exL,λb d=>let⟨o,e⟩:=S.exA b d;{o,g _ _ e}}
theorem Vp.more{v:Sv}(S:Vp P w C D v H ls N)(g:H r=Gq):Vp P w C D {v with Ex:=λb=>v.Ex b\/b=r} (zj H r (.lst [])) ls N:=by
 have a:=S.fr (Qf g (.lst []));have(n,k,l):=S.li;have(i,d,m):=a.li;have:i=n:=by rw[Qf g (.lst []) _ _ k]at d;cases d;rfl
 subst this;refine{a.ob,a.sam,a.L0,a.M0,a.net,a.th,{i,d,Qr l λ_ _ h=>(h.ex (Y:=λb=>v.Ex b\/b=r) λc o e j z=>?_).kp (λe=>Qf g _ _ _ e) (λe _=>Qf g _ _ _ e)},a.nu,a.ok,a.good,.inl a.exL,λb f=>?_}
 .rcases z with z|z
  .exact j z
  .rw[z,g]at e;cases e
 .rcases f with f|f
  .exact a.exA b f
  .exact{_,by rw[f];exact Qb}
theorem Vp.less{v:Sv}(S:Vp P w C D {v with Ex:=λb=>v.Ex b\/b=r} H ls N)(a:v.Ex v.L):Vp P w C D v H ls N:=by have(j,g,i):=S.li;exact{S.ob,S.sam,S.L0,S.M0,S.net,S.th,{j,g,Qr i λ_ _ h=>h.ex λc k e f z=>f (.inl z)},S.nu,S.ok,S.good,a,λb d=>S.exA b (.inl d)}
theorem Vp.grow{v:Sv}{s:List V}(S:Vp P w C D v H ls N)(m:v.Ex r)(c:H r/.lst ys)(j:r≠v.L)(i:v.H0 r=Gq):Vp P w C D v (zj H r (.lst s)) ls N:=by
 have(g,f):=S.ob;have(q,n,p):=S.li;have(d,n1,n2,n3):=S.nu;refine{{g,Ql f (Yr f c nofun)},λb o e=>Ql (S.sam _ _ e) (Qe e i),S.L0,S.M0,S.net,S.th,{q,Ql n (Tb j),Qr p λ_ _ h=>h.kp (λe=>Ql e (Yr e c nofun)) (λe l=>Ql e (λz=>l (z▸m)))},{d,Ql n1 (Yr n1 c nofun),n2,n3},S.ok,S.good,S.exL,λb k=>?_};by_cases a:b=r
 .exact{_,by rw[a];exact Qb}
 .obtain⟨o,e⟩:=S.exA b k;exact{o,Ql e a}
theorem Vp.same{v:Sv}(S:Vp P w C D v H ls N)(F:I9 v.L v.M H H'):Za v.H0 H':=λb o e=>F.keep b o (S.sam b o e) (Qe e S.L0) (Qe e S.M0)
noncomputable def putN(N:Nat->Nat->Option Nat)(a b m:Nat):Nat->Nat->Option Nat:=λi j=>if i=a/\j=b then Ga m else N i j
structure kJ(K:Gd)(D:Ge):Prop where
 cl:hZ K D
 things:Xg K D "things"
 net:Xg K D "net"
 lines:Xg K D "lines"
 Il:Xg K D "numbers"
theorem v5(v:Sv):(js v).lookup ("things":TM)/↑v.t:=by rfl
theorem sk(v:Sv):(js v).lookup ("net":TM)/↑v.n:=by rfl
theorem r9(v:Sv):(js v).lookup ("lines":TM)/↑v.L:=by rfl
theorem V9(v:Sv):(js v).lookup ("numbers":TM)/↑v.M:=by rfl
theorem rP(v:Sv):(js v).lookup ("write":TM)=Gq:=by rfl
theorem YK(v:Sv):(js v).lookup ("write_link":TM)=Gq:=by rfl
theorem O7(v:Sv):(js v).lookup ("line_for":TM)=Gq:=by rfl
inductive zV(P:Gn)(w:Tf)(C:Ge)(D:Ge)(vs:List V)(H:Hp)(Q:VK):Prop
 |mk (v:Sv) (ls:List Ln) (N:Nat->Nat->Option Nat) (a:Nat) (b:Nat) (rv:V) (r:Lr) (h0:vs=[↑v.sh,jv a,jv b,rv]) (h1:Vp P w C D v H ls N) (h2:a<⇑v.us) (h3:b<⇑v.us) (h4:R0 H v.Ex rv r) (h5:jq v.fs v.x.zt ls a b r) (h6:⇑ls<=1000000) (h7:∀H',Vp P w C D v H' (ls++[(a,b,r)]) (putN N a b ⇑ls)->I9 v.L v.M H H'->Q .non H'):zV P w C D vs H Q
def rq(P:Gn)(w:Tf)(C D:Ge):Sp:=λa H Q _=>zV P w C D a H Q
section
variable{P:Gn}{w:Tf}{K:Gd}{mg:TM->Option Gj}{base:Heap}
theorem Ki:Q7 ["self","one","other","reason"] ["self","one","other","reason"] (Qo oY):=by eq_refl
theorem VI(F:Wd K "write" "Showing.write" oY f fd)(e:kJ K D)(X:I0 mg):Q3 P w K mg base Ya 1 f fd ["self","one","other","reason"] (rq P w C D):=by
 refine F.ok Ki (λg h aa Y a=>?_) (λah af aj s h g aa Y hr a=>?_)
 .obtain⟨v,ls,Z,b,c,z,R,rfl,_⟩:=a;rfl
 have(v,ls,Z,b,c,z,R,rfl,S,al,bl,ae,Ye,ai,q):=a;have hu:=Ju hr;exists _,Qc (Vl hu (Qx {0}) (Zf (Qa {1} (Qa {2} Qd))) (Qm Zp rfl X.len GY (Qa (Qx {0}) Qd)) rfl)
  (Qg (Zn (X0 Te Tv Tz Z4 (Qx {0}) (Qa (Zf (Qa (Qn Ze (Qx {0}) {1}) (Qa (Qn Ze (Qx {0}) {2}) (Qa {3} Qd)))) Qd))))
 ac_nf;have(l,o):=S.ob;have(g,n,O):=S.li;have(I,n1,n2,n3):=S.nu;intros;have ad:=GJ O;refine{0,v.sh,D,l,30,o,e.cl,e.lines,r9 _,v.L,g,1,.inl (Qk n),0,v.sh,D,l,30,o,e.cl,e.Il,V9 _,00,Yy,λE hc=>?_};have L:=Qf hc (.tup [jv b,jv c]);have dp:=Oh.t (k:=[ki b,ki c]) (v:=.int (⇑g:Int)) (L _ _ n1) (show(zj h E (.tup [jv b,jv c])) E/(.tup ([ki b,ki c].map kV))from Qb) (by rw[TH];lia);exists v.M,0,dp;have M:v.L≠v.M:=Yr n n1 nofun;have Q:v.sh≠v.M:=Yr o n1 nofun;have oL:v.sh≠v.L:=Yr o n nofun;generalize G:zj (zj h E (.tup [jv b,jv c])) v.M (.dT (V5 I [ki b,ki c] (.int (⇑g:Int))))=u;have x:∀{d y},h d/y->d≠v.M->u d/y:=λm a=>by rw[<-G];exact Ql (L _ _ m) a
 have t2:∀{d},u d=Gq->h d=Gq:=λ{d}a=>by rw[<-G]at a;exact L.free (Yg a)
 have M2:u v.M/.dT (V5 I [ki b,ki c] (.int (⇑g:Int))):=by rw[<-G];exact Qb
 have J:=x o Q;have B:=x n M;have T:h v.t/.lst v.us:=S.sam _ _ S.th;have U:=x T (Yr T n1 nofun);have V:v.us[b]?/v.us[b]:=Gf al;have W:v.us[c]?/v.us[c]:=Gf bl;refine{0,v.sh,D,l,30,J,e.cl,e.lines,r9 _,.inl {13,Qk B},0,v.sh,D,l,30,J,e.cl,e.things,v5 _,0,v.t,v.us,301,Qk U,Zk V,0,v.sh,D,l,30,J,e.cl,e.things,v5 _,0,v.t,v.us,301,Qk U,Zk W,0,Vk,λp H=>?_};have A:=Qf H (.tup [v.us[b],v.us[c],z]);have ab:p≠v.L:=Tb (Qe B H);have ag:p≠v.M:=Tb (Qe M2 H);exists v.L,g,01,A _ _ B,(by rw[TH];lia);have F:I9 v.L v.M h (zj (zj u p (.tup [v.us[b],v.us[c],z])) v.L (.lst (g++[↑p]))):={λd y m h1 h2=>Ql (A _ _ (x m h2)) h1,λd a=>t2 (A.free (Yg a))};refine q _ {{l,F.keep _ _ o oL Q},S.same F,S.L0,S.M0,S.net,S.th,{_,Qb,EV (Qr O λ_ _ a=>a.kp (F.tp n1 n) (F.lp n1 S.exL)) {p,v.us[b],v.us[c],z,1,Ql Qb ab,V,W,ae.kp (F.tp n1 n) (F.lp n1 S.exL)}},{_,Ql (A _ _ M2) (Tb M),?_,λi j=>?_},λi j k r=>?_,S.good.snoc Ye,S.exL,λd ac=>?_} F
 .have:=W9 I [ki b,ki c] (.int (⇑g:Int));rw[Gk,GQ];lia
 .rw[qN,n3];unfold putN;by_cases a:i=b/\j=c
  .obtain⟨rfl,rfl⟩:=a;rw[GX Xb,GX ⟨Xb,Xb⟩,ad];rfl
  .rw[Gs a,Gs];intro t;simp only[DB,BE]at t;exact a {Ic t.1,Ic t.2}
 .unfold putN at r;by_cases a:i=b/\j=c
  .rw[GX a]at r;cases r;have(rfl,rfl):=a;exact{R,by simp}
  .rw[Gs a]at r;have(r',N):=S.ok i j k r;exact{r',by rw[TB (Gg.mp N).1];exact N}
 .obtain⟨y,m⟩:=S.exA d ac;exact Md.mp λt=>by rw[F.there d t]at m;cases m
def Dr(N:Nat->Nat->Option Nat)(a b:Nat):Prop:=(N a b).isSome=Gi\/(N b a).isSome=Gi
def iL(N a:Nat->Nat->Option Nat):Prop:=∀i j,(N i j).isSome=Gi->(a i j).isSome=Gi
def hP(v:Sv)(N:Nat->Nat->Option Nat)(m:Nat):Prop:=∀i j,(N i j).isSome=Gi->Cn (v.x.zt.take m) i j
theorem Dr.sub{c:Nat->Nat->Option Nat}(h:Dr N a b)(s:iL N c):Dr c a b:=h.elim (λh=>.inl (s _ _ h)) λh=>.inr (s _ _ h)
theorem w9:iL N (putN N a b m):=λi j h=>by
 unfold putN;split
 .rfl
 .exact h
theorem A4{v:Sv}(h:hP v N m)(c:Cn (v.x.zt.take m) a b):hP v (putN N a b k) m:=λi j z=>by
 unfold putN at z;split at z
 .rename_i e
  rw[e.1,e.2];exact c
 .exact h i j z
theorem rV:putN N a b m a b/m:=GX ⟨Xb,Xb⟩
structure Go(v:Sv)(N:Nat->Nat->Option Nat)(a b:Nat):Prop where
 inv:Wv (Yt v.fs) (Zx v.fs) v.x []
 aS:a∈v.x.S
 bS:b∈v.x.S
 eq:v.x.zg a=v.x.zg b
 hS:⇑v.x.S<=1000
 st:∀st,ip v.x.up a b st->∀p q,(p,q)∈st->Dr N p q
inductive zI(P:Gn)(w:Tf)(C:Ge)(D:Ge)(g:Bool)(vs:List V)(H:Hp)(Q:VK):Prop
 |mk (v:Sv) (ls:List Ln) (N:Nat->Nat->Option Nat) (a:Nat) (b:Nat) (h0:vs=[↑v.sh,jv a,jv b]) (h1:Vp P w C D v H ls N) (h2:a<⇑v.us) (h3:b<⇑v.us) (h4:(∀p∈v.x.S,p<⇑v.us)) (h5:(Dr N a b\/(g=Gi/\Go v N a b))) (h6:⇑ls+(if g=Gi then 3000 else 0)<=900000) (h7:∀(k:Nat)(more:List Ln)(N':Nat->Nat->Option Nat)(H':Hp),Vp P w C D v H' (ls++more) N'->I9 v.L v.M H H'->N' a b/k->iL N N'->⇑more<=2*⇑v.x.S+1->(∀m,hP v N m->Cn (v.x.zt.take m) a b->hP v N' m)->(N a b=Gq->∃r,(ls++more).getLast?/(a,b,r))->(g=Gx->⇑more<=1)->(N a b≠Gq->more=[])->Q (jv k) H'):zI P w C D g vs H Q
def lI(P:Gn)(w:Tf)(C D:Ge)(g:Bool):Sp:=λa H Q _=>zI P w C D g a H Q
def pG(P:Gn)(w:Tf)(C D:Ge):Bool->Sp
 |true=>lI P w C D Gx
 |false=>λ_ _ _ _=>False
theorem UE(c:kL p st q)(h:⇑ks=⇑st)(f:∀j k u v:Nat,ks[j]?/k->st[j]?/(u,v)->∃r,ls[k]?/(u,v,r)):nY ls p ks q:=by
 induction c generalizing ks with
 |nil=>cases ks with
  |nil=>rfl
  |cons=>cases h
 |cons _ b=>cases ks with
  |nil=>cases h
  |cons k ks=>have(r,a):=f 0 k _ _ rfl rfl;exact{_,r,a,b (C8 h) λj=>f (j+1)}
theorem Az{a:List Ln}{l:Ln}(h:ls[k]?/l):(ls++a)[k]?/l:=by rw[TB (Gg.mp h).1];exact h
theorem vj:Q7 ["self","one","other","reason"] ["self","one","other"] (Qo nG):=by eq_refl
theorem vX:(["start","end","self"]:List TM).Nodup:=by decide+kernel
theorem yh{g:Bool}(e:2<=k)(F:Wd K "line_for" "Showing.line_for" nG f fd)(t:kJ K D)(TN:Jj K mg C)(mL:Yp K D "line_for" f)(bL:zk K fd ["self","one","other"] [])(aF:Q3 P w K mg base Ya k f fd ["self","one","other"] (pG P w C D g))
  (mW:Yp K C "way" fW)(GW:Q3 P w K mg base Ya 2 fW fdW ["self","one","other"] (qU P w C))(bW:zk K fdW ["self","one","other"] [])(mR:Yp K D "write" fR)(GR:Q3 P w K mg base Ya 1 fR fdR ["self","one","other","reason"] (rq P w C D))(bR:zk K fdR ["self","one","other","reason"] []):
  Q3 P w K mg base Ya (k+1) f fd ["self","one","other"] (lI P w C D g):=by
 refine F.ok vj (λvs N h e d=>?_) (λl A m s N vs h e hr d=>?_)
 .obtain⟨b,E,o,a,c,rfl,_⟩:=d;rfl
 have(b,E,o,a,c,rfl,S,al,bl,Sl,aC,aR,q):=d;have hu:=Ju hr;have aS:Yj 1 _:=hr.mono ∅;have aT:Yj 2 _:=hr.mono ∅;have nd:=vj.nd;have a5:⇑E<=900000:=by ext
 exists _,Qc (Zc (Oz (Qr5 hu (Zf (Qa {1} (Qa {2} Qd))) (Qx {0})))
   (Qc (Zc (Oz (rW hu (Zf (Qa {2} (Qa {1} Qd))) (Qx {0})))
    (Qg (Qz 3 nd (Zf (Qa Zi (Qa (Yc hu (Qx {0}) (Zf (Qa {2} (Qa {1} Qd))) (λ_ _=>rfl)) Qd)))))
    (Qg (Qz 3 nd (Zf (Qa Zi (Qa
     (Ua (te:=lX D "line_for" (pG P w C D g) [] E0 (Uj 2) (jg (Uj 0) (jg (Uj 1) jB))) (g:=qr K 2 (mo (Ui 0) (mo (Ui 1) rE))) (own:=["start","end"]) (fv:=[(0,"self")]) rfl (S:=(by eq_refl:X8 (Qo nG) _)) (.cons rfl (DW Xb) rfl .nil)
      (Yh (Zm (Qx {0}) TN.cl mW GW aT bW .nil Q5 (Qa {1} (Qa {2} Qd))))
      (λ_ _ _ _ _=>V8 rfl (Zr (Yz (i:=0) vX rfl (DW Xb) (Si Xb)) (Zr (Yz (i:=1) vX rfl (DW Xb) (Si Xb)) Wp))) (λ_ _ _ _ _=>Wk)
      (λ_ _ _ _ _=>Zm {2} t.cl mL aF hr bL .nil Q5 (Qa {0} (Qa {1} Qd)))) Qd))))))
   (Qg (Zn (Zm {0} t.cl mR GR aS bR .nil Q5 (Qa {1} (Qa {2} (Qa {3} Qd))))))) Qw)
  (Qg (Qt (Yc hu (Qx {0}) (Zf (Qa {1} (Qa {2} Qd))) (λ_ _=>rfl))))
 ac_nf;have(dx,o1):=S.ob;have(a9,n1,n2,n3):=S.nu;intros;refine{00,Yy,λad hc=>?_};have s1:=Qf hc (.tup [jv a,jv c]);have au:=Vr.t (k:=[ki a,ki c]) (s1 _ _ n1) (show(zj N ad (.tup [jv a,jv c])) ad/(.tup ([ki a,ki c].map kV))from Qb);rw[n3]at au;exists 0,b.sh,D,dx,30,s1 _ _ o1,t.cl,t.Il,V9 _,b.M,0,au,0;cases hN:o a c with
 |some v=>refine Q4 ?_;have r:=S.fr s1;have(aa,o2):=r.ob;have(aB,m2,_,aj):=r.nu;refine{0,b.sh,D,aa,30,o2,t.cl,t.Il,V9 _,00,Yy,λx ag=>?_};have H:=Qf ag (.tup [jv a,jv c]);have R:=Vr.t (k:=[ki a,ki c]) (H _ _ m2) (show(zj (zj N ad (.tup [jv a,jv c])) x (.tup [jv a,jv c])) x/(.tup ([ki a,ki c].map kV))from Qb);rw[aj,hN]at R;exists b.M,0,R;have S3:=r.fr H;exact q v [] o _ (by rw[DU];exact S3) (I9.of (s1.trans H)) hN (λ_ _ d=>d) (Ts _) (λ_ d _=>d) (λn=>by rw[hN]at n;cases n) (λ_=>Ts _) (λ_=>rfl)
 |none=>
  refine Yo ?_;refine{00,Yy,λc2 aM=>?_};have s2:=s1.trans (Qf aM (.tup [jv c,jv a]));have av:=Vr.t (k:=[ki c,ki a]) (s2 _ _ n1) (show(zj (zj N ad (.tup [jv a,jv c])) c2 (.tup [jv c,jv a])) c2/(.tup ([ki c,ki a].map kV))from Qb);rw[n3]at av;exists 0,b.sh,D,dx,30,s2 _ _ o1,t.cl,t.Il,V9 _,b.M,0,av,0;generalize zj (zj N ad (.tup [jv a,jv c])) c2 (.tup [jv c,jv a])=Hb at s2;have Sb:=S.fr s2;apply Q85 (A:=λ(O:Hp)(M:V)=>∃(h:Lr)(m:List Ln)(l:Nat->Nat->Option Nat),Vp P w C D b O (E++m) l/\I9 b.L b.M N O/\R0 O b.Ex M h/\jq b.fs b.x.zt (E++m) a c h/\iL o l/\(∀e,hP b o e->Cn (b.x.zt.take e) a c->hP b l e)/\⇑m<=2*⇑b.x.S/\⇑m<=2000/\(g=Gx->⇑m=0))
  .intro aw;cases hT:o c a with
   |some v=>
    refine Yo ?_;have(J,I):=S.ok c a v hT;have(aa,o2):=Sb.ob;have(aB,m2,_,aj):=Sb.nu;refine{0,b.sh,D,aa,30,o2,t.cl,t.Il,V9 _,00,Yy,λx ag=>?_};have H:=Qf ag (.tup [jv c,jv a]);have R:=Vr.t (k:=[ki c,ki a]) (H _ _ m2) (show(zj Hb x (.tup [jv c,jv a])) x/(.tup ([ki c,ki a].map kV))from Qb);rw[aj,hT]at R;refine{b.M,0,R,Yy,λz ao=>?_};have s4:=Qf ao (.tup [.str "turn",jv v]);have r:Vp P w C D b (zj (zj Hb x (.tup [jv c,jv a])) z (.tup [.str "turn",jv v])) (E++[]) o:=by rw[DU];exact(Sb.fr H).fr s4
    have X:I9 b.L b.M N (zj (zj Hb x (.tup [jv c,jv a])) z (.tup [.str "turn",jv v])):=I9.of ((s2.trans H).trans s4);generalize ar:V.ref z=M;have T:R0 (zj (zj Hb x (.tup [jv c,jv a])) z (.tup [.str "turn",jv v])) b.Ex M (.turn v):={z,ar.symm,Qb};have Ye:jq b.fs b.x.zt (E++[]) a c (.turn v):={J,by rw[DU];exact I};obtain⟨m,G⟩:∃e:List Ln,e=[]:={40};rw[<-G]at r Ye;obtain⟨h,ab⟩:∃h:Lr,h=.turn v:={40};rw[<-ab]at T Ye;obtain⟨l,B⟩:∃l:Nat->Nat->Option Nat,l=o:={40};have ai:iL o l:=by rw[B];exactλ_ _ d=>d
    have ae:∀e,hP b o e->Cn (b.x.zt.take e) a c->hP b l e:=by rw[B];exactλ_ d _=>d
    rw[<-B]at r;have ml:⇑m=0:=by rw[G];rfl
    have ah:g=Gx->⇑m=0:=λ_=>ml;generalize zj (zj Hb x (.tup [jv c,jv a])) z (.tup [.str "turn",jv v])=O at r X T⊢;exact aw O M {h,m,l,r,X,T,Ye,ai,ae,by ext,by ext,ah}
   |none=>
    refine Q4 ?_;cases g with
    |false=>
     exfalso;rcases aC with(d|d)|⟨d,_⟩
     .rw[hN]at d;cases d
     .rw[hT]at d;cases d
     .cases d
    |true=>
    have B:Go b o a c:=by
     rcases aC with(d|d)|⟨_,d⟩
     .rw[hN]at d;cases d
     .rw[hT]at d;cases d
     .exact d
    have X2:=S.net.same Sb.sam;have(aL,on):=X2.ob;have(aa,o2):=Sb.ob;refine{0,b.sh,D,aa,30,o2,t.cl,t.net,sk _,b.n,aL,0,on,qh _,00,b.n,b.A,b.fs,b.tb,b.x,a,c,1,X2,B.inv,B.aS,B.bS,B.eq,B.hS,λL5 es st H5 g5 ak ax ay W=>{L5,1,{_,Qk ax},λG L=>?_}};have a7:=W.len;have a4:=GJ ay;have hS:=B.hS;have Z:=Sb.fr g5;have aG:L5≠b.L:=λn=>by have(vs,l1,_):=Sb.li;rw[n,l1]at ak;cases ak
    have aH:L5≠b.M:=λn=>by have(vs,l1,_):=Sb.nu;rw[n,l1]at ak;cases ak
    have aD:G≠b.L:=λn=>by have(vs,l1,_):=Z.li;rw[n,l1]at L;cases L
    have a2:G≠b.M:=λn=>by have(vs,l1,_):=Z.nu;rw[n,l1]at L;cases L
    have a1:b.H0 G=Gq:=Z.sam.free L;have s5:=Qf L (.lst []);ac_nf;have(bb,aU,_):=Z.li;have(a8,aV,_):=Z.nu;intros;refine Of (K:=K) (a:=L5) (xs:=es) (small ∅) (λi ys am Q=>iO λ(x0 x1:Option V)(ac:List Ln)(l:Nat->Nat->Option Nat)(J:List Nat)=>lJ (am=[x0,x1,Ga ↑b.sh]) (ys=J.map jv) (⇑J=i) (Vp P w C D {b with Ex:=λc=>b.Ex c\/c=G} Q (E++ac) l) (I9 b.L b.M H5 Q) (iL o l) (⇑ac<=i) (∀e,hP b o e->Cn (b.x.zt.take e) a c->hP b l e) (∀j k u u':Nat,J[j]?/k->st[j]?/(u,u')->∃h,(E++ac)[k]?/(u,u',h)))
     {2,[],o,[],111,by rw[DU];exact Z.more L,I9.of s5,λ_ _ d=>d,Ts _,λ_ d _=>d,by simp} (by rintro i ys am Q _ ⟨_,_,_,_,_,_,_,_,_,Y,_⟩;exact Qk (Y.keep _ _ ax aG aH)) ?_ ?_
    .rintro i y ys am Q hi aW ⟨x0,x1,ac,l,J,rfl,rfl,ap,S6,Y,aE,aY,aI,an⟩ aq;ac_nf;have((p,U),hp,c5,rfl,aN):=Qy ay hi;have az:(p,U)∈st:=Gc hp;have c6:=Y.tp aV aU aN;have il:i<⇑es:=(Gg.mp hi).1;have(kk,aO,aP):=W.lk p U az;have(rr,aA):=B.inv.fst.Qij p U kk aO;intros;have pS:p∈b.x.S/\U∈b.x.S:=by
      rcases aA with d|d
      .exact{(B.inv.lnk _ _ _ _ d).1,(B.inv.lnk _ _ _ _ d).2.1}
      .exact{(B.inv.lnk _ _ _ _ d).2.1,(B.inv.lnk _ _ _ _ d).1}
     have cn:∀e,Cn (b.x.zt.take e) a c->Cn (b.x.zt.take e) p U:=λe hm=>by
      have km:=aP e hm;rcases aA with d|d
      .exact .link (Gc (i:=kk) (by rw[DR km];exact d))
      .exact .symm (.link (Gc (i:=kk) (by rw[DR km];exact d)))
     have(aK,o6):=S6.ob;exists c5,0,Qj c6,130301;refine{0,b.sh,aK,0,o6,O7 b,00,{b with Ex:=λc=>b.Ex c\/c=G},E++ac,l,p,U,1,S6,Sl p pS.1,Sl U pS.2,Sl,.inl ((B.st st W.rel p U az).sub aE),by rw[Gs (by decide)];rw[GX rfl]at aR;rw[Gk];ext,λk' aZ N2 H7 S7 F7 aQ a3 ba aJ _ aX _=>?_};have r7:=F7.keep _ _ aq aD a2;have a6:=aX rfl;refine{r7,2,ac++aZ,N2,J++[k'],1,by rw[TZ];rfl,by rw[Gk,GQ,ap],by rw[<-Dq];exact S7.grow (.inr Xb) r7 aD a1,{λb' a0 af I h2=>Ql (F7.keep _ _ (Y.keep _ _ af I h2) I h2) (Qe af L),λb' d=>Y.there _ (F7.there _ (Yg d))},λi j d=>a3 _ _ (aE _ _ d),by rw[Gk];ext,λe hc hm=>aJ e (aI e hc hm) (cn e hm),λj v u u' I h2=>?_}
     .rcases Dh j ⇑J with hj|hj
      .rw[TB hj]at I;have(h,ab):=an j v u u' I h2;rw[<-Dq];exact{h,Az ab}
      .rw[TU hj]at I;have:j=⇑J:=by
        rcases Dh (j - ⇑J) 1 with h'|h'
        .ext
        .rw[De (by simpa using h')]at I;cases I
       subst this;simp at I;subst I;rw[ap,hp]at h2;cases h2;rw[<-Dq];exact S7.ok _ _ _ aQ
    .rintro ys am Q aW ⟨x0,x1,m,l,J,rfl,rfl,ap,S6,Y,ai,aY,ae,an⟩ aq;refine{Yy,λz ao=>?_};have s4:=Qf ao (.tup [.str "chain",↑G]);have r:=(S6.less S.exL).fr s4;have X:I9 b.L b.M N (zj Q z (.tup [.str "chain",↑G])):=(I9.of (s2.trans g5)).trans (Y.trans (I9.of s4));generalize ar:V.ref z=M;obtain⟨h,ab⟩:∃h:Lr,h=.chain J:={40};have T:R0 (zj Q z (.tup [.str "chain",↑G])) b.Ex M h:=by rw[ab];exact{z,G,ar.symm,Qb,s4 _ _ aq,(λn=>by have(a0,af):=Z.exA G n;rw[L]at af;cases af),by ext}
     have Ye:jq b.fs b.x.zt (E++m) a c h:=by rw[ab];exact UE W.path ∅ an
     have ml:⇑m<=2*⇑b.x.S:=by ext
     have ah:Gi=Gx->⇑m=0:=λn=>by cases n
     generalize zj Q z (.tup [.str "chain",↑G])=O at r X T⊢;exact aw O M {h,m,l,r,X,T,Ye,ai,ae,by ext,by ext,ah}
  .rintro O M ⟨h,m,l,r,X,T,Ye,ai,ae,ml,Q,ah⟩;have(I,L):=r.ob;refine{0,b.sh,I,0,L,rP _,000,b,E++m,l,a,c,M,h,1,r,al,bl,T,Ye,by rw[Gk];ext,λG z B=>?_};have(aa,o2):=z.ob;have(aB,m2,_,aj):=z.nu;refine{0,b.sh,D,aa,30,o2,t.cl,t.Il,V9 _,00,Yy,λx ag=>?_};have H:=Qf ag (.tup [jv a,jv c]);have R:=Vr.t (k:=[ki a,ki c]) (H _ _ m2) (show(zj G x (.tup [jv a,jv c])) x/(.tup ([ki a,ki c].map kV))from Qb);rw[aj,rV]at R;exists b.M,0,R;have S3:=z.fr H;rw[Dq]at S3;exact q _ (m++[(a,c,h)]) _ _ S3 ((X.trans B).trans (I9.of H)) rV (λi j d=>w9 _ _ (ai i j d)) (by rw[Gk,GQ];ext) (λe hc hm=>A4 (ae e hc hm) hm) (λ_=>{h,by rw[<-Dq,Sy]}) (λJ=>by rw[Gk,GQ];have:=ah J;ext) (λn=>absurd hN n)
theorem Pw:Q3 P w K mg base Ya 2 f fd ["self","one","other"] (pG P w C D Gx):=
 {λc H Q E h=>False.elim h,λA a s H b d c Q E _ _ _ _ h=>False.elim h}
inductive wZ(P:Gn)(w:Tf)(C:Ge)(D:Ge)(vs:List V)(H:Hp)(Q:VK):Prop
 |mk (v:Sv) (ls:List Ln) (N:Nat->Nat->Option Nat) (lv:V) (a:Nat) (b:Nat) (rs:Option Ib) (h0:vs=[↑v.sh,lv]) (h1:Vp P w C D v H ls N) (h2:Oi H lv (a,b,rs)) (h3:(a,b,rs)∈v.x.zt) (h4:a<⇑v.fs) (h5:b<⇑v.fs) (h6:⇑v.fs=⇑v.us) (h7:(∀p∈v.x.S,p<⇑v.us)) (h8:⇑v.x.S<=60) (h9:⇑(Zx v.fs a)<=100) (h10:(rs=Gq->Yt v.fs a=Yt v.fs b/\⇑(Zx v.fs a)=⇑(Zx v.fs b))) (h11:(∀p q,(p,q)∈Wy v.fs (a,b,rs)->Go v N p q)) (h12:⇑ls<=880000) (h13:∀(more:List Ln)(N1:Nat->Nat->Option Nat)(r:Lr)(H':Hp),Vp P w C D v H' (ls++more++[(a,b,r)]) (putN N1 a b ⇑(ls++more))->I9 v.L v.M H H'->iL N N1->⇑more<=12100->(∀m,hP v N m->(∀p q,(p,q)∈Wy v.fs (a,b,rs)->Cn (v.x.zt.take m) p q)->hP v N1 m)->Q .non H'):wZ P w C D vs H Q
def tQ(P:Gn)(w:Tf)(C D:Ge):Sp:=λa H Q _=>wZ P w C D a H Q
theorem Go.sub{v:Sv}{N d:Nat->Nat->Option Nat}{a b:Nat}(g:Go v N a b)(s:iL N d):Go v d a b:={g.inv,g.aS,g.bS,g.eq,g.hS,λe c p q h=>(g.st e c p q h).sub s}
theorem ye:Q7 ["self","link","reason"] ["self","link"] (Qo V6):=by eq_refl
theorem zA:(["part","twin","self"]:List TM).Nodup:=by decide+kernel
theorem ZF(F:Wd K "write_link" "Showing.write_link" V6 f fd)(ad:kJ K D)(mL:Yp K D "line_for" fL)(bL:zk K fdL ["self","one","other"] [])(GL:Q3 P w K mg base Ya 4 fL fdL ["self","one","other"] (lI P w C D Gi))
  (GB:Q3 P w K mg base Ya 1 fB fdB ["net","link"] (qc P w C))(kB:KI K fB)(bB:zk K fdB ["net","link"] [])(mB:MG mg "pairs_below" fB)(mR:Yp K D "write" fR)(GR:Q3 P w K mg base Ya 1 fR fdR ["self","one","other","reason"] (rq P w C D))(bR:zk K fdR ["self","one","other","reason"] []):
  Q3 P w K mg base Ya 5 f fd ["self","link"] (tQ P w C D):=by
 refine F.ok ye (λY R l h g=>?_) (λr o v s R Y l h hr g=>?_)
 .obtain⟨b,B,L,lv,a,c,X,rfl,_⟩:=g;rfl
 have(b,B,L,lv,a,c,X,rfl,S,(O,T,rfl,hc,ae),az,aS,aT,a2,Sl,hS,a1,aV,aU,a3,q):=g;have al:a<⇑b.us:=by ext
 have bl:c<⇑b.us:=by ext
 have aA:Yj 1 _:=hr.mono ∅;have nd:=ye.nd;show∃t,Xu ?my _ t/\_;let w3:Vq ?my V6 2:={_,Qg (Zn (Zm {0} ad.cl mR GR aA bR .nil Q5 (Qa (Qn Qs {1} Qi) (Qa (Qn Qs {1} Qi) (Qa {2} Qd)))))}
 let w2:Vq ?my V6 1:=⟨_,Qc (Zc (Qp Q3h {2} U9 (Qu _))
   (Qg (Qz 2 nd (Zf (Qa Zi (Qa
     (Ua (te:=lX D "line_for" (lI P w C D Gi) [] E0 (Uj 2) (jg (Uj 0) (jg (Uj 1) jB))) (g:=qr K 2 (mo (Ui 0) (mo (Ui 1) rE))) (own:=["part","twin"]) (fv:=[(0,"self")]) rfl (S:=(by eq_refl:X8 (Qo V6) _)) (.cons rfl (DW Xb) rfl .nil)
      (Yh (Zb GB aA rfl mB kB bB .nil Q5 (Qa (Qx {0}) (Qa {1} Qd))))
      (λ_ _ _ _ _=>V8 rfl (Zr (Yz (i:=0) zA rfl (DW Xb) (Si Xb)) (Zr (Yz (i:=1) zA rfl (DW Xb) (Si Xb)) Wp))) (λ_ _ _ _ _=>Wk)
      (λ_ _ _ _ _=>Zm {2} ad.cl mL GL hr bL .nil Q5 (Qa {0} (Qa {1} Qd)))) Qd))))) Qw) w3.2⟩
 exists _,Qc (Qz 2 nd (Qn Qs {1} Qi)) w2.2;exists 0,O,201,Qj hc,ji _ _ _ _;exists 4010;rw[Ah ae];cases X with
 |some X=>
  refine Q4 ?_;have N:Vp P w C D b R (B++[]) L:=by rw[DU];exact S
  have F1:I9 b.L b.M R R:=I9.refl;have W:=hc;obtain⟨d,ao,Ye⟩:∃d:Lr,R0 R b.Ex T d/\jq b.fs b.x.zt (B++[]) a c d:=by
   cases X with
   |told n=>exact{.told n,ae,az}
   |asked=>exact{.asked,ae,az}
  obtain⟨M,l⟩:∃m:List Ln,m=[]:={40};rw[<-l]at N Ye;obtain⟨e,h⟩:∃e:Nat->Nat->Option Nat,e=L:={40};have aq:iL L e:=by rw[h];exactλ_ _ g=>g
  have am:∀m,hP b L m->(∀p q,(p,q)∈Wy b.fs (a,c,Ga X)->Cn (b.x.zt.take m) p q)->hP b e m:=by rw[h];exactλ_ g _=>g
  rw[<-h]at N;have ml:⇑M<=12100:=by rw[l];exact Ts _
  have(an,ap):=N.ob;refine{0,b.sh,an,0,ap,rP _,0,O,201,Qj W,Oj _ _,0,O,201,Qj W,Re _ _ _,0,b,B++M,e,a,c,T,d,1,N,al,bl,ao,Ye,by rw[Gk];ext,λH2 S2 F2=>?_};exact q M e d H2 S2 (F1.trans F2) aq ml am
 |none=>
  refine Yo ?_;have X2:=S.net.same S.sam;have(dx,o1):=S.ob;refine{0,b.sh,D,dx,30,o1,ad.cl,ad.net,sk _,0,b.n,b.A,b.fs,b.tb,b.x,↑O,(a,c,Gq),1,X2,⟨O,T,Xb,hc,ae⟩,aS,aT,λL5 es H5 g5 aa ar au=>{L5,1,{_,Qk ar},λr v=>?_}};have(aM,aL):=aV rfl;have aX:=GJ au;have aY:⇑(Wy b.fs (a,c,Gq))=⇑(Zx b.fs a):=by simp only[Wy,LR];ext
  have H:=S.fr g5;have aJ:L5≠b.L:=λx=>by have(Y,I,_):=S.li;rw[x,I]at aa;cases aa
  have aK:L5≠b.M:=λx=>by have(Y,I,_):=S.nu;rw[x,I]at aa;cases aa
  have ax:r≠b.L:=λx=>by have(Y,I,_):=H.li;rw[x,I]at v;cases v
  have aR:r≠b.M:=λx=>by have(Y,I,_):=H.nu;rw[x,I]at v;cases v
  have aQ:b.H0 r=Gq:=H.sam.free v;have s5:=Qf v (.lst []);have(a0,av,_):=H.li;have(aZ,aw,_):=H.nu;refine Of (K:=K) (a:=L5) (xs:=es) (small ∅) (λi ys ac G=>iO λ(x0 x1:Option V)(Q:List Ln)(e:Nat->Nat->Option Nat)(o:List Nat)=>lJ (ac=[x0,x1,Ga ↑b.sh]) (ys=o.map jv) (⇑o=i) (Vp P w C D {b with Ex:=λc=>b.Ex c\/c=r} G (B++Q) e) (I9 b.L b.M H5 G) (iL L e) (⇑Q<=i*121) (∀m,hP b L m->(∀p q,(p,q)∈Wy b.fs (a,c,Gq)->Cn (b.x.zt.take m) p q)->hP b e m) (∀j k u u':Nat,o[j]?/k->(Wy b.fs (a,c,Gq))[j]?/(u,u')->∃d,(B++Q)[k]?/(u,u',d)))
   {2,[],L,[],111,by rw[DU];exact H.more v,I9.of s5,λ_ _ g=>g,Ts _,λ_ g _=>g,by simp} (by rintro i ys ac G _ ⟨_,_,_,_,_,_,_,_,_,z,_⟩;exact Qk (z.keep _ _ ar aJ aK)) ?_ ?_
  .rintro i y ys ac G hi aN ⟨x0,x1,Q,e,o,rfl,rfl,ag,S6,z,ak,aO,aB,af⟩ ah;ac_nf;have((p,J),hp,c5,rfl,aE):=Qy au hi;have ai:(p,J)∈Wy b.fs (a,c,Gq):=Gc hp;have c6:=z.tp aw av aE;have il:i<⇑es:=(Gg.mp hi).1;have l:=(aU p J ai).sub ak;have(aD,o6):=S6.ob;intros;exists c5,0,Qj c6,130301;refine{0,b.sh,aD,0,o6,O7 b,00,{b with Ex:=λc=>b.Ex c\/c=r},B++Q,e,p,J,1,S6,Sl p l.aS,Sl J l.bS,Sl,.inr {1,{l.inv,l.aS,l.bS,l.eq,l.hS,l.st}},by rw[GX Xb,Gk];ext,λk' aj N2 H7 S7 Z aG aI aH aC _ _ _=>?_};have r7:=Z.keep _ _ ah ax aR;have aW:⇑aj<=2*⇑b.x.S+1:=aH;refine{r7,2,Q++aj,N2,o++[k'],1,by rw[TZ];rfl,by rw[Gk,GQ,ag],by rw[<-Dq];exact S7.grow (.inr Xb) r7 ax aQ,{λb' aP U h A=>Ql (Z.keep _ _ (z.keep _ _ U h A) h A) (Qe U v),λb' g=>z.there _ (Z.there _ (Yg g))},λi j g=>aI _ _ (ak _ _ g),by rw[Gk];ext,λm aF hm=>aC m (aB m aF hm) (hm p J ai),λj k0 u u' h A=>?_};rcases Dh j ⇑o with hj|hj
   .rw[TB hj]at h;have(d,ab):=af j k0 u u' h A;rw[<-Dq];exact{d,Az ab}
   .rw[TU hj]at h;have:j=⇑o:=by
     rcases Dh (j - ⇑o) 1 with E|E
     .ext
     .rw[De (by simpa using E)]at h;cases h
    subst this;simp at h;subst h;rw[ag,hp]at A;cases A;rw[<-Dq];exact S7.ok _ _ _ aG
  .rintro ys ac G aN ⟨x0,x1,M,e,o,rfl,rfl,ag,S6,z,aq,aO,am,af⟩ ah;refine{Yy,λl Z=>?_};have s4:=Qf Z (.tup [.str "like",↑r]);have N:=(S6.less S.exL).fr s4;have F1:I9 b.L b.M R (zj G l (.tup [.str "like",↑r])):=(I9.of g5).trans (z.trans (I9.of s4));have W:=s4 _ _ (z.tp aw av (g5 _ _ hc));generalize ay:V.ref l=T;obtain⟨d,ab⟩:∃d:Lr,d=.like o:={40};have ao:R0 (zj G l (.tup [.str "like",↑r])) b.Ex T d:=by rw[ab];exact{l,r,ay.symm,Qb,s4 _ _ ah,(λx=>by have(aP,U):=H.exA r x;rw[v]at U;cases U),by ext}
   have Ye:jq b.fs b.x.zt (B++M) a c d:=by rw[ab];refine{aM,aL,by ext,λj k p J h A E=>af j k p J h ?_};simp only[Wy];rw[Lx];exact⟨A,E⟩
   have ml:⇑M<=12100:=by ext
   have(an,ap):=N.ob;refine{0,b.sh,an,0,ap,rP _,0,O,201,Qj W,Oj _ _,0,O,201,Qj W,Re _ _ _,0,b,B++M,e,a,c,T,d,1,N,al,bl,ao,Ye,by rw[Gk];ext,λH2 S2 F2=>?_};exact q M e d H2 S2 (F1.trans F2) aq ml am
inductive uh(P:Gn)(w:Tf)(C:Ge)(D:Ge)(vs:List V)(H:Hp)(Q:VK):Prop
 |mk (sh:Ge) (dx:Ge) (t:Ge) (n:Ge) (A:Na) (fs:List Fm) (tb:Nat) (x:Nn) (us:List V) (H0:Hp) (h0:vs=[↑sh,↑t,↑n]) (h1:H sh/.ins D dx []) (h2:H0 sh=Gq) (h3:Za H0 H) (h4:Ym P w C H0 n A fs tb x) (h5:H0 t/.lst us) (h6:∀(L M:Ge)(H':Hp),Vp P w C D ⟨sh,n,t,L,M,A,fs,tb,x,us,H0,λb=>b=L\/∃o,H0 b/o⟩ H' [] (λ_ _=>Gq)->Q .non H'):uh P w C D vs H Q
def Ay(P:Gn)(w:Tf)(C D:Ge):Sp:=λa H Q _=>uh P w C D a H Q
inductive pI(H:Hp)(X:Ge->Prop)(us:List V)(v:V)(ls:List Ln):Prop
 |mk (L:_) (vs:_) (h0:v=↑L) (h1:H L/.lst vs) (h2:¬X L) (h3:Df (iI H X us) vs ls) (h4:⇑ls<=900000):pI H X us v ls
inductive vv(P:Gn)(w:Tf)(C:Ge)(vs:List V)(H:Hp)(Q:VK):Prop
 |mk (t:Ge) (n:Ge) (A:Na) (fs:List Fm) (tb:Nat) (x:Nn) (us:List V) (one:Nat) (other:Nat) (h0:vs=[↑t,↑n,jv one,jv other]) (h1:Ym P w C H n A fs tb x) (h2:Wv (Yt fs) (Zx fs) x []) (h3:iV fs x.S) (h4:one∈x.S) (h5:other∈x.S) (h6:x.zg one=x.zg other) (h7:⇑x.S<=60) (h8:⇑x.zt<64) (h9:(∀p,⇑(Zx fs p)<=100)) (h10:H t/.lst us) (h11:⇑fs=⇑us) (h12:∀(v:V)(ls:List Ln)(H':Hp),Za H H'->pI H' (λb=>∃o,H b/o) us v ls->iR fs x.zt ls->(∃r,ls.getLast?/(one,other,r))->Q v H'):vv P w C vs H Q
def uG(P:Gn)(w:Tf)(C:Ge):Sp:=λa H Q _=>vv P w C a H Q
abbrev mkv(c n t L M:Ge)(A:Na)(fs:List Fm)(tb:Nat)(x:Nn)(d:List V)(a:Hp):Sv:={c,n,t,L,M,A,fs,tb,x,d,a,λb=>b=L\/∃o,a b/o}
theorem ro(I:Wv (Yt fs) (Zx fs) x [])(h:ip x.up a b st)(g:(p,q)∈st):∃k,x.Xr p q/k/\∀n,Cn (x.zt.take n) a b->k<n:=by have(j,l,P,Q,s,m,c,d,e,f,i,rfl):=h;exact I.fst.way c d e f i p q g
theorem YM:Q7 ["self","things","net"] ["self","things","net"] (Qo qy):=by eq_refl
theorem Qrb(F:Wd K "__init__" "Showing.__init__" qy f0 fd)(T:kJ K D):Q3 P w K mg base Ya 1 f0 fd ["self","things","net"] (Ay P w C D):=by
 refine F.ok YM (λW H Q E h=>?_) (λO A y s H W Q E Y h=>?_)
 .obtain⟨d,p,t,n,A,R,U,x,V,B,rfl,_⟩:=h;rfl
 have(d,p,t,n,A,R,U,x,V,B,rfl,m,J,f,X,ht,q):=h;exists _,Qc (Xk {0} {1} rfl) (Qc (Xk {0} {2} rfl) (Qc (Xk {0} (Zu Qd) rfl) (Qg (Xk {0} nt Xb))));exists 00,d,D,p,[],1,m,T.cl,T.things,(by show 0<1000;decide);refine{00,d,D,p,0,Qb,T.cl,T.net,by show 1<1000;decide,Ts _,λL N=>?_};rw[Vb]at N⊢;have a:H L=Gq:=Yg N;have r:L≠d:=Tb (Qe m a);refine{0,d,D,p,0,Ql Qb (Tb r),T.cl,T.lines,by show 2<1000;decide,λM S=>?_};have l:=Yg S;have v:=Yg l;have c:H M=Gq:=Yg v;have I:M≠d:=Tb (Qe m c);have G:L≠M:=λz=>by rw[<-z,Qb]at l;cases l
 exists 0,d,D,p,0,Ql Qb (Tb I),T.cl,T.Il,(by show 3<1000;decide);refine q L M _ {⟨p,Qb⟩,λb o e=>?_,f.free a,f.free c,X,ht,{[],?_,.nil},{[],?_,Ts _,λi j=>rfl},(λi j k h=>nomatch h),iR.nil,.inl Xb,λb u=>?_}
 .have g:b≠d:=Qe e J;exact Ql (Ql (Ql (Ql (Ql (f _ _ e) g) (Qe (f _ _ e) a)) g) (Qe (f _ _ e) c)) g
 .exact Ql (Ql (Ql Qb r) G) r
 .exact Ql Qb I
 .have u:b=L\/∃o,B b/o:=u;rcases u with u|⟨o,e⟩
  .rw[u];exact{_,Ql (Ql (Ql Qb r) G) r}
  .have g:b≠d:=Qe e J;exact{o,Ql (Ql (Ql (Ql (Ql (f _ _ e) g) (Qe (f _ _ e) a)) g) (Qe (f _ _ e) c)) g}
theorem xD:Q7 ["things","net","one","other","showing","number"] ["things","net","one","other"] (Qo oh):=by eq_refl
theorem Qqk(F:Wd K "lines_between" "lines_between" oh f fd)(ah:kJ K D)(TN:Jj K mg C)(mD:MG mg "Showing" D)(aP:Mk K D fI)(GI:Q3 P w K mg base Ya 1 fI fdI ["self","things","net"] (Ay P w C D))(bI:zk K fdI ["self","things","net"] [])
  (GN:Q3 P w K mg base Ya 3 fN fdN ["net","one","other"] (wB P w C))(kN:KI K fN)(bN:zk K fdN ["net","one","other"] [])(mN:MG mg "links_needed" fN)
  (mL:Yp K D "line_for" fL)(bL:zk K fdL ["self","one","other"] [])(GL:Q3 P w K mg base Ya 4 fL fdL ["self","one","other"] (lI P w C D Gi))(mW:Yp K D "write_link" fW)(bW:zk K fdW ["self","link"] [])(GW:Q3 P w K mg base Ya 5 fW fdW ["self","link"] (tQ P w C D)):
  Q3 P w K mg base Ya 6 f fd ["things","net","one","other"] (uG P w C):=by
 refine F.ok xD (λvs m L J b=>?_) (λW l Y s m vs L J hr b=>?_)
 .obtain⟨t,n,l,o,I,x,G,N,O,rfl,_⟩:=b;rfl
 have(t,n,l,o,I,x,G,N,O,rfl,X,v,FO,oS,tS,he,hS,aV,aT,ht,ao,q):=b;have aY:Yj 2 _:=hr.mono (by lia);have aZ:Yj 3 _:=hr.mono (by lia);have a0:Yj 4 _:=hr.mono (by lia);have nd:=xD.nd;show∃t,Xu ?my _ t/\_;let a6:Vq ?my oh 1:={_,Qc (Yb Tj rfl (Yh (Zb GN aZ rfl mN kN bN .nil Q5 (Qa {1} (Qa {2} (Qa {3} Qd))))) (Z7 5 nd) (Qg (Zn (Zm {4} ah.cl mW GW hr bW .nil Q5 (Qa (Qn Ze (Qx {1}) {5}) Qd))))) (Qc (Zn (Zm {4} ah.cl mL GL a0 bL .nil Q5 (Qa {2} (Qa {3} Qd)))) (Qg (Qt (Qx {4}))))}
 exists _,Qc (Qz 4 nd (rL aP GI aY rfl mD bI .nil Q5 (Qa {0} (Qa {1} Qd)))) a6.2;refine{00,λe dx aB aU a9=>?_};have s0:Za m (zj (zj m dx (.own e)) e (.ins D dx [])):=λaQ a3 aa=>by rw[Qh (Qe aa aB),Qh (Qe aa aU)];exact aa
 refine{e,dx,t,n,l,o,I,x,G,m,1,Qb,aB,s0,X,ht,λz M H1 S1=>{1,?_}};have X1:=X.same S1.sam;have(aC,aW,aD):=X.li;have(aR,on):=X.ob;refine{000,n,l,o,I,x,N,O,1,X1,v,FO,oS,tS,he,by lia,aV,λL2 h H2 g2 ag ay aq a5 Z=>{L2,1,{_,Qk ay},?_}};have S2:=S1.fr g2;have S2:Vp P w C D (mkv e n t z M l o I x G m) H2 [] (λ_ _=>Gq):=S2;have aN:L2≠z:=λH=>by have(vs,l1,_):=S1.li;rw[H,l1]at ag;cases ag
 have aO:L2≠M:=λH=>by have(vs,l1,_):=S1.nu;rw[H,l1]at ag;cases ag
 have aw:∀{j i k r:Nat},j<i->h[j]?/k->h[i]?/r->k<r:=λ{j i k r}ai h1 h2=>by have(J,W):=Gg.mp h1;have(L,Y):=Gg.mp h2;have le:=Mh.mp a5 j i J L ai;have ne:=Mh.mp aq j i J L ai;rw[W,Y]at le ne;lia
 have ax:∀{d:Nat->Nat->Option Nat}{i:Nat},(∀j k a g E,j<i->h[j]?/k->x.zt[k]?/(a,g,E)->(d a g).isSome=Gi)->∀{u Q j k:Nat},j<i->h[j]?/k->x.Xr u Q/k->Dr d u Q:=λ{d i}b{u Q j k}c hk hl=>by
  obtain⟨E,h1|h1⟩:=v.fst.Qij u Q k hl
  .exact .inl (b j k u Q E c hk h1)
  .exact .inr (b j k Q u E c hk h1)
 have ba:=GJ aD;let a4:Nat->St->Hp->Prop:=λi ak H3=>jN λ(x5:Option V)(R:List Ln)(d:Nat->Nat->Option Nat)=>jz (ak=[Ga ↑t,Ga ↑n,Ga (jv N),Ga (jv O),Ga ↑e,x5]) (Vp P w C D (mkv e n t z M l o I x G m) H3 R d) (I9 z M H2 H3) (⇑R<=i*12101) (∀j k a g E,j<i->h[j]?/k->x.zt[k]?/(a,g,E)->(d a g).isSome=Gi) (∀B,(∀j k,j<i->h[j]?/k->k<B)->hP (mkv e n t z M l o I x G m) d B) ((d N O).isSome=Gi->∃E,R.getLast?/(N,O,E))
 refine Yw (K:=K) (a:=L2) (xs:=h.map jv) a4
  {_,[],0,S2,I9.refl,Ts _,(λj k a g E b=>by lia),(λB _ i j b=>by cases b),(λb=>by cases b)} (by rintro i ak H3 _ ⟨_,_,_,_,_,F3,_⟩;exact Qk (F3.keep _ _ ay aN aO)) ?_ ?_
 .rintro i y ak H3 hi ⟨x5,R,d,rfl,S,F3,aA,ac,an,az⟩;rw[Tq]at hi;cases eq:h[i]? with
  |none=>rw[eq]at hi;cases hi
  |some k=>
   rw[eq]at hi;cases hi;have af:k∈h:=Gc eq;have kl:=Z.lt k af;have kw:k<⇑aC:=by lia
   have a8:i<⇑h:=(Gg.mp eq).1;have aX:⇑h<=64:=by have:⇑h<=⇑(EM x.zt.length):=Xw aq λk hk=>Se.mpr (Z.lt k hk);rw[E1]at this;lia
   have((a,g,rs),J,aI):=Qy aD (Gf kw);have(aS,bS,ar):=v.lnk k a g rs J;have aK:=S.sam _ _ on;have aJ:=S.sam _ _ aW;have(am,o3):=S.ob;have aL:Q6 m H3:=Q6.of S.sam;have aH:∀p q,(p,q)∈Wy o (a,g,rs)->Go (mkv e n t z M l o I x G m) d p q:=λp q L=>by
    have(pS,qS,Y):=nQ v J L;refine{v,pS,qS,(v.conn p pS q qS).mpr (Y.mono λH hz=>Dm hz),by show ⇑x.S<=1000;lia,λst U u Q ab=>?_};have(r,A,_):=ro v U ab;have(W,d2):=Z.low k af _ J p q L st U u Q ab r A;have(j,c):=Dj.mp W;have ai:j<i:=by
     rcases RO j i with b|b|b
     .exact b
     .subst b;rw[eq]at c;cases c;lia
     .have:=aw b eq c;lia
    exact ax ac ai c A
   refine{0,e,am,0,o3,YK _,0,n,C,aR,30,aK,TN.cl,TN.zt,J2 _,0,l.k,aC,301,Qk aJ,Zk (Gf kw),mkv e n t z M l o I x G m,R,d,_,a,g,rs,1,S,aI.Qv aL,Gc J,FO.lt a aS,FO.lt g bS,ao,λp hp=>by show p<⇑G;rw[<-ao];exact FO.lt p hp,hS,aT a,λH=>{(ar H).1,(ar H).2.1},aH,by lia,λaj N1 E H4 T F4 aE ap al=>?_};have aF:∀B,k<B->∀p q,(p,q)∈Wy o (a,g,rs)->Cn (x.zt.take B) p q:=λB hm p q L=>by
    have(pS,qS,Y):=nQ v J L;refine Y.mono λH hz=>?_;have:x.zt.take k=(x.zt.take B).take k:=by rw[Mb,FC (by lia)]
    rw[this]at hz;exact Dm hz
   have aG:hP (mkv e n t z M l o I x G m) N1 k:=al k (an k λj r c A=>aw c A eq) λp q L=>(nQ v J L).2.2;refine{_,R++aj++[(a,g,E)],0,T,F3.trans F4,by rw[Gk,Gk,GQ];lia,λj r a' b' r' c ad ae=>?_,λB hm=>?_,λb=>?_}
   .rcases Dh j i with b|b
    .exact w9 _ _ (aE _ _ (ac j r a' b' r' b ad ae))
    .have:j=i:=by lia
     subst this;rw[eq]at ad;cases ad;rw[J]at ae;cases ae;rw[rV];rfl
   .have W:=hm i k (by lia) eq;exact A4 (al B (an B λj r c A=>hm j r (by lia) A) (aF B W)) (.link (Gc (i:=k) (by rw[DR W];exact J)))
   .by_cases W:N=a/\O=g
    .obtain⟨rfl,rfl⟩:=W;exact⟨E,Sy⟩
    .unfold putN at b;rw[Gs W]at b;have Y:=aG _ _ b;ac_nf;have(st,p,q',j,U,L,c,aM):=Z.only k af;have(r,A,hb):=ro v U L;intros;rw[c]at A;cases A;have:=hb k Y;lia
 .rintro ak H3 ⟨x5,R,d,rfl,S,F3,aA,ac,an,az⟩;rw[Gv]at aA ac;have aX:⇑h<=64:=by have:⇑h<=⇑(EM x.zt.length):=Xw aq λk hk=>Se.mpr (Z.lt k hk);rw[E1]at this;lia
  have(am,o3):=S.ob;have go:Go (mkv e n t z M l o I x G m) d N O:=by refine{v,oS,tS,he,by show ⇑x.S<=1000;lia,λst U u Q ab=>?_};have(r,A,_):=ro v U ab;have(j,c):=Dj.mp (Z.top st U u Q ab r A);exact ax ac (Gg.mp c).1 c A
  have L:∀p∈x.S,p<⇑G:=λp hp=>by rw[<-ao];exact FO.lt p hp
  refine{0,e,am,0,o3,O7 _,00,mkv e n t z M l o I x G m,R,d,N,O,1,S,L N oS,L O tS,L,.inr ⟨Xb,go⟩,by rw[GX rfl];lia,λk aj N4 H4 T F4 a7 aE ap al au _ av=>?_};have(Y,o4):=T.ob;have(vs,l1,l2):=T.li;refine{0,e,D,Y,30,o4,ah.cl,ah.lines,r9 _,q ↑z (R++aj) H4 T.sam {z,vs,1,l1,(by rintro⟨a3,aa⟩;have:=T.L0;dsimp only[mkv]at this;rw[this]at aa;cases aa),(Qr l2 λ_ _ b=>b.ex λaQ W _ J H=>J (.inr H)),(by rw[Gk];have ap:⇑aj<=2*⇑x.S+1:=ap;lia)} T.good ?_};cases hN:d N O with
  |none=>exact au hN
  |some J=>rw[av (by rw[hN];exactλH=>nomatch H),DU];exact az (by rw[hN];rfl)
noncomputable def tfs(ts:List Th):List Fm:=ts.map (fm ts)
def tg(ts:List Th)(p:Nat):Th:=ts.getD p (.mk Le [])
theorem Jl(h:ts[p]?/t):tg ts p=t:=by unfold tg;rw[DL,h];rfl
theorem Ow(h:t∈ts):tg ts (ts.idxOf t)=t:=Jl (Oa h)
theorem Wr(h:p<ts.length):ts[p]?/tg ts p:=by rw[Gf h,Jl (Gf h)]
theorem Vg(h:ts[p]?/t):Yt (tfs ts) p=t.word/\Zx (tfs ts) p=t.parts.map λq=>ts.idxOf q:=by unfold Yt Zx tfs;rw[DL,Tq,h];exact⟨Xb,Xb⟩
theorem Uc(a:List Th):⇑(tfs a)=⇑a:=by simp[tfs]
structure la(fs:List Fm)(x:Nn)(sm:List (Nat×Nat)):Prop where
 ins:∀p q,(p,q)∈sm->p∈x.S/\q∈x.S
 eq:∀p q,(p,q)∈sm->x.zg p=x.zg q
 snd:∀E,Ec (Yt fs) (Zx fs) x.S E->(∀p q,(p,q)∈sm->E p q)->∀p∈x.S,∀q∈x.S,x.zg p=x.zg q->E p q
noncomputable def mh(a:List En):List (Nat×Nat):=a.filterMap λ(e:En)=>if e.1=("same":TM)then Ga e.2 else Gq
theorem U4:(p,q)∈mh ens↔sme p q∈ens:=by
 unfold mh;rw[FP];constructor
 .rintro⟨⟨k,a,b⟩,h,e⟩;split at e
  .rename_i c
   have c:k=("same":TM):=c;cases e;subst c;exact h
  .cases e
 .exactλh=>{_,h,GX Xb}
theorem zR(U:iH fs x ens ⇑ens):la fs x (mh ens):=by refine{λp q h=>U.ins _ (U4.mp h),λp q h=>?_,λE X h=>U.snd E X λj p q _ a=>h p q (U4.mpr (Gc a))};have(j,a):=Dj.mp (U4.mp h);exact U.eq j p q (Gg.mp a).1 a
theorem VR{d:Nn}{c:List (Nat×Nat)}{r:Option Ib}(Q:la fs x c)(M:iq fs x d a b r [])(f:a∈x.S)(g:b∈x.S):la fs d (c++[(a,b)]):=by
 have e:=M.S;refine{λp q h=>?_,λp q h=>?_,λE X h=>?_}
 .rw[e];rcases Gh.mp h with h|h
  .exact Q.ins p q h
  .simp at h;rw[h.1,h.2];exact⟨f,g⟩
 .rcases Gh.mp h with h|h
  .obtain⟨i,j⟩:=Q.ins p q h;exact M.mono p i q j (Q.eq p q h)
  .simp at h;rw[h.1,h.2];exact M.eq.nil
 .rw[e]at X;have i:=Q.snd E X λp q j=>h p q (Gu _ j);exact(M.snd E X {i,λu v s m=>by simp at m;rw[m.1,m.2.1];exact h a b ⋯}).1
theorem la.cg(nd:ts.Nodup)(n:Ux ts){y:List (Nat×Nat)}(I:Wv (Yt (tfs ts)) (Zx (tfs ts)) x [])(C:iV (tfs ts) x.S)(Q:la (tfs ts) x y)
  (G:∀a b,(Gi,a,b)∈tl->∃p q,(p,q)∈y/\ts[p]?/a/\ts[q]?/b)(H:∀p q,(p,q)∈y->(Gi,tg ts p,tg ts q)∈tl)(d:p∈x.S)(g:q∈x.S):x.zg p=x.zg q↔Cg tl (tg ts p) (tg ts q):=by
 have J:∀p∈x.S,p<⇑ts:=λp d=>by have:=C.lt p d;rwa[Uc]at this
 have f:∀p∈x.S,ts[p]?/tg ts p:=λp d=>Wr (J p d);have j:∀p∈x.S,tg ts p∈ts:=λp d=>Gc (f p d);have m:∀p∈x.S,ts.idxOf (tg ts p)=p:=λp d=>O6 nd (f p d);constructor
 .refineλh=>Q.snd (λp q=>Cg tl (tg ts p) (tg ts q)) {λ_=>.refl _,λ_ _ h=>.symm h,λ_ _ _ h k=>.trans h k,λp d q g hw ht=>?_} (λp q h=>.told (H p q h)) p d q g h;have(A,l):=Vg (f p d);have(B,z):=Vg (f q g);rw[A,B]at hw;rw[l,z]at ht;have w:=j p d;have D:=j q g;generalize tg ts p=a at*;generalize tg ts q=b at*;cases a with
  |mk u F=>
   cases b with
   |mk v M=>simp only[Th.word,Th.parts]at hw ht;subst hw;have o:=Wa n w;have r:=Wa n D;simp only[Th.parts]at o r;have(e,ht):=ht;rw[Gv,Gv]at e;refine .cong (i0.of e λi s t hs c=>?_);have:=ht i (ts.idxOf s) (ts.idxOf t) (by rw[Tq,hs];rfl) (by rw[Tq,c];rfl);dsimp only at this;rwa[Ow (o s (Gc hs)),Ow (r t (Gc c))]at this
 .intro c;have T:iX tl (x.S.map (tg ts)) (λt=>((x.zg (ts.idxOf t):Nat):Int)):=by
   refine{λw F h q g=>?_,λa b h=>?_,λw F M o v e=>?_}
   .obtain⟨p,d,e⟩:=Tx.mp h;have r:=Wa n (j p d) q (by rw[e];exact g);have(_,l):=Vg (f p d);have:ts.idxOf q∈Zx (tfs ts) p:=by rw[l,e];exact Tx.mpr ⟨q,g,Xb⟩
    exact Tx.mpr {_,C.pts p d _ this,Ow r}
   .obtain⟨p,q,E,r,D⟩:=G a b h;have(K,L):=Q.ins p q E;exists Tx.mpr {p,K,Jl r},Tx.mpr {q,L,Jl D};rw[O6 nd r,O6 nd D,Q.eq p q E]
   .obtain⟨p,d,r⟩:=Tx.mp o;have(q,g,D):=Tx.mp v;have(A,l):=Vg (f p d);have(B,z):=Vg (f q g);have:=I.cong d g (by simp only[Zv,Es];rw[A,B,l,z,r,D];exists 41;simp only[Th.parts,Di];have:=congrArg (Fw E2) e;simp only[Di]at this;exact this)
    rw[<-r,<-D,m p d,m q g,this]
  have:=T.complete (Tx.mpr ⟨p,d,Xb⟩) (Tx.mpr ⟨q,g,Xb⟩) c;simp only[m p d,m q g]at this;lia
abbrev Lt:=Th×Th×Lr
def i8(a:List Lt):Th->List Nat->Th->Prop
 |p,[],q=>p=q
 |p,k::b,q=>∃m r,a[k]?/(p,m,r)/\i8 a m b q
def vz(tl:Tl)(e:Option (Th×Th))(c:List Lt)(a b:Th):Lr->Prop
 |.told n=>tl[n]?/(Gi,a,b)
 |.asked=>e/(a,b)
 |.turn k=>∃r,c[k]?/(b,a,r)
 |.chain d=>i8 c a d b
 |.like d=>a.word=b.word/\⇑a.parts=⇑b.parts/\⇑d=⇑a.parts/\∀(j k:Nat)(p q:Th),d[j]?/k->a.parts[j]?/p->b.parts[j]?/q->∃r,c[k]?/(p,q,r)
def l7(tl:Tl)(c:Option (Th×Th))(ls:List Lt):Prop:=∀(i:Nat)a b r,ls[i]?/(a,b,r)->vz tl c (ls.take i) a b r
noncomputable def lth(ts:List Th)(l:Ln):Lt:=(tg ts l.1,tg ts l.2.1,l.2.2)
theorem qH{a:List Ln}{r:Lr}(h:a[k]?/(p,q,r)):(a.map (lth ts))[k]?/(tg ts p,tg ts q,r):=by rw[Tq,h];rfl
theorem YO{a:List Ln}(h:nY a p ks q):i8 (a.map (lth ts)) (tg ts p) ks (tg ts q):=by
 induction ks generalizing p with
 |nil=>cases h;rfl
 |cons k ks d=>have(m,r,b,c):=h;exact{tg ts m,r,qH b,d c}
theorem qJ(m:Ux ts){y:Option (Th×Th)}(g:iR (tfs ts) lks ls)(G:∀l∈ls,l.1<⇑ts/\l.2.1<⇑ts)
  (ht:∀a b n,(a,b,Ga (.told n))∈lks->tl[n]?/(Gi,tg ts a,tg ts b))(C:∀a b,(a,b,Ga .asked)∈lks->y/(tg ts a,tg ts b)):l7 tl y (ls.map (lth ts)):=by
 intro i a b r hi;rw[Tq]at hi;cases e:ls[i]? with
 |none=>rw[e]at hi;cases hi
 |some l=>
  rw[e]at hi;have(p,q,J):=l;cases hi;dsimp only;generalize J=r at*;have ok:=g i p q r e;have(w,x):=G _ (Gc e);rw[<-MA];cases r with
  |told n=>exact ht p q n ok
  |asked=>exact C p q ok
  |turn k=>have(d,h):=ok;exact{d,qH h}
  |chain F=>exact YO ok
  |like F=>have(A,h,o,B):=ok;have(K,f):=Vg (Wr w);have(L,z):=Vg (Wr x);have H:tg ts p∈ts:=Gc (Wr w);have I:tg ts q∈ts:=Gc (Wr x);rw[f,z,Gv,Gv]at h;rw[f,Gv]at o;refine{by rw[<-K,<-L];exact A,h,o,λj k u v D s t=>?_};have E:=B j k (ts.idxOf u) (ts.idxOf v) D (by rw[f,Tq,s];rfl) (by rw[z,Tq,t];rfl);have(d,c):=E;have:=qH (ts:=ts) c;rw[Ow (Wa m H u (Gc s)),Ow (Wa m I v (Gc t))]at this;exact⟨d,this⟩
def oZ(H:Hp)(X:Ge->Prop)(v:V)(l:Lt):Prop:=∃c b d a,v=.ref c/\H c/.tup [b,d,a]/\Z5 H b l.1/\Z5 H d l.2.1/\R0 H X a l.2.2/\l.1.good/\l.2.1.good
inductive Wq(H:Hp)(X:Ge->Prop)(v:V)(ls:List Lt):Prop
 |mk (L:_) (vs:_) (h0:v=↑L) (h1:H L/.lst vs) (h2:¬X L) (h3:Df (oZ H X) vs ls) (h4:⇑ls<=900000):Wq H X v ls
theorem Wq.kp{X:Ge->Prop}{H b:Hp}(a:Q6 H b)(f:∀{c:Ge}{d:List V},H c/.lst d->¬X c->b c/.lst d){v:V}{g:List Lt}(h:Wq H X v g):Wq b X v g:=by have(L,w,i,j,d,k,l):=h;exact{L,w,i,f j d,d,Qr k (by rintro _ _ ⟨c,t,u,s,m,n,o,p,q,r⟩;exact{c,t,u,s,m,a _ _ n,o.Qv a,p.Qv a,q.kp (λe=>a _ _ e) f,r}),l}
theorem Wq.ex{X Y:Ge->Prop}{H:Hp}(b:∀c a,H c/.lst a->¬X c->¬Y c){v:V}{d:List Lt}(h:Wq H X v d):Wq H Y v d:=by have(L,s,e,a,f,g,i):=h;exact{L,s,e,a,b _ _ a f,Qr g (by rintro _ _ ⟨c,q,r,p,j,k,l,m,n,o⟩;exact{c,q,r,p,j,k,l,m,n.ex b,o}),i}
theorem QX{k:List V}(g:Zw H k ts)(e:∀t∈ts,t.good)(h:pI H X k v ls):Wq H X v (ls.map (lth ts))/\∀l∈ls,l.1<⇑ts/\l.2.1<⇑ts:=by
 have(L,d,s,u,y,o,w):=h;have a:=⇑g;have f:∀{d:List V}{ls:List Ln},Df (iI H X k) d ls->Df (oZ H X) d (ls.map (lth ts))/\∀l∈ls,l.1<⇑ts/\l.2.1<⇑ts:=by
  intro d ls h;induction h with
  |nil=>exact{.nil,λl b=>nomatch b}
  |@cons v l d ls x t p=>
   have(c,G,I,F,B,C,q,r,D):=x;have i:l.1<⇑ts:=by rw[<-a];exact(Gg.mp q).1
   have j:l.2.1<⇑ts:=by rw[<-a];exact(Gg.mp r).1
   have(J,m,z):=g.at (Wr i);have(K,n,A):=g.at (Wr j);rw[q]at m;rw[r]at n;cases m;cases n;refine{.cons {c,G,I,F,B,C,z,A,D,e _ (Gc (Wr i)),e _ (Gc (Wr j))} p.1,λE b=>?_};rcases Ti.mp b with rfl|b
   .exact⟨i,j⟩
   .exact p.2 E b
 exact{{L,d,s,u,y,(f o).1,by rw[Gv];exact w},(f o).2}
structure oE(tl:Tl)(S:List Th)(rs:List Row):Prop where
 ex:∃L:Th->Nat,(∀s∈S,∀t∈S,L s=L t↔Cg tl s t)/\(∀t∈S,(t.word,t.parts.map L,L t)∈rs)/\∀r∈rs,∃t∈S,r=(t.word,t.parts.map L,L t)
 cl:∀t∈S,∀p∈t.parts,p∈S
 nd:(rs.map λr=>(r.1,r.2.1)).Nodup
 good:∀t∈S,t.good
 len:⇑rs<=1000
theorem Qq2[DecidableEq α]{l S:List α}(nd:l.Nodup)(h:∀p∈l,p∈S):⇑l<=⇑S:=by
 induction l generalizing S with
 |nil=>simp
 |cons a r c=>rw[Du]at nd;have:=c (S:=S.erase a) nd.2 λp b=>(Fu (show p≠a fromλz=>nd.1 (by rw[<-z];exact b))).mpr (h p (Gr _ b));have e:=LM (h a Tc);have d:0<⇑S:=L9 (h a Tc);simp only[TQ];ext
theorem zM(g:∀t∈ts,t.good)(nd:ts.Nodup)(n:Ux ts){m:List Row}(l:iV (tfs ts) x.S)(a:⇑x.S<=1000)(W:tK (tfs ts) x m)(h:∀p∈x.S,∀q∈x.S,x.zg p=x.zg q↔Cg tl (tg ts p) (tg ts q)):oE tl (x.S.map (tg ts)) m:=by
 have u:∀p∈x.S,p<⇑ts:=λp a=>by have:=l.lt p a;rwa[Uc]at this
 have b:∀p∈x.S,ts[p]?/tg ts p:=λp a=>Wr (u p a);have d:∀p∈x.S,tg ts p∈ts:=λp a=>Gc (b p a);have j:∀p∈x.S,ts.idxOf (tg ts p)=p:=λp a=>O6 nd (b p a);have(N,n1,n2,n3):=W.ex;have f:∀p∈x.S,Vu (tfs ts) x N p=((tg ts p).word,(tg ts p).parts.map (λt=>N (x.zg (ts.idxOf t))),N (x.zg (ts.idxOf (tg ts p)))):=λp a=>by have(e,k):=Vg (b p a);unfold Vu;rw[e,k,Di,j p a];rfl
 exists {λt=>N (x.zg (ts.idxOf t)),λs hs t ht=>?_,λt ht=>?_,λr i=>?_},λt ht q c=>?_,W.nd,λt ht=>?_
 .obtain⟨p,a,rfl⟩:=Tx.mp hs;have(q,c,rfl):=Tx.mp ht;dsimp only;rw[j p a,j q c,<-h p a q c];exact{n1 p a q c,λe=>by rw[e]}
 .obtain⟨p,a,rfl⟩:=Tx.mp ht;rw[<-f p a];exact n2 p a
 .obtain⟨p,a,rfl⟩:=n3 r i;exact{_,Tx.mpr ⟨p,a,Xb⟩,f p a}
 .obtain⟨p,a,rfl⟩:=Tx.mp ht;have e:=Wa n (d p a) q c;have(_,k):=Vg (b p a);have:ts.idxOf q∈Zx (tfs ts) p:=by rw[k];exact Tx.mpr ⟨q,c,Xb⟩
  exact Tx.mpr {_,l.pts p a _ this,Ow e}
 .obtain⟨p,a,rfl⟩:=Tx.mp ht;exact g _ (d p a)
 .have e:=Qq2 W.nd (S:=(x.S.map (Vu (tfs ts) x N)).map λr=>(r.1,r.2.1)) λz o=>by have(r,i,rfl):=Tx.mp o;have(p,a,rfl):=n3 r i;exact Tx.mpr {_,Tx.mpr ⟨p,a,Xb⟩,1}
  rw[Gv,Gv,Gv]at e;ext
def Vj(p t e:Ge):List (TM×V):=[("places",↑p),("told",↑t),("entries",↑e)]
theorem J9(p t e:Ge):(Vj p t e).lookup ("places":TM)/↑p:=by rfl
theorem oz(p t e:Ge):(Vj p t e).lookup ("told":TM)/↑t:=by rfl
theorem Jg(p t e:Ge):(Vj p t e).lookup ("entries":TM)/↑e:=by rfl
theorem zb(p t e:Ge):(Vj p t e).lookup ("answer":TM)=Gq:=by rfl
theorem QO(p t e:Ge):(Vj p t e).lookup ("go_back":TM)=Gq:=by rfl
theorem WM(p t e:Ge):(Vj p t e).lookup ("tell":TM)=Gq:=by rfl
theorem PM(p t e:Ge):(Vj p t e).lookup ("ask":TM)=Gq:=by rfl
theorem Ry(p t e:Ge):(Vj p t e).lookup ("lines_for":TM)=Gq:=by rfl
theorem YU(a f d:Ge):(Rr a f d).lookup ("things":TM)/↑a:=by rfl
theorem xu(a f d:Ge):(Rr a f d).lookup ("forms":TM)/↑f:=by rfl
theorem zh(a f d:Ge):(Rr a f d).lookup ("place_of":TM)=Gq:=by rfl
theorem WG(p t e a:Ge):Y0 "told" ↑a (Vj p t e)=Vj p a e:=by rfl
theorem tJ(p t e a:Ge):Y0 "entries" ↑a (Vj p t e)=Vj p t a:=by rfl
def iN(ts:List Th):List En->Tl->Prop:=Df λ(e:En)(p:Bool×Th×Th)=>e.1=tw p.1/\ts[e.2.1]?/p.2.1/\ts[e.2.2]?/p.2.2
structure Ul(P:Gn)(w:Tf)(CP CB:Ge)(H:Hp)(bk p a f d t e:Ge)(ts:List Th)(tl:Tl):Prop where
 ob:∃dx,H bk/.ins CB dx (Vj p t e)
 pl:Pl P w CP H p a f d ts
 to:∃vs,H t/.lst vs/\Uk H vs tl
 en:∃es ens,H e/.lst es/\Df (iz H) es ens/\iN ts ens tl
 ta:t≠a
 tf:t≠f
 te:t≠e
 ea:e≠a
 ef:e≠f
structure i4(U ts:List Th)(tl:Tl):Prop where
 sub:∀t∈ts,t∈U
 cl:Ux U
 good:∀t∈U,t.good
 len:⇑U<=60
 tl:⇑tl<=900
theorem XT{l:List Th}(nd:l.Nodup)(h:∀p∈l,p∈S):⇑l<=⇑S:=by
 induction l generalizing S with
 |nil=>simp
 |cons a r c=>rw[Du]at nd;have:=c (S:=S.erase a) nd.2 λp b=>(Fu (show p≠a fromλz=>nd.1 (by rw[<-z];exact b))).mpr (h p (Gr _ b));have e:=LM (h a Tc);have d:0<⇑S:=L9 (h a Tc);simp only[TQ];ext
theorem i4.le(h:i4 U ts tl)(nd:ts.Nodup):⇑ts<=60:=Dl (XT nd h.sub) h.len
def rZ(tl b:Tl)(n:Nat)(a c:Th):Prop:=tl[n]?=Ga (Gx,a,c)/\Cg b a c/\∀(j:Nat)d e,j<n->tl[j]?/(Gx,d,e)->¬Cg b d e
def Vs(H:Hp)(X:Ge->Prop)(tl:Tl):Dd->V->Prop
 |.back i,v=>v=(Uo tl (.back i)).2
 |.tell b s t,v=>(¬Xq (tl++[(b,s,t)])/\v=.int ((⇑tl:Int)+1))\/
   ∃d n a c e ls,v=.ref d/\H d/.tup [.str "clash",jv n,e]/\rZ (tl++[(b,s,t)]) (tl++[(b,s,t)]) n a c/\Wq H X e ls/\l7 (tl++[(b,s,t)]) Gq ls/\∃r,ls.getLast?/(a,c,r)
 |.ask s t,v=>(Cg tl s t/\∃d e ls,v=.ref d/\H d/.tup [.str "equal",e]/\Wq H X e ls/\l7 tl Gq ls/\∃r,ls.getLast?/(s,t,r))\/
   (¬Cg tl s t/\∃d n a c e ls,v=.ref d/\H d/.tup [.str "unlike",jv n,e]/\rZ tl (tl++[(Gi,s,t)]) n a c/\Wq H X e ls/\l7 tl (Ga (s,t)) ls/\∃r,ls.getLast?/(a,c,r))\/
   (¬Cg tl s t/\(∀a c,(Gx,a,c)∈tl->¬Cg (tl++[(Gi,s,t)]) a c)/\∃d h j f g S,v=.ref d/\H d/.tup [.str "open",h,j]/\U1 H X h f/\U1 H X j g/\oE tl S f/\oE (tl++[(Gi,s,t)]) S g/\s∈S/\t∈S/\∀b a c,(b,a,c)∈tl->a∈S/\c∈S)
theorem Vs.kp{X:Ge->Prop}{H u:Hp}(f:Q6 H u)(p:∀{c:Ge}{b:List V},H c/.lst b->¬X c->u c/.lst b){z:Tl}:∀{d:Dd}{v:V},Vs H X z d v->Vs u X z d v
 |.back i,v,h=>h
 |.tell b s t,v,h=>by
  rcases h with h|⟨g,n,a,c,r,q,j,k,l,m,o⟩
  .exact .inl h
  .exact .inr {g,n,a,c,r,q,j,f _ _ k,l,m.kp f p,o}
 |.ask s t,v,h=>by
  rcases h with⟨b,g,r,q,j,k,l,m⟩|⟨b,g,n,a,c,r,q,j,k,l,m,o⟩|⟨b,w,g,A,B,x,y,S,j,k,l,m,o⟩
  .exact .inl {b,g,r,q,j,f _ _ k,l.kp f p,m}
  .exact .inr (.inl {b,g,n,a,c,r,q,j,f _ _ k,l,m.kp f p,o})
  .exact .inr (.inr {b,w,g,A,B,x,y,S,j,f _ _ k,l.kp (λe=>f _ _ e) p,m.kp (λe=>f _ _ e) p,o})
theorem Vs.ex{X Y:Ge->Prop}{H:Hp}(m:∀c b,H c/.lst b->¬X c->¬Y c){w:Tl}:∀{d:Dd}{v:V},Vs H X w d v->Vs H Y w d v
 |.back i,v,h=>h
 |.tell b s t,v,h=>by
  rcases h with h|⟨e,n,a,c,p,o,f,g,j,k,l⟩
  .exact .inl h
  .exact .inr {e,n,a,c,p,o,f,g,j,k.ex m,l}
 |.ask s t,v,h=>by
  rcases h with⟨b,e,p,o,f,g,j,k⟩|⟨b,e,n,a,c,p,o,f,g,j,k,l⟩|⟨b,q,e,x,y,r,u,S,f,g,j,k,l⟩
  .exact .inl {b,e,p,o,f,g,j.ex m,k}
  .exact .inr (.inl {b,e,n,a,c,p,o,f,g,j,k.ex m,l})
  .exact .inr (.inr {b,q,e,x,y,r,u,S,f,g,j.ex m,k.ex m,l})
theorem Qqr(h:t.good):t.parts.length<=100:=by
 cases t with
 |mk u a=>have:=Zl a;have:=h.2.2;simp only[Th.size]at this;simp only[Th.parts];lia
theorem Qly{p:Th}(h:p∈t.parts):p.depth<t.depth:=by
 cases t with
 |mk u a=>simp only[Th.parts]at h;have:=Wl h;simp only[Th.depth];ext
theorem PK(h:t.ok=Gi):DM t.word=Gi:=by
 cases t with
 |mk u a=>simp only[Th.ok,T5]at h;exact h.1
theorem xJ(h:¬p<ts.length):Yt (tfs ts) p=Le/\Zx (tfs ts) p=[]:=by unfold Yt Zx tfs;rw[DL,De (by rw[Gv];ext)];exact⟨Xb,Xb⟩
theorem yf(nd:ts.Nodup)(d:Ux ts)(e:∀t∈ts,t.good)(a:⇑ts<=60):oO (tfs ts) (λp=>(tg ts p).depth)/\∀p,(tg ts p).depth<59:=by
 have a:∀{p:Nat},p<⇑ts->tg ts p∈ts:=λh=>Gc (Wr h);refine{{λp=>?_,λp=>?_,λp b q c=>?_,λp q b c f g=>?_,by rw[Uc];ext},λp=>?_}
 .by_cases h:p<⇑ts
  .rw[(Vg (Wr h)).1];exact PK (e _ (a h)).1
  .rw[(xJ h).1];decide+kernel
 .by_cases h:p<⇑ts
  .rw[(Vg (Wr h)).2,Gv];exact Qqr (e _ (a h))
  .rw[(xJ h).2];exact Ts _
 .rw[Uc]at b⊢;rw[(Vg (Wr b)).2]at c;have(s,hs,rfl):=Tx.mp c;have:=Wa d (a b) s hs;exists E9 this;rw[Ow this];exact Qly hs
 .rw[Uc]at b c;have(k,i):=Vg (Wr b);have(l,j):=Vg (Wr c);rw[k,l]at f;rw[i,j]at g;have:=rR (ts:=ts) (Wa d (a b)) (Wa d (a c)) (RE f g);rw[<-O6 nd (Wr b),<-O6 nd (Wr c),this]
 .by_cases h:p<⇑ts
  .have:=(e _ (a h)).2.1;ext
  .have:tg ts p=.mk Le []:=by unfold tg;rw[DL,De ∅];rfl
   rw[this];simp[Th.depth,Vi]
theorem p9{b:Bool}(h:("same":TM)=tw b):b=Gi:=by
 cases b with
 |true=>rfl
 |false=>exact absurd h (by decide+kernel)
theorem Ql9{b:Bool}(h:("unlike":TM)=tw b):b=Gx:=by
 cases b with
 |true=>exact absurd h (by decide+kernel)
 |false=>rfl
theorem nJ(R:iN ts ens tl){k:TM}(h:ens[j]?/(k,p,q)):∃b,k=tw b/\tl[j]?/(b,tg ts p,tg ts q):=by have((b,s,t),a,c,d,e):=Qy R h;exact{b,c,by rw[a,Jl d,Jl e]}
theorem n8(R:iN ts ens tl){b:Bool}{s:Th}(h:tl[j]?/(b,s,t)):∃p q,ens[j]?/(tw b,p,q)/\ts[p]?/s/\ts[q]?/t:=by
 have g:=GJ R;have c:j<⇑ens:=by rw[g];exact(Gg.mp h).1
 have((i,k,l),a,d,e,f):=Qy R (Gf c);rw[h]at a;cases a;refine{ens[j].2.1,ens[j].2.2,?_,e,f};rw[Gf c,<-d]
theorem wy{c:List En}(R:iN ts ens tl)(g:∀p q,sme p q∈c↔sme p q∈ens):
  (∀a b,(Gi,a,b)∈tl->∃p q,(p,q)∈mh c/\ts[p]?/a/\ts[q]?/b)/\∀p q,(p,q)∈mh c->(Gi,tg ts p,tg ts q)∈tl:=by
 constructor
 .intro a b h;have(j,f):=Dj.mp h;have(p,q,e,d,i):=n8 R f;exact{p,q,U4.mpr ((g p q).mpr (Gc e)),d,i}
 .intro p q h;have(j,f):=Dj.mp ((g p q).mp (U4.mp h));have(b,e,d):=nJ R f;rw[p9 e]at d;exact Gc d
theorem Aj{b:Tl}(R:iN ts ens tl)(k:∀e∈ens,e.2.1∈x.S/\e.2.2∈x.S)(f:∀p∈x.S,∀q∈x.S,x.zg p=x.zg q↔Cg b (tg ts p) (tg ts q))(h:pk x ens Gq):∀a c,(Gx,a,c)∈tl->¬Cg b a c:=λa c n l=>by have(j,m):=Dj.mp n;have(p,q,d,g,i):=n8 R m;have(o,r):=k _ (Gc d);refine h j p q d ((f p o q r).mpr ?_);rw[Jl g,Jl i];exact l
theorem wC{a:Tl}{n:Nat}(R:iN ts ens tl)(l:∀e∈ens,e.2.1∈x.S/\e.2.2∈x.S)(i:∀p∈x.S,∀q∈x.S,x.zg p=x.zg q↔Cg a (tg ts p) (tg ts q))(h:pk x ens (Ga n)):
  ∃p q,ens[n]?/unl p q/\x.zg p=x.zg q/\p∈x.S/\q∈x.S/\rZ tl a n (tg ts p) (tg ts q):=by
 have((p,q,c,k),u):=h;have(r,t):=l _ (Gc c);have(b,v,ht):=nJ R c;rw[Ql9 v]at ht;refine{p,q,c,k,r,t,ht,(i p r q t).mp k,λj B C y d w=>?_};have(o,s,m,z,A):=n8 R d;have(f,g):=l _ (Gc m);refine u j o s y m ((i o f s g).mpr ?_);rw[Jl z,Jl A];exact w
structure iJ(K:Gd)(mg:TM->Option Gj)(C:Ge):Prop where
 cl:hZ K C
 places:Xg K C "places"
 told:Xg K C "told"
 entries:Xg K C "entries"
 mgC:mg "Book"/↑C
 no:∃u,mg "NO_MOMENT"/u/\zu (.str "no moment") u
structure yv(fs:List Fm)(x:Nn):Prop where
 inv:Wv (Yt fs) (Zx fs) x []
 fok:iV fs x.S
 len:⇑x.S<=60
 lk:⇑x.zt<64
 few:∀p,⇑(Zx fs p)<=100
inductive vY(P:Gn)(w:Tf)(C:Ge)(CP:Ge)(CB:Ge)(vs:List V)(H:Hp)(Q:VK):Prop
 |mk (bk:Ge) (p:Ge) (a:Ge) (f:Ge) (d:Ge) (t:Ge) (e:Ge) (ts:List Th) (tl:Tl) (n:Ge) (A:Na) (tb:Nat) (x:Nn) (ev:V) (k:TM) (p1:Nat) (p2:Nat) (h0:vs=[↑bk,↑n,ev]) (h1:Ul P w CP CB H bk p a f d t e ts tl) (h2:iz H ev (k,p1,p2)) (h3:Ym P w C H n A (tfs ts) tb x) (h4:yv (tfs ts) x) (h5:p1∈x.S) (h6:p2∈x.S) (h7:x.zg p1=x.zg p2) (h8:(∀t∈ts,t.good)) (h9:∀(v:V)(ls:List Ln)(H':Hp),Za H H'->Wq H' (λb=>∃o,H b/o) v (ls.map (lth ts))->(∀l∈ls,l.1<⇑ts/\l.2.1<⇑ts)->iR (tfs ts) x.zt ls->(∃r,ls.getLast?/(p1,p2,r))->Q v H'):vY P w C CP CB vs H Q
def On(P:Gn)(w:Tf)(C b a:Ge):Sp:=λc H Q _=>vY P w C b a c H Q
theorem Ul.same{i c:Ge}{H j:Hp}{bk p a f d t e:Ge}{l:List Th}{k:Tl}(B:Ul P w i c H bk p a f d t e l k)(g:Za H j):Ul P w i c j bk p a f d t e l k:=by have(m,s):=B.ob;have(x,u,v):=B.to;have(r,b,n,o,q):=B.en;exact{{m,g _ _ s},B.pl.same g,{x,g _ _ u,v.Qv (Q6.of g)},{r,b,g _ _ n,Qr o λ_ _ h=>h.Qv (Q6.of g),q},B.ta,B.tf,B.te,B.ea,B.ef}
theorem QL:Q7 ["self","net","entry"] ["self","net","entry"] (Qo pj):=by eq_refl
theorem Qit(F:Wd K "lines_for" "Book.lines_for" pj f0 fd)(f:iJ K mg CB)(TP:iK K mg CP)(z:Q3 P w K mg base Ya 6 fB fdB ["things","net","one","other"] (uG P w C))(S:KI K fB)(E:zk K fdB ["things","net","one","other"] [])(W:MG mg "lines_between" fB):
  Q3 P w K mg base Ya 7 f0 fd ["self","net","entry"] (On P w C CP CB):=by
 refine F.ok QL (λvs A D y e=>?_) (λab b ac s A vs D y R e=>?_)
 .obtain⟨h,p,g,J,d,t,I,u,tl,n,b,r,x,ev,k,m,o,rfl,_⟩:=e;rfl
 have(h,p,g,J,d,t,I,u,tl,n,b,r,x,ev,k,m,o,rfl,c,(i,rfl,l),X,a,pS,qS,M,L,q):=e;exists _,Qg (Qt (Zb z R rfl W S E .nil Q5 (Qa (Qx (Qx {0}) rfl) (Qa {1} (Qa (Qn Qs {2} Qi) (Qa (Qn Qs {2} Qi) Qd))))));ac_nf;have(H,Y):=c.ob;have(G,Z):=c.pl.ob;have(us,u1,v):=c.pl.th;intros;refine{0,h,CB,H,30,Y,f.cl,f.places,J9 _ _ _,p,CP,G,30,Z,TP.cl,TP.nT,YU _ _ _,00,i,201,Qj l,Re _ _ _,0,i,201,Qj l,ji _ _ _ _,g,n,b,tfs u,r,x,us,m,o,1,X,a.inv,a.fok,pS,qS,M,a.len,a.lk,a.few,u1,by rw[Uc,⇑v],λaa V B j O N Q=>?_};have(T,U):=QX (v.same j) L O;exact q aa V B j T U N Q
theorem ig.same{P:Gn}{w:Tf}{C:Ge}{b H a:Hp}{n:Ge}{A:Na}{c:List Fm}{d:Nat}{x:Nn}(N:ig P w C b H n A c d x)(g:Za H a):ig P w C b a n A c d x:={N.at_.same g,N.inv,N.fok,N.new,N.nn,N.sam.trans g,N.len,N.tt,N.cl,N.tbb}
theorem ig.lng(N:ig P w C H0 H n A fs tb x)(a:∀p,⇑(Zx fs p)<=100):yv fs x:={N.inv,N.fok,N.len,by have:=N.cl;have:=N.len;lia,a}
theorem ig.room(N:ig P w C H0 H n A fs tb x):⇑x.S<=10000/\Ja x<=10000/\cls x+⇑x.zt<=10000/\tb+cls x*Ja x<=900000:=by
 have b:=N.len;have a:=N.tt;have c:=N.cl;have d:=N.tbb;have e:⇑x.zt*Ja x+cls x*Ja x<=60*6000:=by rw[<-SS];exact BF (by lia) a
 exact{by lia,by lia,by lia,by lia}
inductive xh(P:Gn)(w:Tf)(CP:Ge)(CB:Ge)(vs:List V)(H:Hp)(Q:VK):Prop
 |mk (bk:Ge) (p:Ge) (a:Ge) (f:Ge) (d:Ge) (t:Ge) (e:Ge) (ts:List Th) (tl:Tl) (U:List Th) (ev:V) (p1:Nat) (p2:Nat) (h0:vs=[↑bk,ev]) (h1:Ul P w CP CB H bk p a f d t e ts tl) (h2:i4 U ts tl) (h3:iz H ev (("ask":TM),p1,p2)) (h4:p1<⇑ts) (h5:p2<⇑ts) (h6:∀(v:V)(H':Hp),Za H H'->Vs H' (λb=>∃o,H b/o) tl (.ask (tg ts p1) (tg ts p2)) v->Q v H'):xh P w CP CB vs H Q
def Al(P:Gn)(w:Tf)(b a:Ge):Sp:=λc H Q _=>xh P w b a c H Q
theorem vD(R:iN ts ens tl):∀e∈ens,e.2.1<⇑ts/\e.2.2<⇑ts:=λe c=>by have(j,d):=Dj.mp c;have(y,_,_,a,b):=Qy R d;exact{(Gg.mp a).1,(Gg.mp b).1}
theorem rm(h:∃r,ls.getLast?/(p,q,r)):∃r,(ls.map (lth ts)).getLast?/(tg ts p,tg ts q,r):=by have(r,h):=h;exact{r,by rw[List.getLast?_map,h];rfl}
theorem sR:Q7 ["self","entry","net","apart","number"] ["self","entry"] (Qo kr):=by eq_refl
theorem Q20{fE fM:Ge}{aF aG aE:Dn}(F:Wd K "ask" "Book.ask" kr f0 fd)(E:iJ K mg CB)(TP:iK K mg CP)(TN:Jj K mg C)
  (GN:Q3 P w K mg base Ya 61 fN fdN ["forms","told"] (qm P w C))(kN:KI K fN)(bN:zk K fdN ["forms","told"] [])(mN:MG mg "net_of" fN)
  (mE:Yp K C "equal" fE)(GE:Q3 P w K mg base Ya 1 fE aF ["self","one","other"] (oj P w C))(bE:zk K aF ["self","one","other"] [])(mR:Yp K C "rows" fR)(GR:Q3 P w K mg base Ya 2 fR fdR ["self"] (xj P w C))(bR:zk K fdR ["self"] [])
  (mM:Yp K C "merge" fM)(GM:Q3 P w K mg base Ya 4 fM aG ["self","one","other","reason"] (qM P w C))(bM:zk K aG ["self","one","other","reason"] [])
  (GC:Q3 P w K mg base Ya 2 fC aE ["net","entries"] (qF P w C))(kC:KI K fC)(bC:zk K aE ["net","entries"] [])(mC:MG mg "least_clash" fC)
  (mL:Yp K CB "lines_for" fL)(GL:Q3 P w K mg base Ya 7 fL fdL ["self","net","entry"] (On P w C CP CB))(bL:zk K fdL ["self","net","entry"] []):
  Q3 P w K mg base Ya 62 f0 fd ["self","entry"] (Al P w CP CB):=by
 refine F.ok sR (λQ ab A z a=>?_) (λS U T s ab Q A z hr a=>?_)
 .obtain⟨M,p,b,ah,d,t,k,g,X,Y,ev,e,f,rfl,_⟩:=a;rfl
 have(M,p,b,ah,d,t,k,g,X,Y,ev,e,f,rfl,W,v,(l,rfl,ac),aH,aI,q):=a;have aZ:Yj 1 _:=hr.mono (by lia);have aq:Yj 2 _:=hr.mono (by lia);have a1:Yj 4 _:=hr.mono (by lia);have aJ:Yj 7 _:=hr.mono (by lia);have nd:=sR.nd;show∃t,Xu ?my _ t/\_;let a3:Vq ?my kr 5:={_,Qc (Zc (Qp kX {4} U9 (Qu _)) (Qg (Qt (Zf (Qa Zi (Qa {4} (Qa (Zm {0} E.cl mL GL aJ bL .nil Q5 (Qa {2} (Qa (Qn Ze (Qx {0}) {4}) Qd))) Qd)))))) Qw) (Qg (Qt (Zf (Qa Zi (Qa {3} (Qa (AW {2} TN.cl mR GR aq bR .nil Q5) Qd))))))}
 let a4:Vq ?my kr 3:={_,Qc (Zn (Zm {2} TN.cl mM GM a1 bM .nil Q5 (Qa (Qn Qs {1} Qi) (Qa (Qn Qs {1} Qi) (Qa (Zf (Qa Zi Qd)) Qd))))) (Qc (Qz 4 nd (Zb GC aq rfl mC kC bC .nil Q5 (Qa {2} (Qa (Qx {0}) Qd)))) a3.2)}
 let a5:Vq ?my kr 1:={_,Qc (Zc (Zz (Zm {2} TN.cl mE GE aZ bE .nil Q5 (Qa (Qn Qs {1} Qi) (Qa (Qn Qs {1} Qi) Qd)))) (Qg (Qt (Zf (Qa Zi (Qa (Zm {0} E.cl mL GL aJ bL .nil Q5 (Qa {2} (Qa {1} Qd))) Qd))))) Qw) (Qc (Qz 3 nd (AW {2} TN.cl mR GR aq bR .nil Q5)) a4.2)}
 exists _,Qc (Qz 2 nd (Zb GN hr rfl mN kN bN .nil Q5 (Qa (Qx (Qx {0}) rfl) (Qa (Zg X5 (Qx {0}) (Zu (Qa {1} Qd))) Qd)))) a5.2;ac_nf;have(dx,o1):=W.ob;have(dp,o2):=W.pl.ob;have(ws,f1,f2):=W.pl.fo;have(I,H,e1,e2,R):=W.en;have ad:=W.pl.nd;have Z:=W.pl.cl;have aP:=v.le ad;have(TK,a2):=yf ad Z (λt ht=>v.good t (v.sub t ht)) aP;intros;have a6:⇑I=⇑X:=(GJ e2).trans (GJ R);have a7:=v.tl;refine{0,M,CB,dx,30,o1,E.cl,E.places,J9 _ _ _,p,CP,dp,30,o2,TP.cl,TP.nF,xu _ _ _,0,M,CB,dx,30,o1,E.cl,E.entries,Jg _ _ _,0,Wx,λr0 aY=>?_};have s0:=Qf aY (.lst [↑l]);refine{k,r0,I,[↑l],11,s0 _ _ e1,Qb,by rw[TH];simp only[GQ];lia,λr1 a0=>?_};have s1:=s0.trans (Qf a0 (.lst (I++[↑l])));have g1:(zj (zj ab r0 (.lst [↑l])) r1 (.lst (I++[↑l]))) r1/.lst (I++[↑l]):=Qb;generalize zj (zj ab r0 (.lst [↑l])) r1 (.lst (I++[↑l]))=H1 at s1 g1;have ar:=Q6.of s1;have aM:Df (iz H1) (I++[↑l]) (H++[(("ask":TM),e,f)]):=EV (Qr e2 λ_ _ a=>a.Qv ar) {l,1,ar _ _ ac};refine{ah,r1,ws,_,tfs g,30,s1 _ _ f1,Qr f2 λ_ _ a=>a.Qv ar,g1,aM,TK,by rw[Uc];exact aP,a2,λG ao=>?_,by rw[<-GJ aM,Gk,GQ];lia,λn U tb x H2 i _ Y=>?_}
 .rw[Uc];rcases Gh.mp ao with a|a
  .exact vD R G a
  .have:G=(("ask":TM),e,f):=by simpa using a
   rw[this];exact⟨aH,aI⟩
 have L:Za ab H2:=s1.trans i.sam;have B:∀p q,sme p q∈H++[(("ask":TM),e,f)]↔sme p q∈H:=λp q=>by
  rw[Gh];constructor
  .rintro(a|a)
   .exact a
   .rw[GV]at a;exact absurd (show("same":TM)="ask"from congrArg (·.1) a) (by decide+kernel)
  .exact .inl
 have(aN,aO):=wy R B;have EQ:=zR Y;have an:∀p∈x.S,∀q∈x.S,x.zg p=x.zg q↔Cg X (tg g p) (tg g q):=λp hp q hq=>EQ.cg ad Z i.inv i.fok aN aO hp hq;have aQ:∀b c n,(b,c,Ga (.told n))∈x.zt->X[n]?/(Gi,tg g b,tg g c):=λb c n a=>by
  rcases Y.rsn _ a with h|⟨j,p',q',J,m⟩
  .cases h
  .cases J;have hj:n<⇑H:=by
    rcases Dh n ⇑H with a|a
    .exact a
    .rw[TU a]at m;have:n - ⇑H=0:=by
      rcases Dh (n - ⇑H) 1 with z|z
      .lia
      .rw[De (by simpa using z)]at m;cases m
     rw[this]at m;have m:((("ask":TM),e,f):En)=sme b c:=by simpa using m
     exact absurd (show("ask":TM)="same"from congrArg (·.1) m) (by decide+kernel)
   rw[TB hj]at m;have(Q,h3,A):=nJ R m;rw[p9 h3]at A;exact A
 have aL:∀b c,¬(b,c,Ga Ib.asked)∈x.zt:=λb c a=>by
  rcases Y.rsn _ a with h|⟨j,p',q',J,m⟩
  .cases h
  .cases J
 have(N,O):=Y.ins (("ask":TM),e,f) ⋯;have N:e∈x.S:=N;have O:f∈x.S:=O;have aK:∀G∈H,G.2.1∈x.S/\G.2.2∈x.S:=λG ao=>Y.ins G (Gu _ ao);have(dn,on):=i.at_.ob;exists 0,n,dn,0,on,qG _,0,l,201,Qj (L _ _ ac),Re _ _ _,0,l,201,Qj (L _ _ ac),ji _ _ _ _,n,U,_,tb,x,e,f,1,i.at_,N,O,0;by_cases ag:x.zg e=x.zg f
 .rw[Tg ag];refine Yo ?_;have hC:=(an e N f O).mp ag;refine{0,M,dx,0,L _ _ o1,Ry _ _ _,00,M,p,b,ah,d,t,k,g,X,n,U,tb,x,↑l,_,e,f,1,W.same L,{l,1,L _ _ ac},i.at_,i.lng TK.few,N,O,ag,(λt ht=>v.good t (v.sub t ht)),λlv ls H3 g3 hl hb hg ap=>?_};refine{Yy,λA Q=>?_};have z:=Qf Q (.tup [.str "equal",lv]);refine q _ _ ((L.trans g3).trans z) (.inl {hC,A,lv,ls.map (lth g),1,Qb,(hl.ex (by rintro o D _ B ⟨r,ho⟩;exact B {r,L _ _ ho})).kp (Q6.of z) (λk _=>z _ _ k),qJ Z hg hb aQ (λb c a=>absurd a (aL b c)),rm ap})
 .rw[Td ag];refine Q4 ?_;have hC:¬Cg X (tg g e) (tg g f):=λh=>ag ((an e N f O).mpr h);refine{0,n,dn,0,on,zN _,n,U,_,tb,x,1,i.at_,i.fok,i.inv,by have:=i.len;lia,λv1 aW H3 g3 aT W1=>?_};have S3:=L.trans g3;have N3:=i.same g3;refine{0,n,dn,0,g3 _ _ on,sQ _,0,l,201,Qj (S3 _ _ ac),Re _ _ _,0,l,201,Qj (S3 _ _ ac),ji _ _ _ _,Wx,λc4 aS=>?_};have s4:=Qf aS (.tup [.str "asked"]);have N4:=N3.same s4;have(z1,z2,z3,z4):=i.room;refine{n,U,_,tb,x,e,f,↑c4,Ga .asked,1,N4.at_,i.fok,⟨c4,Xb,Qb⟩,by simp,N,O,i.inv,z1,z2,z3,z4,λA H5 Y5 M5 F5=>?_};have Q:=N4.merged Y5 M5 F5;have S5:Za ab H5:=s1.trans Q.sam;have aR:=VR EQ M5 N O;have eS:=M5.S;have ai:∀p∈A.S,∀q∈A.S,A.zg p=A.zg q↔Cg (X++[(Gi,tg g e,tg g f)]) (tg g p) (tg g q):=λp hp q hq=>aR.cg ad Z Q.inv Q.fok (λb c a=>by
   rcases Gh.mp a with a|a
   .obtain⟨u,af,J,m⟩:=aN b c a;exact{u,af,Gu _ J,m}
   .have:(Gi,b,c)=(Gi,tg g e,tg g f):=by simpa using a
    cases this;exact{e,f,by simp,Wr aH,Wr aI}) (λu af a=>by
   rcases Gh.mp a with a|a
   .exact Gu _ (aO u af a)
   .have:(u,af)=(e,f):=by simpa using a
    cases this;simp) hp hq
  have ak:∀G∈H,G.2.1∈A.S/\G.2.2∈A.S:=by rw[eS];exact aK
  refine{00,M,CB,dx,30,S5 _ _ o1,E.cl,E.entries,Jg _ _ _,n,k,U,2,A,I,H,1,Q.at_,S5 _ _ e1,Qr e2 λ_ _ a=>a.Qv (Q6.of S5),ak,λr H6 g6 au=>?_};have z:=S5.trans g6;have S:=Q.same g6;have aX:∀{o:Ge}{D:List V},H3 o/.tup D->H6 o/.tup D:=λ{o D}ec=>g6 _ _ (F5.keep _ _ (s4 _ _ ec) (N4.at_.qW (s4 _ _ ec)));have aV:∀{o:Ge}{D:List V},H3 o/.lst D->¬(∃r,H2 o/r)->H6 o/.lst D:=λ{o D}ec B=>g6 _ _ (F5.keep _ _ (s4 _ _ ec) (λh=>B (by have:=i.at_.own h;rcases this with⟨_,a⟩|⟨_,a⟩|⟨_,a⟩|⟨_,a⟩<;>exact⟨_,a⟩)))
  have aU:=(aT.kp aX aV).ex (Y:=λc=>∃r,ab c/r) (by rintro o D _ B ⟨r,ho⟩;exact B {r,L _ _ ho});exists 4010;rw[og];cases r with
  |some ae=>
   refine Yo ?_;have(p',q',J,m,al,am,aC):=wC R ak ai au;have hm:ae<⇑I:=by rw[GJ e2];exact(Gg.mp J).1
   have(y,hy,aD):=Qy e2 (Gf hm);rw[J]at hy;cases hy;have(cm,aA,aB):=aD;refine{00,M,dx,0,z _ _ o1,Ry _ _ _,00,M,CB,dx,30,z _ _ o1,E.cl,E.entries,Jg _ _ _,0,k,I,301,Qk (z _ _ e1),Zk (Gf hm),M,p,b,ah,d,t,k,g,X,n,U,_,A,2,p',q',1,W.same z,{cm,aA,z _ _ aB},S.at_,S.lng TK.few,al,am,m,(λt ht=>v.good t (v.sub t ht)),λlv ls H7 g7 hl hb hg ap=>?_};refine{Vk,λc8 aj=>?_};have T:=Qf aj (.tup [.str "unlike",jv ae,lv]);refine q _ _ ((z.trans g7).trans T) (.inr (.inl {hC,c8,ae,2,lv,ls.map (lth g),1,Qb,aC,(hl.ex (by rintro o D _ B ⟨r,ho⟩;exact B {r,z _ _ ho})).kp (Q6.of T) (λk _=>T _ _ k),qJ Z hg hb (λb c n a=>?_) (λb c a=>?_),rm ap}))
   .rcases M5.rsn _ a with h|h|h
    .exact aQ b c n h
    .cases h
    .cases h
   .rcases M5.rsn _ a with h|h|h
    .exact absurd h (aL b c)
    .cases h;rfl
    .cases h
  |none=>refine Q4 ?_;have aw:=Aj R ak ai au;have(av,ay):=S.at_.ob;refine{00,n,av,0,ay,zN _,n,U,2,A,1,S.at_,S.fok,S.inv,by have:=S.len;lia,λv2 az H7 g7 ax W2=>?_};refine{Vk,λc8 aj=>?_};have T:=Qf aj (.tup [.str "open",v1,v2]);have aa:=g7.trans T;refine q _ _ (z.trans aa) (.inr (.inr {hC,aw,c8,v1,v2,aW,az,x.S.map (tg g),1,Qb,aU.kp (λk=>aa _ _ k) (λk _=>aa _ _ k),(ax.ex (by rintro o D _ B ⟨r,ho⟩;exact B {r,z _ _ ho})).kp (λk=>T _ _ k) (λk _=>T _ _ k),zM (λt ht=>v.good t (v.sub t ht)) ad Z i.fok (by have:=i.len;lia) W1 an,by rw[<-eS];exact zM (λt ht=>v.good t (v.sub t ht)) ad Z Q.fok (by have:=Q.len;lia) W2 ai,Tx.mpr ⟨e,N,Xb⟩,Tx.mpr ⟨f,O,Xb⟩,λc b o hm=>?_}));have(j,hj):=Dj.mp hm;have(p',q',J,m,h3):=n8 R hj;have(al,am):=aK _ (Gc J);exact{Tx.mpr {p',al,Jl m},Tx.mpr {q',am,Jl h3}}
end
theorem tr(a:List V){i:Int}(b:0<=i)(b:i<=(⇑a:Int)):U2 a Gq (Ga i)=a.take i.toNat:=by
 unfold U2;rw[HT.Ro];have:HT.Va ⇑a ⇑a (Ga i)=i.toNat:=by show(if i<0 then(i+(⇑a:Int)).toNat else min i.toNat ⇑a)=_;rw[Gs (by lia)];lia
 rw[this];simp
theorem w6(a f d p t e:Ge){c g b:Ge}:HO.ins C g (Rr a f d)=HO.ins c b (Vj p t e)->False:=λz=>by injection z with _ _ z;unfold Rr Vj at z;injection z with z _;injection z with z _;exact absurd z (by decide+kernel)
theorem VD(R:iN ts ens tl)(k:Nat):iN ts (ens.take k) (tl.take k):=by
 induction R generalizing k with
 |nil=>simp;exact .nil
 |cons h t a=>
  cases k with
  |zero=>exact .nil
  |succ k=>exact .cons h (a k)
theorem Rg{c:Type}{F:α->c->Prop}{a:List α}{b:List c}(R:Df F a b)(k:Nat):Df F (a.take k) (b.take k):=by
 induction R generalizing k with
 |nil=>simp;exact .nil
 |cons h t d=>
  cases k with
  |zero=>exact .nil
  |succ k=>exact .cons h (d k)
structure zd(bk t:Ge)(H H':Hp):Prop where
 keep:∀b o,H b/o->b≠bk->b≠t->H' b/o
 there:∀b,H' b=Gq->H b=Gq
variable{p:Ge}
inductive vr(P:Gn)(w:Tf)(CP:Ge)(CB:Ge)(vs:List V)(H:Hp)(Q:VK):Prop
 |mk (bk:Ge) (p:Ge) (a:Ge) (f:Ge) (d:Ge) (t:Ge) (e:Ge) (ts:List Th) (tl:Tl) (U:List Th) (dv:V) (ev:V) (b:Bool) (p1:Nat) (p2:Nat) (h0:vs=[↑bk,dv,ev]) (h1:Ul P w CP CB H bk p a f d t e ts tl) (h2:i4 U ts tl) (h3:iF H dv (.tell b (tg ts p1) (tg ts p2))) (h4:iz H ev (tw b,p1,p2)) (h5:p1<⇑ts) (h6:p2<⇑ts) (h7:∀(v:V)(e':Ge)(H':Hp),Ul P w CP CB H' bk p a f d t e' ts (Uo tl (.tell b (tg ts p1) (tg ts p2))).1->Vs H' (λb=>∃o,H b/o) tl (.tell b (tg ts p1) (tg ts p2)) v->zd bk t H H'->(e'=e\/H e'=Gq)->Q v H'):vr P w CP CB vs H Q
def uL(P:Gn)(w:Tf)(b a:Ge):Sp:=λc H Q _=>vr P w b a c H Q
inductive Kb(P:Gn)(w:Tf)(CP:Ge)(CB:Ge)(vs:List V)(H:Hp)(Q:VK):Prop
 |mk (bk:Ge) (p:Ge) (a:Ge) (f:Ge) (d:Ge) (t:Ge) (e:Ge) (ts:List Th) (tl:Tl) (i:Int) (h0:vs=[↑bk,.int i]) (h1:Ul P w CP CB H bk p a f d t e ts tl) (h2:∀(v:V)(t' e':Ge)(H':Hp),Ul P w CP CB H' bk p a f d t' e' ts (Uo tl (.back i)).1->v=(Uo tl (.back i)).2->zd bk bk H H'->(t'=t\/H t'=Gq)->(e'=e\/H e'=Gq)->Q v H'):Kb P w CP CB vs H Q
def tY(P:Gn)(w:Tf)(b a:Ge):Sp:=λc H Q _=>Kb P w b a c H Q
section
variable{P:Gn}{w:Tf}{K:Gd}{mg:TM->Option Gj}{base:Heap}
theorem zH:Q7 ["self","moment","forgotten"] ["self","moment"] (Qo ny):=by eq_refl
theorem Qsd(F:Wd K "go_back" "Book.go_back" ny f0 fd)(g:iJ K mg CB)(B0:I0 mg):Q3 P w K mg base Ya 1 f0 fd ["self","moment"] (tY P w CP CB):=by
 refine F.ok zH (λm n N ab b=>?_) (λah ag ak s n m N ab hr b=>?_)
 .obtain⟨c,p,O,U,d,t,a,ts,G,i,rfl,_⟩:=b;rfl
 have(c,p,O,U,d,t,a,ts,G,i,rfl,j,q):=b;have(nu,n1,n2):=g.no;have nd:=zH.nd;show∃t,Xu ?my _ t/\_;let ae:Vq ?my ny 1:={_,Qc (Zc (PW.pt (Yu (Qp Vh {1} Qi (Qu _)) (Xe (Qp Vh {2} Qi (Qu _))))) (Qg (Qt (lD rfl n1 n2))) Qw) (Qc (Xk {0} (Z3 Wn (Qx {0}) Yv (Yd {1})) rfl) (Qc (Xk {0} (Z3 Wn (Qx {0}) Yv (Yd {1})) rfl) (Qg (Qt {2}))))}
 exists _,Qc (Qz 2 nd (Zg Ru (Qm Zp rfl B0.len GY (Qa (Qx {0}) Qd)) {1})) ae.2;ac_nf;have(k,f):=j.ob;have(dp,op):=j.pl.ob;have(m,Z,t2):=j.to;have(A,ai,S,T,R):=j.en;intros;have lv:=GJ t2;have le:=(GJ T).trans (GJ R);exists 0,c,CB,k,30,f,g.cl,g.told,oz _ _ _,t,m,1,.inl (Qk Z),0301;exists 403010;have Y:¬(0<=i/\i<=(⇑G:Int))->N (.str "no moment") n:=λb=>q _ t a n (by simp only[Uo];rw[Gs b];exact j) (by simp only[Uo];rw[Gs b]) {λ_ _ a _ _=>a,λ_ b=>b} (.inl Xb) (.inl Xb);by_cases hi:i<0
 .rw[Tg hi];refine Yo (Yo ?_);exact Y (λaf=>by ext)
 rw[Td hi];refine Q4 {03010,?_};by_cases W:(⇑m:Int) - i<0
 .rw[Tg W];refine Yo ?_;exact Y (λaf=>by ext)
 rw[Td W];refine Q4 ?_;have B:0<=i:=by ext
 have V:i<=(⇑G:Int):=by ext
 refine{0,c,CB,k,30,f,g.cl,g.told,oz _ _ _,00,t,m,1,Qk Z,λl y=>?_};rw[tr m B ∅];have L:=Qf y (.lst (m.take i.toNat));exists 0,c,CB,k,0,L _ _ f,g.cl,g.told,(by show 3<1000;decide);rw[WG];have Q:c≠l:=Qe f y;have be:a≠c:=Yr S f nofun;generalize C:zj (zj n l (.lst (m.take i.toNat))) c (.ins CB k (Vj p l a))=v;have D:∀{e h},n e/h->e≠c->v e/h:=λa b=>by rw[<-C];exact Ql (L _ _ a) b
 have J:v c/.ins CB k (Vj p l a):=by rw[<-C];exact Qb
 have aa:v l/.lst (m.take i.toNat):=by rw[<-C];exact Ql Qb (Tb Q)
 have X:∀{e},v e=Gq->n e=Gq:=λ{e}b=>by rw[<-C]at b;exact L.free (Yg b)
 refine{0,c,CB,k,30,J,g.cl,g.entries,Jg _ _ _,00,a,A,1,Qk (D S be),λo r=>?_};rw[tr A B ∅];have E:=Qf r (.lst (A.take i.toNat));exists 0,c,CB,k,0,E _ _ J,g.cl,g.entries,(by show 3<1000;decide);rw[tJ];have ac:c≠o:=Qe J r;have ad:l≠o:=Qe aa r;generalize x:zj (zj v o (.lst (A.take i.toNat))) c (.ins CB k (Vj p l o))=z;have u:∀{e h},n e/h->e≠c->z e/h:=λa b=>by rw[<-x];exact Ql (E _ _ (D a b)) b
 have M:Q6 n z:=λe xs a=>u a (Yr a f nofun);ac_nf;have(us,H,_):=j.pl.th;have(ws,I,_):=j.pl.fo;have(aj,d1,_):=j.pl.kn;intros;have BK:Ul P w CP CB z c p O U d l o ts (G.take i.toNat):=by
  exists {k,by rw[<-x];exact Qb},j.pl.keep (λh a=>u a (Yr op f (w6 _ _ _ _ _ _))) (λh a=>u a (Yr H f nofun)) (λh a=>u a (Yr I f nofun)) (λh a=>u a (Yr d1.at_ f nofun)) M,{_,by rw[<-x];exact Ql (E _ _ aa) (Tb Q),Uk.Qv M (Rg t2 _)},{2,by rw[<-x];exact Ql Qb (Tb ac),Qr (Rg T _) λ_ _ b=>b.Qv M,VD R _},Tb (Qe H y),Tb (Qe I y),ad,?_
  .exact Tb (Qe (D H (Yr H f nofun)) r)
  .exact Tb (Qe (D I (Yr I f nofun)) r)
 refine{0,q _ l o z (by simp only[Uo];rw[GX ⟨B,V⟩];exact BK) (by simp only[Uo];rw[GX ⟨B,V⟩,lv]) {λe h a b _=>u a b,λe b=>X (by rw[<-x]at b;exact E.free (Yg b))} (.inr y) (.inr (X r))}
theorem vP:Q7 ["self","deed","entry","entries","net","number"] ["self","deed","entry"] (Qo jT):=by eq_refl
theorem ZK{aj:Dn}(F:Wd K "tell" "Book.tell" jT f0 fd)(A:iJ K mg CB)(TP:iK K mg CP)(B0:I0 mg)
  (GN:Q3 P w K mg base Ya 61 fN fdN ["forms","told"] (qm P w C))(kN:KI K fN)(bN:zk K fdN ["forms","told"] [])(mN:MG mg "net_of" fN)
  (GC:Q3 P w K mg base Ya 2 fC aj ["net","entries"] (qF P w C))(kC:KI K fC)(bC:zk K aj ["net","entries"] [])(mC:MG mg "least_clash" fC)
  (mL:Yp K CB "lines_for" fL)(GL:Q3 P w K mg base Ya 7 fL fdL ["self","net","entry"] (On P w C CP CB))(bL:zk K fdL ["self","net","entry"] []):
  Q3 P w K mg base Ya 62 f0 fd ["self","deed","entry"] (uL P w CP CB):=by
 refine F.ok vP (λY G N L c=>?_) (λO ac X s G Y N L hr c=>?_)
 .obtain⟨l,p,g,aa,d,t,b,e,r,E,dv,ev,a,B,D,rfl,_⟩:=c;rfl
 have(l,p,g,aa,d,t,b,e,r,E,dv,ev,a,B,D,rfl,f,J,aA,(i,rfl,az),aG,aH,q):=c;have aJ:Yj 2 _:=hr.mono (by lia);have aK:Yj 7 _:=hr.mono (by lia);have nd:=vP.nd;show∃t,Xu ?my _ t/\_;let aV:Vq ?my jT 4:={_,Qc (Zn (X0 Te Tv Tz Z4 (Qx {0}) (Qa {1} Qd))) (Qc (Xk {0} {3} rfl) (Qg (Qt (Qm Zp rfl B0.len GY (Qa {3} Qd)))))}
 let aW:Vq ?my jT 3:={_,Qc (Zc (Qp kX {5} U9 (Qu _)) (Qg (Qt (Zf (Qa Zi (Qa {5} (Qa (Zm {0} A.cl mL GL aK bL .nil Q5 (Qa {4} (Qa (Qn Ze {3} {5}) Qd))) Qd)))))) Qw) aV.2}
 let aX:Vq ?my jT 1:={_,Qc (Qz 4 nd (Zb GN hr rfl mN kN bN .nil Q5 (Qa (Qx (Qx {0}) rfl) (Qa {3} Qd)))) (Qc (Qz 5 nd (Zb GC aJ rfl mC kC bC .nil Q5 (Qa {4} (Qa {3} Qd)))) aW.2)}
 exists _,Qc (Qz 3 nd (Zg X5 (Qx {0}) (Zu (Qa {2} Qd)))) aX.2;ac_nf;have(I,k):=f.ob;have(dp,o2):=f.pl.ob;have(ws,f1,f2):=f.pl.fo;have(us,u1,_):=f.pl.th;have(a0,d1,_):=f.pl.kn;have(Y,T,t2):=f.to;have(v,ai,e1,e2,R):=f.en;have ae:=f.pl.nd;have ad:=f.pl.cl;have ap:=J.le ae;have(TK,aQ):=yf ae ad (λt ht=>J.good t (J.sub t ht)) ap;intros;have aB:⇑v=⇑r:=(GJ e2).trans (GJ R);have aZ:⇑Y=⇑r:=GJ t2;have aY:=J.tl;refine{0,l,CB,I,30,k,A.cl,A.entries,Jg _ _ _,0,Wx,λr0 aI=>?_};have s0:=Qf aI (.lst [↑i]);refine{b,r0,v,[↑i],11,s0 _ _ e1,Qb,by rw[TH];simp only[GQ];lia,λh al=>?_};have W:G h=Gq:=s0.free al;have S:=s0.trans (Qf al (.lst (v++[↑i])));have g1:(zj (zj G r0 (.lst [↑i])) h (.lst (v++[↑i]))) h/.lst (v++[↑i]):=Qb;generalize zj (zj G r0 (.lst [↑i])) h (.lst (v++[↑i]))=H1 at S g1;have af:=Q6.of S;have Q:Df (iz H1) (v++[↑i]) (ai++[(tw a,B,D)]):=EV (Qr e2 λ_ _ c=>c.Qv af) {i,1,af _ _ az};have M:iN e (ai++[(tw a,B,D)]) (r++[(a,tg e B,tg e D)]):=EV R {1,Wr aG,Wr aH};refine{0,l,CB,I,30,S _ _ k,A.cl,A.places,J9 _ _ _,p,CP,dp,30,S _ _ o2,TP.cl,TP.nF,xu _ _ _,0,aa,h,ws,_,tfs e,30,S _ _ f1,Qr f2 λ_ _ c=>c.Qv af,g1,Q,TK,by rw[Uc];exact ap,aQ,λen aC=>by rw[Uc];exact vD M en aC,by rw[<-GJ Q,Gk,GQ];lia,λn ac tb x H2 H _ E=>?_};have S2:Za G H2:=S.trans H.sam;have(aR,aS):=wy M (λp q=>Iff.rfl);have EQ:=zR E;have ah:∀p∈x.S,∀q∈x.S,x.zg p=x.zg q↔Cg (r++[(a,tg e B,tg e D)]) (tg e p) (tg e q):=λp hp q hq=>EQ.cg ae ad H.inv H.fok aR aS hp hq;have aT:∀g b' n,(g,b',Ga (.told n))∈x.zt->(r++[(a,tg e B,tg e D)])[n]?/(Gi,tg e g,tg e b'):=λg b' n c=>by
  rcases E.rsn _ c with ag|⟨j,p',q',m,z⟩
  .cases ag
  .cases m;have(O,N,L):=nJ M z;rw[p9 N]at L;exact L
 have aM:∀g a,¬(g,a,Ga Ib.asked)∈x.zt:=λg a c=>by
  rcases E.rsn _ c with ag|⟨j,p',q',m,z⟩
  .cases ag
  .cases m
 refine{00,n,h,ac,_,tb,x,30,H.at_,H.sam _ _ g1,Qr Q λ_ _ c=>c.Qv (Q6.of H.sam),E.ins,λo H3 g3 ak=>?_};have u:=S2.trans g3;have U:=H.same g3;have am:=U.sam _ _ g1;exists 4010;rw[og];cases o with
 |some O=>
  refine Yo ?_;have(p',q',m,z,aN,aO,N):=wC M E.ins ah ak;have hm:O<⇑(v++[V.ref i]):=by rw[GJ Q];exact(Gg.mp m).1
  have(y,hy,aL):=Qy Q (Gf hm);rw[m]at hy;cases hy;have(cm,aw,ay):=aL;refine{00,l,I,0,u _ _ k,Ry _ _ _,000,h,201,Qk am,Zk (Gf hm),l,p,g,aa,d,t,b,e,r,n,ac,_,x,2,p',q',1,f.same u,{cm,aw,U.sam _ _ ay},U.at_,U.lng TK.few,aN,aO,z,(λt ht=>J.good t (J.sub t ht)),λlv ls H7 g7 hl hb hg aD=>?_};refine{Vk,λc8 ax=>?_};have X:=Qf ax (.tup [.str "clash",jv O,lv]);have L:=(u.trans g7).trans X;have ab:Xq (r++[(a,tg e B,tg e D)]):={2,Gc N.1,N.2.1};refine q _ b _ (by simp only[Uo];rw[GX ab];exact f.same L) (.inr {c8,O,2,lv,ls.map (lth e),1,Qb,N,(hl.ex (by rintro Z ys _ hx ⟨o,ho⟩;exact hx {o,u _ _ ho})).kp (Q6.of X) (λb _=>X _ _ b),qJ ad hg hb aT (λg a c=>absurd c (aM g a)),rm aD}) {λa o b _ _=>L _ _ b,λa c=>L.free c} (.inl Xb)
 |none=>
  refine Q4 ?_;have aF:=Aj M E.ins ah ak;have ab:¬Xq (r++[(a,tg e B,tg e D)]):=(by rintro⟨g,Z,m,z⟩;exact aF g Z m z);have t3:=u _ _ T;exists 0,l,CB,I,30,u _ _ k,A.cl,A.told,oz _ _ _,.inl {13,Qk t3},0,t,Y,01,t3,(by rw[TH];lia);have tb:t≠l:=Yr T k nofun;exists 00,l,CB,I,0,Ql (u _ _ k) (Tb tb),A.cl,A.entries,(by show 3<1000;decide);rw[tJ];have ao:t≠h:=Qe T W;have aP:l≠h:=Qe k W;generalize N:zj (zj H3 t (.lst (Y++[dv]))) l (.ins CB I (Vj p t h))=L;have O:∀{a o},G a/o->a≠l->a≠t->L a/o:=λb m z=>by rw[<-N];exact Ql (Ql (u _ _ b) z) m
  have X:Q6 G L:=λa xs b=>O b (Yr b k nofun) (Yr b T nofun);have an:L h/.lst (v++[↑i]):=by rw[<-N];exact Ql (Ql am (Tb ao)) (Tb aP)
  have aU:Q6 H1 L:=λZ xs ec=>by have:H3 Z/.tup xs:=U.sam _ _ ec;rw[<-N];exact Ql (Ql this (Yr this t3 nofun)) (Yr this (u _ _ k) nofun)
  have(ca,v1,v2,aq,ar,au,av):=aA;have BK:Ul P w CP CB L l p g aa d t h e (r++[(a,tg e B,tg e D)]):=by refine{{I,by rw[<-N];exact Qb},f.pl.keep (λo b=>O b (Yr o2 k (w6 _ _ _ _ _ _)) (Yr o2 T nofun)) (λo b=>O b (Yr u1 k nofun) (Tb f.ta)) (λo b=>O b (Yr f1 k nofun) (Tb f.tf)) (λo b=>O b (Yr d1.at_ k nofun) (Yr d1.at_ T nofun)) X,{_,by rw[<-N];exact Ql Qb tb,EV (t2.Qv X) {ca,v1,v2,aq,X _ _ ar,au.Qv X,av.Qv X}},{2,an,Qr Q λ_ _ c=>c.Qv aU,M},f.ta,f.tf,ao,Tb (Qe u1 W),Tb (Qe f1 W)}
  exists 0,h,0,.inl (Qk an);have aE:(⇑(v++[V.ref i]):Int)=(⇑r:Int)+1:=by rw[Gk,GQ,aB];lia
  rw[aE];exact q _ h L (by simp only[Uo];rw[Gs ab];exact BK) (.inl ⟨ab,Xb⟩) {λa o b m z=>O b m z,λa c=>u.free (by rw[<-N]at c;exact Yg (Yg c))} (.inr W)
structure kR(bk a f d t:Ge)(H H':Hp):Prop where
 keep:∀b o,H b/o->b≠bk->b≠a->b≠f->b≠d->b≠t->H' b/o
 there:∀b,H' b=Gq->H b=Gq
inductive vc(P:Gn)(w:Tf)(CP:Ge)(CB:Ge)(vs:List V)(H:Hp)(Q:VK):Prop
 |mk (bk:Ge) (p:Ge) (a:Ge) (f:Ge) (d:Ge) (t:Ge) (e:Ge) (ts:List Th) (tl:Tl) (U:List Th) (dv:V) (dd:Dd) (h0:vs=[↑bk,dv]) (h1:Ul P w CP CB H bk p a f d t e ts tl) (h2:i4 U ts tl) (h3:iF H dv dd) (h4:dd.fits U) (h5:∀(v:V)(t' e':Ge)(ts':List Th)(H':Hp),Ul P w CP CB H' bk p a f d t' e' ts' (Uo tl dd).1->Vs H' (λb=>(∃o,H b/o)\/b=t') tl dd v->(∀x∈ts',x∈U)->kR bk a f d t H H'->(t'=t\/H t'=Gq)->(e'=e\/H e'=Gq)->Q v H'):vc P w CP CB vs H Q
def oq(P:Gn)(w:Tf)(b a:Ge):Sp:=λc H Q _=>vc P w b a c H Q
inductive za(P:Gn)(w:Tf)(CP:Ge)(CB:Ge)(vs:List V)(H:Hp)(Q:VK):Prop
 |mk (bk:Ge) (dx:Ge) (h0:vs=[↑bk]) (h1:H bk/.ins CB dx []) (h2:∀(p a f d t e:Ge)(H':Hp),Ul P w CP CB H' bk p a f d t e [] []->(∀b o,H b/o->b≠bk->H' b/o)->H a=Gq->H f=Gq->H d=Gq->H t=Gq->H e=Gq->Q .non H'):za P w CP CB vs H Q
def pF(P:Gn)(w:Tf)(b a:Ge):Sp:=λc H Q _=>za P w b a c H Q
theorem pe{m:List Th}(h:ts[j]?/t):(ts++m)[j]?/t:=by rw[TB (Gg.mp h).1];exact h
theorem Ul.place{bk a t e:Ge}{m:List Th}(B:Ul P w CP CB H bk p a f d t e ts tl)(x:Pl P w CP H' p a f d (ts++m))(F:hI a f d H H'):Ul P w CP CB H' bk p a f d t e (ts++m) tl:=by have(l,b):=B.ob;have(y,s,_):=B.pl.th;have(z,v,_):=B.pl.fo;have(q,c,_):=B.pl.kn;have(u,j,r):=B.to;have(o,g,i,n,R):=B.en;have k:=F.Qv B.pl;refine{{l,F.keep _ _ b (Yr b s nofun) (Yr b v nofun) (Yr b c.at_ nofun)},x,{u,F.keep _ _ j B.ta B.tf (Yr j c.at_ nofun),r.Qv k},{o,g,F.keep _ _ i B.ea B.ef (Yr i c.at_ nofun),Qr n λ_ _ h=>h.Qv k,Qr R λ_ _ h=>{h.1,pe h.2.1,pe h.2.2}},B.ta,B.tf,B.te,B.ea,B.ef}
theorem i4.grow(F:i4 U ts tl)(ht:t∈U):i4 U (Xh ts t.inside) tl:=⟨λs hs=>by
 rw[qp]at hs;rcases hs with h|h
 .exact F.sub s h
 .exact F.cl t ht s h,F.cl,F.good,F.len,F.tl⟩
theorem QK:Q7 ["self"] ["self"] (Qo rK):=by eq_refl
theorem OD(F:Wd K "__init__" "Book.__init__" rK f0 fd)(h:iJ K mg CB)(TP:iK K mg CP)(M:Mk K CP fI)(L:Q3 P w K mg base Ya 1 fI fdI ["self"] (wQ P w CP))(Q:zk K fdI ["self"] []):Q3 P w K mg base Ya 3 f0 fd ["self"] (pF P w CP CB):=by
 refine F.ok QK (λvs r N J z=>?_) (λad ab ai s r vs N J X z=>?_)
 .obtain⟨c,f,rfl,_⟩:=z;rfl
 have(c,f,rfl,A,q):=z;exists _,Qc (Xk {0} (pX M L X rfl TP.mgC Q .nil Q5) rfl) (Qc (Xk {0} (Zu Qd) rfl) (Qg (Xk {0} (Zu Qd) rfl)));intro p x B V af;have u:Za r (zj (zj r x (.own p)) p (.ins CP x [])):=λac e a=>Ql (Ql a (Qe a V)) (Qe a B);refine{p,x,1,Qb,λO S d v o Y T W U=>{1,?_}};have k:Za r v:=λg e a=>Y g e (u _ _ a) (Qe a B);have Z:p≠c:=Tb (Qe A B);ac_nf;have(ae,ah):=o.ob;have(us,D,_):=o.th;have(ws,E,_):=o.fo;have(ag,R,_):=o.kn;intros;refine{0,c,CB,f,[],1,k _ _ A,h.cl,h.places,by show 0<1000;decide,Ts _,λt ht=>?_};have i:=k _ _ A;have n:=Yg ht;have C:t≠c:=Tb (Qe i n);refine{0,c,CB,f,0,Ql Qb (Tb C),h.cl,h.told,by show 1<1000;decide,Ts _,λa I=>?_};have m:=Yg (Yg (Yg I));have G:a≠c:=Tb (Qe i m);have H:t≠a:=λaa=>by have:=Yg I;rw[<-aa,Qb]at this;cases this
 exists 0,c,CB,f,0,Ql Qb (Tb G),h.cl,h.entries,(by show 2<1000;decide);have j:∀{g e},v g/e->g≠c->(zj (zj (zj (zj (zj v c (.ins CB f (Y0 "places" ↑p []))) t (.lst [])) c (.ins CB f (Y0 "told" ↑t (Y0 "places" ↑p [])))) a (.lst [])) c (.ins CB f (Y0 "entries" ↑a (Y0 "told" ↑t (Y0 "places" ↑p []))))) g/e:=λy l=>Ql (Ql (Ql (Ql (Ql y l) (Qe y n)) l) (Qe y m)) l;refine q p O S d t a _ {⟨f,Qb⟩,o.keep (λe b=>j b Z) (λe b=>j b (Yr D i nofun)) (λe b=>j b (Yr E i nofun)) (λe b=>j b (Yr R.at_ i nofun)) (λg xs b=>j b (Yr b i nofun)),{[],Ql (Ql (Ql Qb C) H) C,.nil},{[],[],Ql Qb G,.nil,.nil},Tb (Qe D n),Tb (Qe E n),H,Tb (Qe D m),Tb (Qe E m)} (λg e b l=>j (k _ _ b) l) (u.free T) (u.free W) (u.free U) (k.free n) (k.free m)
theorem wJ:Q7 ["self","deed","entry"] ["self","deed"] (Qo mq):=by eq_refl
theorem Qyj{f:V}{e:Dd}(h:iF H f e):∃c k m,f=.ref c/\H c/.tup (.str k::m)/\(k="back"↔∃i,e=.back i)/\(k="ask"↔∃s t,e=.ask s t):=by
 cases e with
 |tell b s t=>
  have(c,g,l,a,d,_):=h;refine{c,2,a,d,{λz=>?_,λ⟨i,z⟩=>by cases z},{λz=>?_,λ⟨i,j,z⟩=>by cases z}}
  .cases b<;>exact absurd z (by decide+kernel)
  .cases b<;>exact absurd z (by decide+kernel)
 |ask s t=>have(c,g,l,a,d,_):=h;exact{c,2,a,d,{λz=>absurd z (by decide+kernel),λ⟨i,z⟩=>by cases z},{λz=>⟨s,t,rfl⟩,λ_=>rfl}}
 |back i=>have(c,a,d):=h;exact{c,2,a,d,{λz=>⟨i,Xb⟩,λ_=>rfl},{λz=>absurd z (by decide+kernel),λ⟨i,j,z⟩=>by cases z}}
theorem QW{fG fP fT:Ge}{ak al am:Dn}(F:Wd K "answer" "Book.answer" mq f0 fd)(z:iJ K mg CB)(TP:iK K mg CP)
  (mG:Yp K CB "go_back" fG)(GG:Q3 P w K mg base Ya 1 fG ak ["self","moment"] (tY P w CP CB))(bG:zk K ak ["self","moment"] [])(mP:Yp K CP "place_of" fP)(GP:Q3 P w K mg base Ya 52 fP al ["self","thing"] (AD P w CP))(bP:zk K al ["self","thing"] [])
  (mA:Yp K CB "ask" fA)(GA:Q3 P w K mg base Ya 62 fA fdA ["self","entry"] (Al P w CP CB))(bA:zk K fdA ["self","entry"] [])(mT:Yp K CB "tell" fT)(GT:Q3 P w K mg base Ya 62 fT am ["self","deed","entry"] (uL P w CP CB))(bT:zk K am ["self","deed","entry"] []):
  Q3 P w K mg base Ya 63 f0 fd ["self","deed"] (oq P w CP CB):=by
 refine F.ok wJ (λW N V L D=>?_) (λaw av ax s N W V L hr D=>?_)
 .obtain⟨n,p,A,C,d,t,S,v,tl,R,dv,Z,rfl,_⟩:=D;rfl
 have(n,p,A,C,d,t,S,v,tl,R,dv,Z,rfl,e,Q,aa,ab,q):=D;have aD:Yj 1 _:=hr.mono (by lia);have aq:Yj 52 _:=hr.mono (by lia);have nd:=wJ.nd;show∃t,Xu ?my _ t/\_;let aI:Vq ?my mq 2:={_,Qc (Zc (Qp Xs (Qn Qs {1} Qi) Zi (Qu _)) (Qg (Qt (Zm {0} z.cl mA GA hr bA .nil Q5 (Qa {2} Qd)))) Qw) (Qg (Qt (Zm {0} z.cl mT GT hr bT .nil Q5 (Qa {1} (Qa {2} Qd)))))}
 let aJ:Vq ?my mq 1:={_,Qc (Qz 2 nd (Zf (Qa (Qn Qs {1} Qi) (Qa (Zm (Qx {0}) TP.cl mP GP aq bP .nil Q5 (Qa (Qn Qs {1} Qi) Qd)) (Qa (Zm (Qx {0}) TP.cl mP GP aq bP .nil Q5 (Qa (Qn Qs {1} Qi) Qd)) Qd))))) aI.2}
 exists _,Qc (Zc (Qp Xs (Qn Qs {1} Qi) Zi (Qu _)) (Qg (Qt (Zm {0} z.cl mG GG aD bG .nil Q5 (Qa (Qn Qs {1} Qi) Qd)))) Qw) aJ.2;ac_nf;have(dx,o1):=e.ob;have(o,k,xs,rfl,H,kb,ka):=Qyj aa;intros;exists 0,o,201,Qj H,Oj _ _,10;rw[Zh];ac_nf;have(us,u1,_):=e.pl.th;have(ws,w1,_):=e.pl.fo;have(aL,d1,_):=e.pl.kn;have(aQ,t1,_):=e.to;intros;by_cases hb:k="back"
 .subst hb;rw[Ls];refine Yo ?_;have(i,rfl):=kb.mp rfl;have(Y,f,g):=aa;cases f;refine{0,n,dx,0,o1,QO _ _ _,0,o,201,Qj g,Re _ _ _,n,p,A,C,d,t,S,v,tl,i,1,e,λU t' e' W V I L ad ac=>?_};exact q U t' e' v W V I Q.sub {λa j h f _ _ _ _=>L.keep a j h f f,L.there} ad ac
 have aF:(k==("back":TM))=Gx:=by simpa using hb
 rw[aF];refine Q4 ?_;ac_nf;obtain⟨s,c,l,m,aE,i1,i2,hs,ht,aB⟩:∃s c l m,xs=[l,m]/\Z5 N l s/\Z5 N m c/\s∈R/\c∈R/\((k="ask"/\Z=.ask s c)\/(k≠"ask"/\∃a,k=tw a/\Z=.tell a s c)):=by
  cases Z with
  |tell a s c=>have(Y,l,m,f,g,E,G):=aa;cases f;rw[H]at g;cases g;exact{s,c,l,m,1,E,G,ab.1,ab.2,.inr {(λb=>by have(_,_,b):=ka.mp b;cases b),a,rfl,rfl}}
  |ask s c=>have(Y,l,m,f,g,E,G):=aa;cases f;rw[H]at g;cases g;exact{s,c,l,m,1,E,G,ab.1,ab.2,.inl ⟨Xb,Xb⟩}
  |back i=>exact absurd (kb.mpr ⟨i,Xb⟩) hb
 intros;subst aE;have(dp,op):=e.pl.ob;have gs:=Q.good s hs;have gt:=Q.good c ht;have aM:=Q.le e.pl.nd;refine{0,o,201,Qj H,Oj _ _,0,n,CB,dx,30,o1,z.cl,z.places,J9 _ _ _,p,dp,0,op,zh _ _ _,0,o,201,Qj H,Re _ _ _,p,l,s,A,C,d,v,1,e.pl,i1,gs.1,by have:=gs.2.1;lia,by have:=gs.2.2;lia,λr H1 x1 aC F1=>?_};have(m1,aj):=Uh s.inside v;have ar:=x1;rw[aj]at ar;have x:=e.place ar F1;rw[<-aj]at x;have FW1:=Q.grow hs;have aN:=FW1.le x.pl.nd;have af:=F1.Qv e.pl;have(az,aG):=x.ob;have(ay,aH):=x.pl.ob;refine{0,n,CB,az,30,aG,z.cl,z.places,J9 _ _ _,p,ay,0,aH,zh _ _ _,0,o,201,Qj (af _ _ H),ji _ _ _ _,p,m,c,A,C,d,0,x.pl,i2.Qv af,gt.1,by have:=gt.2.1;lia,by have:=gt.2.2;lia,λJ X x2 ap F2=>?_};have(m2,ae):=Uh c.inside (Xh v s.inside);have au:=x2;rw[ae]at au;have B2:=x.place au F2;rw[<-ae]at B2;have FW2:=FW1.grow ht;have ag:Q6 N X:=λa xs h=>(F2.Qv x.pl) _ _ (af _ _ h);have ao:(Xh (Xh v s.inside) c.inside)[r]?/s:=by rw[ae];exact pe aC
 refine{Vk,λB aA=>?_};have T:=Qf aA (.tup [.str k,jv r,jv J]);have y:=B2.same T;generalize aK:Xh (Xh v s.inside) c.inside=O at*;have e1:=Jl ao;have e2:=Jl ap;have l1:r<⇑O:=(Gg.mp ao).1;have l2:J<⇑O:=(Gg.mp ap).1;have M:hI A C d N (zj X B (.tup [.str k,jv r,jv J])):=(F1.trans F2).trans (hI.of T);ac_nf;have(ai,o3):=y.ob;have(aO,u3,_):=y.pl.th;have(aR,w3,_):=y.pl.fo;have(aP,t3,_):=y.to;intros;have an:(zj X B (.tup [.str k,jv r,jv J])) o/.tup (.str k::[l,m]):=T _ _ (ag _ _ H);have back:∀a j,N a/j->∃u,(zj X B (.tup [.str k,jv r,jv J])) a/u:=λa j h=>Md.mp λb=>by rw[M.there a b]at h;cases h
 exists 0,o,201,Qj an,Oj _ _,10;rw[Zh];rcases aB with⟨rfl,rfl⟩|⟨hk,a,rfl,rfl⟩
 .rw[Ls];refine Yo ?_;refine{0,n,ai,0,o3,PM _ _ _,0,n,p,A,C,d,t,S,O,tl,R,↑B,r,J,1,y,FW2,⟨B,Xb,Qb⟩,l1,l2,λU H4 L I=>?_};rw[e1,e2]at I;refine q U t S O H4 (y.same L) (I.ex λY ys _ hx b=>hx ?_) FW2.sub {λa j h f g E G h5=>L _ _ (M.keep a j h g E G),λa D=>M.there a (L.free D)} (.inl Xb) (.inl Xb);rcases b with⟨j,ho⟩|b
  .exact back _ _ ho
  .rw[b];exact{_,t3}
 .have ah:(tw a==("ask":TM))=Gx:=by simpa using hk
  rw[ah];refine Q4 ?_;refine{0,n,ai,0,o3,WM _ _ _,00,n,p,A,C,d,t,S,O,tl,R,↑o,↑B,a,r,J,1,y,FW2,?_,⟨B,Xb,Qb⟩,l1,l2,λU e' H4 L I V W=>?_}
  .rw[e1,e2];exact{o,l,m,1,an,(i1.Qv ag).same T,(i2.Qv ag).same T}
  .rw[e1,e2]at L I;refine q U t e' O H4 L (I.ex λY ys _ hx b=>hx ?_) FW2.sub {λa j h f g E G h5=>V.keep _ _ (M.keep a j h g E G) f h5,λa D=>M.there a (V.there a D)} (.inl Xb) (W.elim .inl λb=>.inr (M.there _ b));rcases b with⟨j,ho⟩|b
   .exact back _ _ ho
   .rw[b];exact{_,t3}
def wg(H:Hp)(X:Ge->Prop)(a:List Dd)(b:List V):Prop:=∀(k:Nat)(d:Dd)(v:V),a[k]?/d->b[k]?/v->Vs H X (after [] (a.take k)) d v
inductive uJ(vs:List V)(H:Hp)(Q:VK):Prop
 |mk (l:Ge) (es:List V) (dl:List Dd) (U:List Th) (h0:vs=[↑l]) (h1:H l/.lst es) (h2:Vt H es dl) (h3:jE U) (h4:(∀d∈dl,d.fits U)) (h5:⇑dl<=800) (h6:∀(r:Ge)(rs:List V)(H':Hp),Za H H'->H r=Gq->H' r/.lst rs->⇑rs=⇑dl->wg H' (λb=>b=r) dl rs->Q ↑r H'):uJ vs H Q
def yx:Sp:=λa H Q _=>uJ a H Q
inductive wz(P:Gn)(w:Tf)(CP:Ge)(CB:Ge)(vs:List V)(H:Hp)(Q:VK):Prop
 |mk (l:Ge) (es:List V) (dl:List Dd) (U:List Th) (h0:vs=[↑l]) (h1:H l/.lst es) (h2:Vt H es dl) (h3:jE U) (h4:(∀d∈dl,d.fits U)) (h5:⇑dl<=800) (h6:∀(bk p a f d t e:Ge)(ts:List Th)(H':Hp),Za H H'->Ul P w CP CB H' bk p a f d t e ts (after [] dl)->(∀x∈ts,x∈U)->Q ↑bk H'):wz P w CP CB vs H Q
def xg(P:Gn)(w:Tf)(b a:Ge):Sp:=λc H Q _=>wz P w b a c H Q
inductive xM(vs:List V)(H:Hp)(Q:VK):Prop
 |mk (l:Ge) (es:List V) (dl:List Dd) (U:List Th) (h0:vs=[↑l]) (h1:H l/.lst es) (h2:Vt H es dl) (h3:jE U) (h4:(∀d∈dl,d.fits U)) (h5:⇑dl<=800) (h6:∀(r:Ge)(rs:List V)(H':Hp),Za H H'->H' r/.lst rs->Uk H' rs (after [] dl)->Q ↑r H'):xM vs H Q
def ua:Sp:=λa H Q _=>xM a H Q
theorem tP{a:List Dd}(b:jE U)(h:∀x∈ts,x∈U)(c:⇑a<=800)(i:Nat):i4 U ts (after [] (a.take i)):={h,b.cl,b.good,b.len,by have:=Jy (ds:=a.take i) (tl:=[]);rw[Db]at this;simp only[S8]at this;lia}
theorem Ul.but{i g:Ge}{H:Hp}{bk p a f d t e r:Ge}{l:List Th}{k:Tl}{D n:List V}(B:Ul P w i g H bk p a f d t e l k)(c:H r/.lst D)(v:r≠a)(y:r≠f)(rt:r≠t)(x:r≠e):Ul P w i g (zj H r (.lst n)) bk p a f d t e l k:=by
 have(o,j):=B.ob;have(C,z,A):=B.to;have(u,b,q,s,R):=B.en;have m:Q6 H (zj H r (.lst n)):=Z2 λE e=>by rw[c]at e;cases e
 exact{{o,Ql j (Yr j c nofun)},B.pl.but c v y,{C,Ql z (Tb rt),A.Qv m},{u,b,Ql q (Tb x),Qr s λ_ _ h=>h.Qv m,R},B.ta,B.tf,B.te,B.ea,B.ef}
theorem kR.Qv{bk a t e:Ge}(F:kR bk a f d t H H')(B:Ul P w CP CB H bk p a f d t e ts tl):Q6 H H':=λb s c=>by have(m,i):=B.ob;have(o,k,_):=B.pl.th;have(r,l,_):=B.pl.fo;have(h,g,_):=B.pl.kn;have(q,j,n):=B.to;exact F.keep _ _ c (Yr c i nofun) (Yr c k nofun) (Yr c l nofun) (Yr c g.at_ nofun) (Yr c j nofun)
theorem kR.lst{j i:Ge}{H g:Hp}{bk p a f d t e:Ge}{s:List Th}{r:Tl}(F:kR bk a f d t H g)(B:Ul P w j i H bk p a f d t e s r){c:Ge}{h:List V}(b:H c/.lst h)(l:c≠a)(m:c≠f)(n:c≠t):g c/.lst h:=by have(u,q):=B.ob;have(o,k,_):=B.pl.kn;exact F.keep _ _ b (Yr b q nofun) l m (Yr b k.at_ nofun) n
theorem Da:Q7 ["deeds","book"] ["deeds"] (Qo mX):=by eq_refl
theorem Q8a:(["deed","book"]:List TM).Nodup:=by decide+kernel
theorem Qnt(F:Wd K "answers" "answers" mX f0 fd)(ai:iJ K mg CB)(av:Mk K CB fI)(GI:Q3 P w K mg base Ya 3 fI fdI ["self"] (pF P w CP CB))(bI:zk K fdI ["self"] [])
  (mA:Yp K CB "answer" fA)(GA:Q3 P w K mg base Ya 63 fA fdA ["self","deed"] (oq P w CP CB))(bA:zk K fdA ["self","deed"] []):Q3 P w K mg base Ya 64 f0 fd ["deeds"] yx:=by
 refine F.ok Da (λE m r l ab=>?_) (λY Q Z s m E r l hr ab=>?_)
 .obtain⟨ad,es,G,aa,rfl,_⟩:=ab;rfl
 have(ad,es,G,aa,rfl,hl,aj,hU,aA,aB,q):=ab;have aC:Yj 4 _:=hr.mono (by lia);have nd:=Da.nd;exists _,Qc (V3 (i:=1) nd rfl (Si Xb) (pX av GI aC rfl ai.mgC bI .nil Q5))
  (Qg (Qt (Ua (te:=lX CB "answer" (oq P w CP CB) [] E0 (Uj 1) (jg (Uj 0) jB)) (own:=["deed"]) (fv:=[(1,"book")]) rfl (S:=(by eq_refl:X8 (Qo mX) _)) (.cons rfl (DW Xb) rfl .nil)
   (Yh {0}) (λ_ _ _ _ _=>Yz (i:=0) Q8a rfl (DW Xb) (Si Xb)) (λ_ _ _ _ _=>Wk) (λ_ _ _ _ _=>Zm {1} ai.cl mA GA hr bA .nil Q5 (Qa {0} Qd)))))
 intro B dx ac ay aK;have N:Za m (zj (zj m dx (.own B)) B (.ins CB dx [])):=λh L g=>Ql (Ql g (Qe g ay)) (Qe g ac);refine{B,dx,1,Qb,λp a z d t g H1 I k1 ha hf hd ht he=>{1,?_}};have R:Za m H1:=λc L j=>k1 c L (N _ _ j) (Qe j ac);have aw:=N.free ha;have az:=N.free hf;have ax:=N.free hd;have aD:=N.free ht;refine{0,ad,1,{_,Qk (R _ _ hl)},λf C=>?_};have(us,u1,_):=I.pl.th;have(ws,w1,_):=I.pl.fo;have(aL,t1,_):=I.to;have(aJ,aI,e1,_):=I.en;have ra:f≠a:=Tb (Qe u1 C);have rf:f≠z:=Tb (Qe w1 C);have M:f≠t:=Tb (Qe t1 C);have T:f≠g:=Tb (Qe e1 C);have s2:=Qf C (.lst []);have aE:⇑es=⇑G:=GJ aj;refine Of (K:=K) (a:=ad) (xs:=es) (small (by lia)) (λi D X v=>iy λ(x0:Option V)(t g:Ge)(O:List Th)=>ij (X=[x0,Ga ↑B]) (Ul P w CP CB v B p a z d t g O (after [] (G.take i))) (∀x∈O,x∈aa) (Za m v) (m t=Gq) (f≠t) (f≠g) (wg v (λc=>c=a\/c=z\/c=t\/c=f) (G.take i) D))
  {_,t,g,[],1,I.same s2,(λx e=>nomatch e),R.trans s2,aD,M,T,(λk d U o=>by simp at o)} (by rintro i D X v _ ⟨_,_,_,_,_,_,_,l,_⟩;exact Qk (l _ _ hl)) ?_ ?_
 .rintro i y D X v hi ak ⟨x0,t,g,O,rfl,u,sub,J,t0,M,T,S⟩ H;have(dd,Y,hy):=Qy aj hi;have(al,o2):=u.ob;have au:Q6 m v:=Q6.of J;refine{0,B,al,0,o2,zb _ _ _,0,B,p,a,z,d,t,g,O,_,aa,y,dd,1,u,tP hU sub aB i,hy.Qv au,aA dd (Gc Y),λU r e' ar E B3 hv ap Q Z am=>?_};have r3:=Q.lst u H ra rf M;have ag:f≠r:=Z.elim (λb=>b▸M) (λb=>Qe H b);have af:f≠e':=am.elim (λb=>b▸T) (λb=>Qe H b);have g3:Za m E:=λc L j=>Q.keep c L (J _ _ j) (Qe j ac) (Qe j aw) (Qe j az) (Qe j ax) (Qe j t0);have aq:m r=Gq:=Z.elim (λb=>b▸t0) (λb=>J.free b);have(aG,u2,_):=u.pl.th;have(aH,w2,_):=u.pl.fo;refine{r3,_,r,e',ar,1,(by rw[oX Y];exact B3.but r3 ra rf ag af),ap,λc L j=>Ql (g3 _ _ j) (Qe j (R.free C)),aq,ag,af,λk dk W o A=>?_};have ah:Q6 E (zj E f (.lst (D++[U]))):=Z2 λxs g=>by rw[r3]at g;cases g
  have ae:∀{h:Ge}{xs:List V},E h/.lst xs->¬(h=a\/h=z\/h=r\/h=f)->(zj E f (.lst (D++[U]))) h/.lst xs:=λn e=>Ql n (λb=>e (.inr (.inr (.inr b))));have an:k<i+1:=by have:=(Gg.mp o).1;rw[Db]at this;lia
  have ek:(G.take (i+1)).take k=G.take k:=by rw[Mb,FC (by lia)]
  rw[ek];rw[DR an]at o;rcases Dh k i with ao|aF
  .rw[TB (by lia)]at A;have h0:=S k dk W (by rw[DR ao];exact o) A;rw[Mb,FC (by lia)]at h0;have h1:=h0.ex (Y:=λc=>c=a\/c=z\/c=t\/c=r\/c=f) λh xs n e b=>by
    rcases b with b|b|b|b|b
    .exact e (.inl b)
    .exact e (.inr (.inl b))
    .exact e (.inr (.inr (.inl b)))
    .rcases Z with l|l
     .exact e (.inr (.inr (.inl (b.trans l))))
     .rw[b,l]at n;cases n
    .exact e (.inr (.inr (.inr b)))
   have h2:=h1.kp (Q.Qv u) λ{h xs}n e=>Q.lst u n (λb=>e (.inl b)) (λb=>e (.inr (.inl b))) (λb=>e (.inr (.inr (.inl b))));have h3:=h2.ex (Y:=λc=>c=a\/c=z\/c=r\/c=f) λh xs n e b=>by
    rcases b with b|b|b|b
    .exact e (.inl b)
    .exact e (.inr (.inl b))
    .exact e (.inr (.inr (.inr (.inl b))))
    .exact e (.inr (.inr (.inr (.inr b))))
   exact h3.kp ah ae
  .have l:k=i:=by lia
   subst l;rw[TU (by lia),ak,Hc]at A;have A:U=W:=by simpa using A
   subst A;rw[Y]at o;cases o;exact(hv.ex (Y:=λc=>c=a\/c=z\/c=r\/c=f) λh xs n e b=>by
    rcases b with b|b|b|b
    .exact e (.inl (by rw[b];exact{_,u2}))
    .exact e (.inl (by rw[b];exact{_,w2}))
    .exact e (.inr b)
    .exact e (.inl (by rw[b];exact{_,H}))).kp ah ae
 .rintro D X v ak ⟨x0,t,g,O,rfl,u,sub,J,t0,M,T,S⟩ H;rw[aE,Tw]at S;exact q f D v J (R.free C) H (by lia) λk dk W o A=>(S k dk W o A).ex λh xs n e b=>e (.inr (.inr (.inr b)))
theorem tz:Q7 ["deeds","book","deed"] ["deeds"] (Qo U6):=by eq_refl
theorem KO(F:Wd K "book_after" "book_after" U6 f0 fd)(L:iJ K mg CB)(ac:Mk K CB fI)(GI:Q3 P w K mg base Ya 3 fI fdI ["self"] (pF P w CP CB))(bI:zk K fdI ["self"] [])
  (mA:Yp K CB "answer" fA)(GA:Q3 P w K mg base Ya 63 fA fdA ["self","deed"] (oq P w CP CB))(bA:zk K fdA ["self","deed"] []):Q3 P w K mg base Ya 64 f0 fd ["deeds"] (xg P w CP CB):=by
 refine F.ok tz (λv f u j G=>?_) (λT S U s f v u j Q G=>?_)
 .obtain⟨n,D,B,z,rfl,_⟩:=G;rfl
 have(n,D,B,z,rfl,O,N,hU,ah,ai,q):=G;have aj:Yj 4 _:=Q.mono ∅;have R:=tz.nd;show∃t,Xu ?my _ t/\_;let w3:Vq ?my U6 2:={_,Qg (Qt {1})}
 let w2:Vq ?my U6 1:={_,Qc (Yb Tj rfl (Yh {0}) (Z7 2 R) (Qg (Zn (Zm {1} L.cl mA GA Q bA .nil Q5 (Qa {2} Qd))))) w3.2}
 exists _,Qc (Qz 1 R (pX ac GI aj rfl L.mgC bI .nil Q5)) w2.2;intro e C H af ap;have m:Za f (zj (zj f C (.own e)) e (.ins CB C [])):=λao o b=>Ql (Ql b (Qe b af)) (Qe b H);refine{e,C,1,Qb,λp a E d t b H1 B1 k1 ha hf hd ht he=>{1,?_}};have M:Za f H1:=λA o c=>k1 A o (m _ _ c) (Qe c H);have ad:=m.free ha;have ag:=m.free hf;have ae:=m.free hd;have ak:⇑D=⇑B:=GJ N;let al:Nat->St->Hp->Prop:=λi r g=>iy λ(J:Option V)(t b:Ge)(h:List Th)=>jn (r=[Ga ↑n,Ga ↑e,J]) (Ul P w CP CB g e p a E d t b h (after [] (B.take i))) (∀x∈h,x∈z) (Za f g) (f t=Gq)
 refine⟨_,Xb,n,Xb,{_,Qk (M _ _ O)},Yw (K:=K) (a:=n) (xs:=D) al
  {_,t,b,[],1,B1,(λx j=>nomatch j),M,m.free ht} (by rintro i r g _ ⟨_,_,_,_,_,_,_,j,_⟩;exact Qk (j _ _ O)) ?_ ?_⟩
 .rintro i y r g hi ⟨J,t,b,h,rfl,k,sub,l,I⟩;have(u,v,Y):=Qy N hi;have(U,Z):=k.ob;refine{0,e,U,0,Z,zb _ _ _,0,e,p,a,E,d,t,b,h,_,z,y,u,1,k,tP hU sub ai i,Y.Qv (Q6.of l),ah u (Gc v),λan t' W ab H3 S hv aa T X am=>?_};exact{_,t',W,ab,1,(by rw[oX v];exact S),aa,λA o c=>T.keep A o (l _ _ c) (Qe c H) (Qe c ad) (Qe c ag) (Qe c ae) (Qe c I),X.elim (λj=>j▸I) (λj=>l.free j)}
 .rintro r g ⟨J,t,b,h,rfl,k,sub,l,I⟩;rw[ak,Tw]at k;exact{0,q e p a E d t b h g l k sub}
theorem Qi7:Q7 ["deeds"] ["deeds"] (Qo Oq):=by eq_refl
theorem Qh3(F:Wd K "told_after" "told_after" Oq f0 fd)(T:iJ K mg CB)(o:Q3 P w K mg base Ya 64 fB fdB ["deeds"] (xg P w CP CB))(G:KI K fB)(u:zk K fdB ["deeds"] [])(I:MG mg "book_after" fB):Q3 P w K mg base Ya 65 f0 fd ["deeds"] ua:=by
 refine F.ok Qi7 (λj H Q E h=>?_) (λx A i s H j Q E D h=>?_)
 .obtain⟨l,n,m,U,rfl,_⟩:=h;rfl
 have(l,n,m,U,rfl,C,g,B,b,c,q):=h;exists _,Qg (Qt (Qx (Zb o D rfl I G u .nil Q5 (Qa {0} Qd)) rfl));refine{0,l,n,m,U,1,C,g,B,b,c,λv p a f d t e N r z k sub=>?_};have(y,J):=k.ob;have(j,L,M):=k.to;exact{v,CB,y,30,J,T.cl,T.told,oz _ _ _,q t j r z L M}
end
open PySem L2 Sb
structure hO(mg:TM->Option Gj):Prop where
 len:mg "len"=Gq
 min:mg "min"=Gq
 abs:mg "abs"=Gq
 list:mg "list"=Gq
 tuple:mg "tuple"=Gq
 str:mg "str"=Gq
 bool:mg "bool"=Gq
 int:mg "int"=Gq
 isinstance:mg "isinstance"=Gq
 range:mg "range"=Gq
 reversed:mg "reversed"=Gq
def vx:DQ->List DQ
 |.While _ b _ _=>b
 |_=>[]
abbrev cSt(i:Nat):DQ:=(Q9 Ud).getD i (.Pass {(0),(0),(0),(0)})
noncomputable abbrev WL:DQ:=(vx (cSt 7)).getD 1 (.Pass {(0),(0),(0),(0)})
abbrev Q65:DQ:=(vx (cSt 7)).getD 2 (.Pass {(0),(0),(0),(0)})
noncomputable abbrev cN:List TM:=["_law_told","_law_things","_law_todo","_law_word","_law_one","_law_other","_law_leaders","_law_part","_law_pairs","_law_names","_law_going","_law_k","_law_j","_law_two","_law_inner","_law_old","_law_name"]
theorem Jw:Q7 cN ["_law_told","_law_things"] (Qo Ud):=by eq_refl
theorem nd2:(["_law_part","_law_leaders"]:List TM).Nodup:=by decide+kernel
def Good(tl:Tl)(S:List Th)(a:List (Th×Th)):Prop:=∀p∈a,p.1∈S/\p.2∈S/\Cg tl p.1 p.2
def ic(tl:Tl)(S:List Th)(L:Th->Int):Prop:=∀x∈S,∀y∈S,L x=L y->Cg tl x y
def wu(S:List Th)(L a:Th->Int):Prop:=∀x∈S,∀y∈S,L x=L y->a x=a y
noncomputable abbrev s4(k l m n o p:Option V)(d:Ge)(q:Option V)(j i:Ge)(g:Bool)(a b c e f h:Option V):St:=[k,l,m,n,o,p,Ga ↑d,q,Ga ↑j,Ga ↑i,Ga (.bl g),a,b,c,e,f,h]
section
variable{P:Gn}{w:Tf}{K:Gd}{mg:TM->Option Gj}{base:Heap}{f:Ge}{cdv:Gj}{A:DS}{outer:List Bm}{s:Gy}{Hi:Hp}{E:XK}
noncomputable abbrev XC(P:Gn)(w:Tf)(K:Gd)(mg:TM->Option Gj)(base:Heap)(f:Ge)(cdv:Gj)(A:DS)(outer:List Bm)(s:Gy)(Hi:Hp)(E:XK):Cx:=(jF Ya P w K mg base cN "_law_classes" (Qo Ud) f cdv A outer s Hi E).nox
theorem Qq4(hu:(XC P w K mg base f cdv A outer s Hi E).A.units+64<ET):∃t,PS (XC P w K mg base f cdv A outer s Hi E) Q65 t/\∀(tl:Tl)(S:List Th)(l:Th->Int)(d C B:Ge)(Y nv:List V)(u:List (Th×Th))(I:Hp)(x0 x1 x2 x3 x7:Option V)
  (hN:Num P w I d S l)(af:I C/.lst Y)(ak:iw I Y u)(ai:I B/.lst nv)(aj:Zw I nv S)(hG:Good tl S u)(hS:ic tl S l)(aw:⇑S<=3000),
  Tr t
   (λσ H=>H=I/\∃F G Z aa ab ac D h,σ=s4 x0 x1 x2 x3 F G d x7 C B Gx Z aa ab ac D h)
   (λσ H=>vq λg b F G Z aa ab ac D h=>ij (σ=s4 x0 x1 x2 x3 F G d x7 C B g Z aa ab ac D h) (R7 d I H) (Num P w H d S b) (ic tl S b) (wu S l b) (∀p∈u,b p.1=b p.2) (g=Gx->∀t∈S,b t=l t) (g=Gi->∃x∈S,∃y∈S,l x≠l y/\b x=b y)):=by
 have nd:=Jw.nd;exists _,(Yb Tj rfl (Yh {8}) (V8 rfl (Zr (Z7 4 nd) (Zr (Z7 5 nd) Wp)))
  (Qc (Qz 15 nd (Qn (jd hu) {6} {4}))
  (Qg (Zc (Qp Wf {15} (Qn (jd hu) {6} {5}) (Qu _))
  (Qc (Qz 10 nd Z9)
  (Qg (Yb Tj rfl (Yh {9}) (Z7 16 nd)
  (Qg (Zc (Qp Xs (Qn (jd hu) {6} {16}) {15} (Qu _))
  (Qg (Rw (Qn (jd hu) {6} {5}) (jY {6} {16} (jZ hu)))) Qw))))) Qw))))
 intro tl S l d C B Y nv u I x0 x1 x2 x3 x7 hN af ak ai aj hG hS aw;rintro aC σ H ⟨rfl,F,G,Z,aa,ab,ac,D,h,rfl⟩ k;have(od,ae):=hN.at;have ay:C≠d:=Zt af ae (by intro a;cases a);have ap:B≠d:=Zt ai ae (by intro a;cases a);let az:Nat->St->Hp->Prop:=λi σ Q=>iW λg b F G D h=>ij (σ=s4 x0 x1 x2 x3 F G d x7 C B g Z aa ab ac D h) (R7 d H Q) (Num P w Q d S b) (ic tl S b) (wu S l b) (∀p∈u.take i,b p.1=b p.2) (g=Gx->∀t∈S,b t=l t) (g=Gi->∃x∈S,∃y∈S,l x≠l y/\b x=b y)
 refine⟨_,Xb,C,Xb,{_,Qk af},Yw (K:=K) (a:=C) (xs:=Y) az
  {Gx,l,F,G,D,h,1,R7.refl,hN,hS,λ_ _ _ _ e=>e,by simp,λ_ _ _=>rfl,λe=>by cases e} (by rintro i σ Q _ ⟨_,_,_,_,_,_,_,v,_⟩;exact Qk (v _ _ af ay)) ?_ ?_⟩
 .rintro i x σ Q hi ⟨g,b,F,G,D,h,rfl,v,R,ah,ad,dn,gf,gt⟩;ac_nf;have((O,o),eu,a',v1,v2,rfl,av,t1,t2):=Qy ak hi;have tu:Q6 H Q:=v.Qv ae (λxs a=>by cases a);have(b1,_,_,_,rfl,_,_,_):=t1.inv;have(b2,_,_,_,rfl,_,_,_):=t2.inv;have t1:=t1.Qv tu;have t2:=t2.Qv tu;have(X,M,mc):=hG (O,o) (Gc eu);intros;have tk:u.take (i+1)=u.take i++[(O,o)]:=by rw[TD,eu];rfl
  exists a',0,Qj (tu _ _ av),130301;refine{00,R.get X t1 ?_};refine{000,R.get M t2 {10,?_}};rw[Jm];refine Us (λz=>?_) (λz=>?_)
  .have z:b O≠b o:=by simpa using z
   generalize ho:b O=r at*;generalize hn:b o=n at*;have ax:∀t,mrg b r n t≠r:=λt a=>by
    unfold mrg at a;split at a
    .exact z a.symm
    .rename_i au;exact au a
   have al:mrg b r n o=n:=by unfold mrg;rw[Gs (by rw[hn];exactλa=>z a.symm)];exact hn
   have ao:=v _ _ ai ap;let aA:Nat->St->Hp->Prop:=λj σ T=>kz λL2 h=>jn (σ=s4 x0 x1 x2 x3 (Ga ↑b1) (Ga ↑b2) d x7 C B Gi Z aa ab ac (Ga (.int r)) h) (R7 d Q T) (Num P w T d S L2) (∀t∈S,L2 t=b t\/L2 t=mrg b r n t) (∀t∈S.take j,L2 t=mrg b r n t)
   refine⟨_,Xb,B,Xb,{_,Qk ao},Yw (K:=K) (a:=B) (xs:=nv) aA
    {b,0,R7.refl,R,λt _=>.inl Xb,by simp} (by rintro j σ T _ ⟨_,_,_,J,_⟩;exact Qk (J _ _ ao ap)) ?_ ?_⟩
   .rintro j y σ T hj ⟨L2,h,rfl,J,U,W,l2⟩;ac_nf;have(N,e0,m):=aj.get hj;have ag:=Gc e0;have aB:Q6 H T:=(v.trans J).Qv ae (λxs a=>by cases a);have(b0,_,_,_,rfl,_,_,_):=m.inv;intros;have m:=m.Qv aB;have aq:S.take (j+1)=S.take j++[N]:=by rw[TD,e0];rfl
    refine{00,U.get ag m {010,?_}};rw[Jm];refine Us (λL=>?_) (λL=>?_)
    .have L:L2 N=r:=by simpa using L
     have e2:L2 o=n:=by
      rcases W o M with a|a
      .rw[a,hn]
      .rw[a,al]
     have an:mrg b r n N=n:=by
      rcases W N ag with a|a
      .unfold mrg;rw[GX (by rw[<-a];exact L)]
      .exact absurd (a.symm.trans L) (ax N)
     refine{00,U.get M (t2.Qv (J.Qv R.at.choose_spec (λxs a=>by cases a))) {_,rfl,_,rfl,U.put ∅ ag m λH3 ar N3=>?_}};refine{30,J.trans ar,N3,λt ht=>?_,λt ht=>?_}
     .by_cases a:t=N
      .subst a;right;rw[GX Xb,e2,an]
      .rw[Gs a];exact W t ht
     .by_cases a:t=N
      .subst a;rw[GX Xb,e2,an]
      .rw[Gs a];rw[aq,Gh,GV]at ht;exact l2 t (ht.resolve_right a)
    .have L:L2 N≠r:=by simpa using L
     refine{30,J,U,W,λt ht=>?_};rw[aq,Gh,GV]at ht;rcases ht with ht|ht
     .exact l2 t ht
     .subst ht;rcases W t ag with a|a
      .rw[a];unfold mrg;rw[Gs (by rw[<-a];exact L)]
      .exact a
   .rintro σ T ⟨L2,h,rfl,J,U,W,l2⟩;rw[⇑aj,Tw]at l2;have q:∀x∈S,L2 x=mrg b r n x:=l2;refine{Gi,L2,320,v.trans J,U,?_,?_,?_,(λe=>by cases e),λ_=>?_}
    .intro x hx y m e;rw[q x hx,q y m]at e;rw[<-ho,<-hn]at e;exact KC X M ah mc x hx y m e
    .intro x hx y m e;rw[q x hx,q y m];exact tM (ad x hx y m e)
    .intro p c;rw[tk,Gh,GV]at c;rcases c with c|c
     .have am:=hG p (Dm c);rw[q _ am.1,q _ am.2.1];exact tM (dn p c)
     .subst c;show L2 O=L2 o;rw[q _ X,q _ M,al];unfold mrg;rw[GX ho]
    .exists O,X,o,M,λa=>z ?_
     .have:=ad O X o M a;rw[ho,hn]at this;exact this
     .rw[q _ X,q _ M,al];unfold mrg;rw[GX ho]
  .have z:b O=b o:=by simpa using z
   refine{g,b,320,v,R,ah,ad,λp c=>?_,gf,gt};rw[tk,Gh,GV]at c;rcases c with c|c
   .exact dn p c
   .subst c;exact z
 .rintro σ Q ⟨g,b,F,G,D,h,rfl,v,R,ah,ad,dn,gf,gt⟩;have e:u.take ⇑Y=u:=by rw[show ⇑Y=⇑u from GJ ak,Tw]
  rw[e]at dn;exact k _ _ {g,b,32220,v,R,ah,ad,dn,gf,gt}
end
inductive jb(L:Th->Int)(u v:Th):Prop
 |mk (w:_) (ps:_) (qs:_) (h0:u=.mk w ps) (h1:v=.mk w qs) (h2:ps.map L=qs.map L):jb L u v
theorem ZX{L:Th->Int}(b:∀w ps,Th.mk w ps∈S->∀p∈ps,p∈S)(j:ic tl S L){w:TM}{a:List Th}(g:Th.mk w ps∈S)(h:Th.mk w a∈S)(e:ps.map L=a.map L):Cg tl (.mk w ps) (.mk w a):=by
 refine .cong (i0.of (by have:=congrArg Sc e;simpa using this) λi p q d f=>?_);have c:(ps.map L)[i]?=(a.map L)[i]?:=by rw[e]
 rw[Tq,Tq,d,f]at c;exact j p (b _ _ g p (Gc d)) q (b _ _ h q (Gc f)) (T3 c)
section
variable{P:Gn}{w:Tf}{K:Gd}{mg:TM->Option Gj}{base:Heap}{f:Ge}{cdv:Gj}{A:DS}{outer:List Bm}{s:Gy}{Hi:Hp}{E:XK}
theorem Qjb(ac:hO mg)(z:(XC P w K mg base f cdv A outer s Hi E).A.units+64<ET):∃t,PS (XC P w K mg base f cdv A outer s Hi E) WL t/\∀(tl:Tl)(S:List Th)(c:Th->Int)(d b B:Ge)(pq X:List V)(J:List (Th×Th))(M:Hp)(x0 x1 x2 x3 x5 x7:Option V)
  (hN:Num P w M d S c)(af:M b/.lst pq)(ax:iw M pq J)(am:M B/.lst X)(ae:Zw M X S)(au:B≠b)(hG:Good tl S J)(hS:ic tl S c)(cl:∀w ps,Th.mk w ps∈S->∀p∈ps,p∈S)(an:∀t∈S,t.size<=3000)(aA:⇑S<=3000)(aD:⇑J<=3000),
  Tr t
   (λσ H=>H=M/\∃h L l e g R T,σ=s4 x0 x1 x2 x3 h x5 d x7 b B Gx L l e g R T)
   (λσ H=>pR λC a h L l e g R T=>jz (σ=s4 x0 x1 x2 x3 h x5 d x7 b B Gx L l e g R T) (R7 b M H) (H b/.lst C) (iw H C a) (Good tl S a) (∀p∈J,p∈a) (∀(k j:Nat)u v,j<k->S[k]?/u->S[j]?/v->jb c u v->(u,v)∈a)):=by
 have nd:=Jw.nd;exists _,(Yb Tj rfl (Vw rfl ac.range (Qa (Qm Zd rfl ac.len GY (Qa {9} Qd)) Qd)) (Z7 11 nd)
  (Qg (Yb Tj rfl (Vw rfl ac.range (Qa {11} Qd)) (Z7 12 nd)
  (Qc (Qz 4 nd (Qn Ze {9} {11}))
  (Qc (Qz 13 nd (Qn Ze {9} {12}))
  (Qg (Zc (PW.pt (Iu (Qp Xs (Qn Qs {4} Qi) (Qn Qs {13} Qi) (Qu _)) (Jn (Qp Xs (Qm Zd rfl ac.len GY (Qa {4} Qd)) (Qm Zd rfl ac.len GY (Qa {13} Qd)) (Qu _)))))
  (Qc (Uz (i:=14) (own:=["_law_part"]) (fv:=[(6,"_law_leaders")]) nd rfl rfl rfl (S:=(by eq_refl:X8 (Qo Ud) _)) (.cons rfl (DW Xb) rfl .nil) (Uy (Z3 V2 {4} (Yd Qi) Yv))
   (λ_ _ _ _ _=>Yz (i:=0) nd2 rfl (DW Xb) (Si Xb)) (λ_ _ _ _ _=>Wk) (λ_ _ _ _ _=>(Qn (r:=lG P w) (jd z) {1} {0})))
  (Qg (Zc (Qp (Jh z) {14} (Ua (own:=["_law_part"]) (fv:=[(6,"_law_leaders")]) rfl (S:=(by eq_refl:X8 (Qo Ud) _)) (.cons rfl (DW Xb) rfl .nil) (Uy (Z3 V2 {13} (Yd Qi) Yv))
   (λ_ _ _ _ _=>Yz (i:=0) nd2 rfl (DW Xb) (Si Xb)) (λ_ _ _ _ _=>Wk) (λ_ _ _ _ _=>(Qn (r:=lG P w) (jd z) {1} {0}))) (Qu _))
  (Qg (Zn (X0 Te Tv Tz Z4 {8} (Qa (Zf (Qa {4} (Qa {13} Qd))) Qd)))) Qw))) Qw)))))))
 intro tl S c d b B pq X J M x0 x1 x2 x3 x5 x7 hN af ax am ae au hG hS cl an aA aD;rintro aR σ H ⟨rfl,h,L,l,e,g,R,T,rfl⟩ kk;have(od,ar):=hN.at;have aH:d≠b:=λm=>by rw[m,af]at ar;cases ar
 have aT:=⇑ae;let aJ:Nat->St->Hp->Prop:=λi σ H1=>zl λC a h L l e g=>ij (σ=s4 x0 x1 x2 x3 h x5 d x7 b B Gx L l e g R T) (R7 b H H1) (H1 b/.lst C) (iw H1 C a) (Good tl S a) (∀p∈J,p∈a) (∀(k j:Nat)u v,k<i->j<k->S[k]?/u->S[j]?/v->jb c u v->(u,v)∈a) (⇑a<=3000+i*3000)
 refine⟨_,Xb,_,_,Xb,.inl {X,Qk am,1},_,Xb,by lia,by lia,V1 (lo:=0) (n:=((⇑X:Int)).toNat) aJ
  {pq,J,h,L,l,e,g,1,R7.refl,af,ax,hG,λ_ y=>y,λk j u v y=>by lia,by lia} ?_ ?_⟩
 .rintro i σ H1 hi ⟨ao,ap,h,L,l,e,g,rfl,q,x,G,N,O,Q,g6⟩;have hi:i<⇑S:=by lia
  let aK:Nat->St->Hp->Prop:=λj σ D=>iW λC a h l e g=>lJ (σ=s4 x0 x1 x2 x3 h x5 d x7 b B Gx (Ga (.int (0+(i:Int)))) l e g R T) (R7 b H D) (D b/.lst C) (iw D C a) (Good tl S a) (∀p∈J,p∈a) (∀(k j:Nat)u v,k<i->j<k->S[k]?/u->S[j]?/v->jb c u v->(u,v)∈a) (∀(o:Nat)u v,o<j->S[i]?/u->S[o]?/v->jb c u v->(u,v)∈a) (⇑a<=3000+i*3000+j)
  refine⟨_,Xb,_,Xb,by lia,by lia,V1 (lo:=0) (n:=((0+(i:Int))).toNat) aK
   {ao,ap,h,l,e,g,1,q,x,G,N,O,Q,λo u v y=>by lia,by lia} ?_ ?_⟩
  .rintro j σ D hj ⟨Y,ad,h,l,e,g,rfl,q,x,G,N,O,Q,g6,g7⟩;have hj:j<i:=by lia
   ac_nf;have(v1,e1,t1):=ae.at (Gf hi);have(v2,e2,t2):=ae.at (Gf (show j<⇑S by lia));intros;have tu:Q6 H D:=q.Qv af (λxs m=>by cases m);have N2:Num P w D d S c:=hN.keep (λaI y=>q _ _ y aH) tu;have ay:=q _ _ am au;have m1:S[i]∈S:=Fj _;have m2:S[j]∈S:=Fj _;have q1:S[i]?/S[i]:=Gf _;have q2:S[j]?/S[j]:=Gf _;generalize S[i]=u1 at*;generalize S[j]=u2 at*;ac_nf;have(b1,w1,aM,Z,rfl,rfl,ak,av):=(t1.Qv tu).inv;have(b2,w2,aN,ab,rfl,rfl,al,aw):=(t2.Qv tu).inv;intros;have l1:=⇑av;have l2:=⇑aw;have z1:=an _ m1;have z2:=an _ m2;simp only[Th.size]at z1 z2;have y1:=Zl Z;have y2:=Zl ab;exists 00,B,X,301,Qk ay,(by rw[Sa];exact Zk e1);exists 00,B,X,301,Qk ay,(by rw[Sa];exact Zk e2);exists 0,b1,201,Qj ak,Z6,0,b2,201,Qj al,Z6,10;rw[Zh];have aj:∀{h e g:Option V}{H3:Hp},Za D H3->¬jb c (.mk w1 Z) (.mk w2 ab)->iW λC a aQ l aO aP=>lJ (s4 x0 x1 x2 x3 h x5 d x7 b B Gx (Ga (.int (0+(i:Int)))) (Ga (.int (0+(j:Int)))) e g R T=s4 x0 x1 x2 x3 aQ x5 d x7 b B Gx (Ga (.int (0+(i:Int)))) l aO aP R T) (R7 b H H3) (H3 b/.lst C) (iw H3 C a) (Good tl S a) (∀p∈J,p∈a) (∀(k j:Nat)u v,k<i->j<k->S[k]?/u->S[j]?/v->jb c u v->(u,v)∈a) (∀(o:Nat)u v,o<j+1->S[i]?/u->S[o]?/v->jb c u v->(u,v)∈a) (⇑a<=3000+i*3000+(j+1)):=λ{h e g H3}sm no=>by
    refine{Y,ad,320,q.trans (R7.of sm),sm _ _ x,G.Qv (Q6.of sm),N,O,Q,λo u v y z W n=>?_,by lia};by_cases m:o=j
    .subst m;rw[q1]at z;rw[q2]at W;cases z;cases W;exact absurd n no
    .exact g6 o u v (by lia) z W n
   refine Us (λn=>?_) (λn=>?_)
   .have n:w1=w2:=by simpa using n
    subst n;exists 030,.inr {_,Qj ak,1},030,.inr {_,Qj al,1},10;rw[Jm];refine Us (λc2=>?_) (λc2=>?_)
    .refine{00,b1,0,Qj ak,Wj _ _,λr hr=>?_};rw[iD];have s3:=Qf hr (.tup aM);refine{r,1,{_,Qj Qb},λp F=>?_};refine Ax (K:=K) Qb (av.same s3) (cl _ _ m1) (N2.same s3) F (by lia) λH4 aL aB=>?_;have ag:Za D H4:=s3.trans aL;refine{000,b2,0,Qj (ag _ _ al),Wj _ _,λr2 aF=>?_};rw[iD];have s5:=Qf aF (.tup aN);refine{r2,1,{_,Qj Qb},λp2 aE=>?_};refine Ax (K:=K) Qb (aw.same (ag.trans s5)) (cl _ _ m2) (N2.same (ag.trans s5)) aE (by lia) λH6 s6 aC=>?_;have az:Za H4 H6:=s5.trans s6;have ah:=ag.trans az;exists .list ((Z.map c).map Eh),.list ((ab.map c).map Eh),.lst (az _ _ aB) (Ug _),.lst aC (Ug _),by simp only[Tu];exact Ue _,by simp only[Tu];exact Ue _,?_,_,Xb
     .have:=Os (Z.map c);simp only[Dp];lia
     have ev:TX (.list ((Z.map c).map Eh)) (.list ((ab.map c).map Eh))=decide (Z.map c=ab.map c):=by simp only[TX];exact rH _ _
     rw[ev];refine Us (λU=>?_) (λU=>?_)
     .have U:=Do U;refine{0,.inl {13,Qk (ah _ _ x)},00,Yy,λaa he=>?_};have s7:=Qf he (.tup [↑b1,↑b2]);have ai:=ah.trans s7;have lp:⇑Y=⇑ad:=GJ G;have ib:i*3000<=3000*3000:=Sx _ (by lia);exists b,Y,↑aa,11,ai _ _ x,(by rw[TH];lia);have aq:Q6 D (zj (zj H6 aa (.tup [↑b1,↑b2])) b (.lst (Y++[↑aa]))):=(Q6.of ai).trans (Z2 λxs m=>by rw[ai _ _ x]at m;cases m);have aG:aa≠b:=λm=>by rw[m,ah _ _ x]at he;cases he
      refine{Y++[↑aa],ad++[(.mk w1 Z,.mk w1 ab)],320,λaS aI h1 I=>by rw[Qh I];exact ai _ _ (q _ _ h1 I),Qb,?_,?_,λp F=>Gu _ (O p F),λk j u v h1 I h3 h4 h5=>Gu _ (Q k j u v h1 I h3 h4 h5),λo u v y z W n=>?_,by rw[Gk,GQ];lia}
      .refine Zs (G.Qv aq) (.cons {aa,30,by rw[Qh aG];exact Qb,(t1.Qv tu).Qv aq,(t2.Qv tu).Qv aq} .nil)
      .intro p F;rcases Gh.mp F with F|F
       .exact N p F
       .rw[GV]at F;subst F;exact{m1,m2,ZX cl hS m1 m2 U}
      .by_cases m:o=j
       .subst m;rw[q1]at z;rw[q2]at W;cases z;cases W;exact TJ _ Tc
       .exact Gu _ (g6 o u v (by lia) z W n)
     .have U:=of_decide_eq_false (Mn.mpr U);refine aj ah ?_;rintro⟨w',ps,qs,z1,z2,z3⟩;cases z1;cases z2;exact U z3
    .refine aj (λ_ _ y=>y) ?_;rintro⟨w',ps,qs,z1,z2,z3⟩;cases z1;cases z2;have:=congrArg Sc z3;simp at this;simp at c2;lia
   .refine Q4 (aj (λ_ _ y=>y) ?_);have n:¬w1=w2:=by simpa using n
    rintro⟨w',ps,qs,z1,z2,z3⟩;cases z1;cases z2;exact n rfl
  .rintro σ D ⟨Y,ad,h,l,e,g,rfl,q,x,G,N,O,Q,g6,g7⟩;refine{Y,ad,220,q,x,G,N,O,λk j u v h1 I h3 h4 h5=>?_,by lia};by_cases m:k=i
   .subst m;exact g6 j u v (by lia) h3 h4 h5
   .exact Q k j u v (by lia) I h3 h4 h5
 .rintro σ H1 ⟨ao,ap,h,L,l,e,g,rfl,q,x,G,N,O,Q,g6⟩;refine kk _ _ {ao,ap,2220,q,x,G,N,O,λk j u v h1 I h3 h4=>Q k j u v ?_ h1 I h3 h4};have:=(Gg.mp I).1;lia
theorem VF{L:Th->Int}{c:List (Th×Th)}(h:∀(k j:Nat)u v,j<k->S[k]?/u->S[j]?/v->jb L u v->(u,v)∈c)(e:∀p∈c,L p.1=L p.2):
  ∀w a b,Th.mk w a∈S->Th.mk w b∈S->a.map L=b.map L->L (.mk w a)=L (.mk w b):=by
 intro w a b i l g;have(k,f):=Dj.mp i;have(j,d):=Dj.mp l;rcases RO j k with z|z|z
 .exact e _ (h k j _ _ z f d ⟨w,a,b,Xb,Xb,g⟩)
 .subst z;rw[f]at d;cases d;rfl
 .exact(e _ (h j k _ _ z d f {w,b,a,11,g.symm})).symm
theorem XH(aC:hO mg)(hu:(XC P w K mg base f cdv A outer s Hi E).A.units+64<ET):∃t,PS (XC P w K mg base f cdv A outer s Hi E) (cSt 7) t/\∀(k:Tl)(S:List Th)(ab:Th->Int)(d n v:Ge)(pq nv:List V)(O:List (Th×Th))(x:Hp)(Q R T U W:Option V)
  (hN:Num P w x d S ab)(af:x n/.lst pq)(ap:iw x pq O)(aa:x v/.lst nv)(am:Zw x nv S)(ai:v≠n)(hG:Good k S O)(hS:ic k S ab)(Z:∀w ps,Th.mk w ps∈S->∀p∈ps,p∈S)(aq:∀t∈S,t.size<=3000)(ah:⇑S<=3000)(ao:⇑O<=3000)
  (N:∀c e,(Gi,c,e)∈k->c∈S/\e∈S/\(c,e)∈O),
  Tr t
   (λσ H=>H=x/\∃M B D F G I J L,σ=s4 Q R T U M B d W n v Gi D F G I J L)
   (λσ H=>jA λL'=>jK (σ[6]?/Ga ↑d) (∀a b,x a/b->a≠d->a≠n->H a/b) (Num P w H d S L') (Tells k S L')):=by
 have nd:=Jw.nd;ac_nf;have(t1,aH,aJ):=Qjb (P:=P) (w:=w) (K:=K) (mg:=mg) (base:=base) (f:=f) (cdv:=cdv) (A:=A) (outer:=outer) (s:=s) (Hi:=Hi) (E:=E) aC hu;have(t2,aI,aK):=Qq4 (P:=P) (w:=w) (K:=K) (mg:=mg) (base:=base) (f:=f) (cdv:=cdv) (A:=A) (outer:=outer) (s:=s) (Hi:=Hi) (E:=E) hu;intros;exists _,Wu Tj (Zz {10}) (Qc (Qz 10 nd Z9) (Qc aH (Qc aI (Qg (Qz 8 nd (Zu Qd))))));intro k S ab d n v pq nv O x Q R T U W hN af ap aa am ai hG hS Z aq ah ao N;rintro aM σ H ⟨rfl,M,B,D,F,G,I,J,L,rfl⟩ kk;have(od,ae):=hN.at;have aN:d≠n:=λh=>by rw[h,af]at ae;cases ae
 have au:v≠d:=λh=>by rw[h,ae]at aa;cases aa
 exists λar σ y=>oU λu g q C r M B D F G I J L=>rd (σ=s4 Q R T U M B d W q v u D F G I J L) (∀a b,H a/b->a≠d->a≠n->y a/b) (Num P w y d S g) (ic k S g) (y q/.lst C) (iw y C r) (Good k S r) (⇑r<=3000) (∀a b,H a/b->a≠d->a≠n->a≠q) (∀c e,(Gi,c,e)∈k->(c,e)∈r\/g c=g e) (ar=(if u=Gi then dis S g+1 else 0)) (u=Gx->iX k S g),
  {_,Gi,ab,n,pq,O,32220,λa b j _ _=>j,hN,hS,af,ap,hG,ao,(λ_ _ _ _ i=>i),λc e i=>.inl (N c e i).2.2,1,λh=>by cases h}
 rintro ar σ y ⟨u,g,q,C,r,M,B,D,F,G,I,J,L,rfl,kp,ac,ak,g1,g2,g3,g4,g5,g6,rfl,g7⟩;exists 0,u,1;cases u with
 |false=>refine Q4 (kk _ _ {g,1,kp,ac,g7 Xb,ak})
 |true=>
  refine Yo {λaB X=>∃m',m'<dis S g+1/\oU λu g q C r M B D F G I J L=>rd (aB=s4 Q R T U M B d W q v u D F G I J L) (∀a b,H a/b->a≠d->a≠n->X a/b) (Num P w X d S g) (ic k S g) (X q/.lst C) (iw X C r) (Good k S r) (⇑r<=3000) (∀a b,H a/b->a≠d->a≠n->a≠q) (∀c e,(Gi,c,e)∈k->(c,e)∈r\/g c=g e) (m'=(if u=Gi then dis S g+1 else 0)) (u=Gx->iX k S g),λaB X i=>i,?_};have av:=kp _ _ aa au ai;have aw:v≠q:=g5 _ _ aa au ai;have aL:Q6 H y:=λa xs j=>kp a _ j (λh=>by rw[h,ae]at j;cases j) (λh=>by rw[h,af]at j;cases j);have ax:=am.Qv aL;have aE:d≠q:=λh=>by have(b,ho):=ac.at;rw[h,g1]at ho;cases ho
  refine aJ k S g d q v C nv r y Q R T U B W ac g1 g2 av ax aw g3 ak Z aq ah g4 _ _ _ {412220} ?_;rintro a0 H2 ⟨aG,ay,y4,aO,aP,aQ,aR,aS,aT,rfl,ad,a1,a2,a3,a4,a5⟩;have aA:Q6 y H2:=ad.Qv g1 (λxs h=>by cases h);have N2:Num P w H2 d S g:=ac.keep (λb i=>ad _ _ i aE) aA;have aF:=ad _ _ av aw;refine aK k S g d q v aG nv ay H2 Q R T U W N2 a1 a2 aF (ax.Qv aA) a3 ak ah _ _ _ {4132220} ?_;rintro a6 H3 ⟨g',Y,z4,z5,aU,aV,aW,aX,aY,aZ,rfl,aD,N3,az,al,b1,z,b3⟩;refine{Ts _,λp l=>?_};have ag:=Qf l (.lst []);have aj:∀a b,H a/b->a≠d->a≠n->H3 a/b:=λa b j m o=>aD a b (ad a b (kp a b j m o) (g5 a b j m o)) m;have an:∀a b,H a/b->a≠d->a≠n->a≠p:=λa b j m o h=>by rw[<-h,aj a b j m o]at l;cases l
  have told:∀c e,(Gi,c,e)∈k->Y c=Y e:=λc e i=>by
   rcases g6 c e i with h|h
   .exact b1 _ (a4 _ h)
   .exact al c (N c e i).1 e (N c e i).2.1 h
  cases g' with
  |false=>
   have z:=z rfl;have e1:∀p∈ay,g p.1=g p.2:=λp l=>by rw[<-z _ (a3 p l).1,<-z _ (a3 p l).2.1];exact b1 p l
   have cg:=VF a5 e1;refine{(0),by lia,Gx,Y,p,[],[],32220,λa b j m o=>ag _ _ (aj a b j m o),N3.same ag,az,Qb,.nil,(λp l=>nomatch l),Ts _,an,λc e i=>.inr (told c e i),1,λ_=>{Z,λc e i=>{(N c e i).1,(N c e i).2.1,told c e i},λw ps qs m o j=>?_}};rw[z _ m,z _ o];refine cg w ps qs m o ?_;rw[<-TY λp l=>z p (Z _ _ m p l),<-TY λp l=>z p (Z _ _ o p l)];exact j
  |true=>have:=Q26 al (b3 Xb);exact{dis S Y+1,by lia,Gi,Y,p,[],[],32220,λa b j m o=>ag _ _ (aj a b j m o),N3.same ag,az,Qb,.nil,(λp l=>nomatch l),Ts _,an,λc e i=>.inr (told c e i),1,λh=>by cases h}
end
theorem Ir{T:List Th}(h:Zw H xs (T++[t])):∃a x,xs=a++[x]/\Zw H a T/\Z5 H x t:=by
 induction T generalizing xs with
 |nil=>
  cases h with
  |cons b c=>cases c;exact{[],0,.nil,b}
 |cons y r d=>
  cases h with
  |cons b c=>have(a,x,e,f,g):=d c;exact{_::a,x,by rw[e];rfl,.cons b f,g}
theorem Xj:∀a b:List Th,Q8 (a++b)=Q8 a+Q8 b
 |[],b=>by simp[Q8]
 |x::a,b=>by simp only[DG,Q8,Xj a b];lia
noncomputable def Rx(tl:Tl):List Th:=tl.flatMap λp=>[p.2.1,p.2.2]
theorem qd:∀a:Tl,Q8 (Rx a)=Q8 (a.map (·.2.1))+Q8 (a.map (·.2.2))
 |[]=>by simp[Rx,Q8]
 |p::r=>by have:=qd r;unfold Rx at this⊢;simp only[Ms,Tt,DG,LQ,Q8]at this⊢;lia
theorem qQ:t∈Rx tl↔∃p∈tl,t=p.2.1\/t=p.2.2:=by unfold Rx;simp[Ez]
theorem U8:∀a:List DI,Dx a []=a.isEmpty
 |[]=>by simp[Dx]
 |_::_=>by simp[Dx]
theorem AK(b:Bool):(tw b==("same":TM))=b:=by cases b<;>decide+kernel
theorem yQ(a:Tl)(i:Nat)(b:Bool)(u v:Th)(h:a[i]?/(b,u,v)):Ol (a.take (i+1))=Ol (a.take i)++(if b then[(u,v)]else[]):=by unfold Ol;rw[TD,h,SY,TZ];cases b<;>rfl
theorem YP(a:Tl):⇑(Ol a)<=⇑a:=by unfold Ol;rw[Gv];exact Ni _ _
section
variable{P:Gn}{w:Tf}{K:Gd}{mg:TM->Option Gj}{base:Heap}
theorem Qnr(F:Wd K "_law_classes" "_law_classes" Ud f fd)(aj:hO mg):Q3 P w K mg base Ya 1 f fd ["_law_told","_law_things"] (xQ P w):=by
 refine F.ok Jw (λvs B a0 E c=>?_) (λcdv A outer s B vs a0 E hr c=>?_)
 .obtain⟨a,ai,us,ar,j,L,rfl,_⟩:=c;rfl
 have(a,ai,us,ar,j,L,rfl,ha,ay,hb,a1,aQ,aP,bf,q):=c;have J:=Jw.nd;have hu:=hr.units;have(t7,a5,a6):=XH (P:=P) (w:=w) (K:=K) (mg:=mg) (base:=base) (f:=f) (cdv:=cdv) (A:=A) (outer:=outer) (s:=s) (Hi:=B) (E:=E) aj hu;exists _,(Qc (Qz 2 J (Xz Ur rfl aj.list T9 (Qa {1} Qd)))
  (Qc (Yb Tj rfl (Yh {0}) (V8 rfl (Zr (Z7 3 J) (Zr (Z7 4 J) (Zr (Z7 5 J) Wp))))
  (Qg (Qz 2 J (Zg X5 {2} (Zu (Qa {4} (Qa {5} Qd)))))))
  (Qc (V3 (i:=6) J rfl (Si Xb) Rv)
  (Qc (Wu Tj (Qp (O1 hu) {2} (Zu Qd) (Qu _))
  (Qc (Qz 7 J (jw Te Ep Er O3 {2}))
  (Qg (Zc (Qp (t9 hu) {7} {6} rfl)
  (Qc (Rw (Qm QT rfl aj.len GY (Qa {6} Qd)) (jY {6} {7} (jZ hu)))
  (Qg (Qz 2 J (Zg X5 {2} (Xz Ur rfl aj.list T9 (Qa (Z3 V2 {7} (Yd Qi) Yv) Qd)))))) Qw))))
  (Qc (Uz (i:=8) (own:=["_law_deed"]) (fv:=[]) J rfl rfl rfl (S:=(by eq_refl:X8 (Qo Ud) _)) .nil (Yh {0})
   (λ_ _ _ _ _=>Yz (i:=0) (nd1 _) rfl (DW Xb) (Si Xb)) (λ_ _ _ _ _=>m9 (Qp Xs (Qn (r:=jr K) Qs {0} Qi) Zi (Qu _))) (λ_ _ _ _ _=>Z3 (r:=uA K) V2 {0} (Yd Qi) Yv))
  (Qc (Qz 9 J (Xz (Qk8 Xb) rfl aj.list T9 (Qa {6} Qd)))
  (Qc (Qz 10 J Z9)
  (Qc a5
  (Qg (Qt {6}))))))))))
 have aR:⇑us=⇑j:=GJ ay;have bg:⇑j<=3000:=by have:=Zl (j.map (·.2.1));rw[Gv]at this;lia
 refine{0,ai,ar,1,.inl (Qk hb),λg T=>?_};have s1:=Qf T (.lst ar);let a3:Nat->St->Hp->Prop:=λi C H1=>iO λ(g:Ge)(xs:List V)(x3 x4 x5:Option V)=>jn (C=[Ga ↑a,Ga ↑ai,Ga ↑g,x3,x4,x5,Gq,Gq,Gq,Gq,Gq,Gq,Gq,Gq,Gq,Gq,Gq]) (Za B H1) (B g=Gq) (H1 g/.lst xs) (Zw H1 xs (L++Rx (j.take i)))
 refine⟨_,Xb,a,Xb,{_,Qk (s1 _ _ ha)},Yw (K:=K) (a:=a) (xs:=us) a3
  {g,ar,20,s1,T,Qb,by simp[Rx];exact a1.same s1} (by rintro i C H1 _ ⟨_,_,_,_,_,_,Y,_⟩;exact Qk (Y _ _ ha)) ?_ ?_⟩
 .rintro i x C H1 hi ⟨g,xs,x3,x4,x5,rfl,Y,T,G,H⟩;ac_nf;have((bb,u1,u2),eu,a',Z,v2,rfl,aw,t1,t2):=Qy ay hi;intros;exists a',0,Qj (Y _ _ aw),13030301;refine{000,Yy,λm M=>?_};have U:=Qf M (.lst [Z,v2]);have lx:=⇑H;have R:=Zl (L++Rx (j.take i));have b2:Q8 (L++Rx (j.take i))<=3000:=by have u:=qd (j.take i);have N:=Ih (j.map (·.2.1)) i;have Q:=Ih (j.map (·.2.2)) i;rw[MA,MA]at u;rw[Xj];lia
  refine{g,m,xs,[Z,v2],11,U _ _ G,Qb,small (by show ⇑xs+2<=_;lia),λn O=>?_};have z:=Qf O (.lst (xs++[Z,v2]));have l:=(Y.trans U).trans z;exists n,xs++[Z,v2],20,l,(Y.trans U).free O,Qb;have e:L++Rx (j.take (i+1))=(L++Rx (j.take i))++[u1,u2]:=by unfold Rx;rw[TD,eu,NC,Dq];rfl
  rw[e];exact((H.same U).same z).append (.cons (t1.same l) (.cons (t2.same l) .nil))
 rintro C H1 ⟨g,xs,x3,x4,x5,rfl,Y,T,G,H⟩;rw[aR,Tw]at H;have aN:∀t∈L++Rx j,t.ok=Gi/\t.depth<=8:=λt ht=>by
  rcases Gh.mp ht with c|c
  .exact aQ t c
  .obtain⟨p,o,e⟩:=qQ.mp c;rcases e with rfl|rfl
   .exact(aP p o).1
   .exact(aP p o).2
 have aT:Q8 (L++Rx j)<=3000:=by rw[Xj,qd];lia
 have a7:∀t∈L++Rx j,t∈L++Rx j:=λt c=>c;generalize aO:L++Rx j=T0 at H aN aT a7;intro d hd;have ax:B d=Gq:=Y.free hd;have U:=Qf hd (Uw P w d []);have ac:g≠d:=Qe G hd;exists λaS C D=>iW λ(g:Ge)(xs:List V)(k S:List Th)(v:Th->Int)(x7:Option V)=>rX (C=[Ga ↑a,Ga ↑ai,Ga ↑g,x3,x4,x5,Ga ↑d,x7,Gq,Gq,Gq,Gq,Gq,Gq,Gq,Gq,Gq]) (Za B D) (B g=Gq) (g≠d) (D g/.lst xs) (Zw D xs k) (Num P w D d S v) (∀x∈S,∀y∈S,v x=v y->x=y) (∀x∈S,v x<⇑S) (∀w h,Th.mk w h∈S->∀p∈h,p∈S\/p∈k) (∀t∈T0,t∈S\/t∈k) (∀t∈k,t.ok=Gi/\t.depth<=8) (aS=Q8 k) (⇑S+Q8 k<=3000) (∀t∈S,t.size<=3000),
  {_,g,xs,T0,[],λ_=>0,0,Y.trans U,T,ac,U _ _ G,H.same U,{{[],Qb,(λp o=>nomatch o),1,(λt ht=>nomatch ht)},(λt ht=>nomatch ht)},(λt ht=>nomatch ht),(λt ht=>nomatch ht),(λ_ _ ht=>nomatch ht),λt ht=>.inr ht,aN,1,by simpa using aT,(λt ht=>nomatch ht)}
 clear G H T ac U;rintro aS C D ⟨g,xs,k,S,v,x7,rfl,aU,T,ac,G,H,aM,az,aq,cl,W,aA,rfl,sz,aB⟩;have lx:=⇑H;have lT:=Zl k;refine{0,Ts _,λb hz=>?_};have s4:=Qf hz (.lst []);have be:g≠b:=Qe G hz;have a2:okL k=Gi:=by rw[Uq,ER];exactλt ht=>(aA t ht).1
 exists .list (X9 k),.list [],.lst (s4 _ _ G) (H.same s4).dts,.lst Qb .nil,by simp only[Tu];exact lj k a2,by simp[Tu,Gw],?_,_,Xb
 .simp only[Dp,TW];lia
 have ev:TX (.list (X9 k)) (.list [])=k.isEmpty:=by
  simp only[TX];rw[U8];cases k with
  |nil=>simp[X9]
  |cons t r=>simp[X9]
 rw[ev];rcases Sm k with rfl|⟨Tr,t,eT⟩
 ·
  refine Q4 ?_;have cl:∀w h,Th.mk w h∈S->∀p∈h,p∈S:=λw h c p o=>(cl w h c p o).resolve_right ⋯;have W:∀t∈T0,t∈S:=λt c=>(W t c).resolve_right ⋯;have Q:=aU.trans s4;have N3:=aM.same s4;generalize zj D b (.lst [])=H3 at Q N3⊢;refine{0,a,1,{_,Qk (Q _ _ ha)},λp o=>?_};have sp:=Qf o (.lst []);have aV:B p=Gq:=Q.free o;refine Rl (K:=K) (a:=a) (xs:=us) (small (by lia)) (λi R C u=>(∃x0,C=[x0])/\Za H3 u/\iw u R (Ol (j.take i))) {{40},sp,by simp[Ol];exact .nil} (by rintro i R C u _ ⟨_,l,_⟩;exact Qk (l _ _ (Q _ _ ha))) ?_ ?_
  .rintro i x R C u hi ⟨⟨x0,rfl⟩,l,gp⟩ z;ac_nf;have((bb,u1,u2),eu,a',Z,v2,rfl,aw,t1,t2):=Qy ay hi;intros;have aa:=Q.trans l;have a4:=aa _ _ aw;exists 0,a',201,Qj a4,Z6,10;rw[Zh,AK];cases bb with
   |true=>
    refine Yo ?_;refine{00,a',0,Qj a4,Wj _ _,λr hr=>?_};rw[iD];have M:=Qf hr (.tup [Z,v2]);have av:r≠p:=λb=>by rw[b,z]at hr;cases hr
    have N:Q6 u (zj (zj u r (.tup [Z,v2])) p (.lst (R++[↑r]))):=(Q6.of M).trans (Z2 λxs e=>by rw[M _ _ z]at e;cases e);exists M _ _ z,{40},λm X e=>?_
    .rw[Qh (Qe e o)];exact M _ _ (l _ _ e)
    .rw[yQ j i Gi u1 u2 eu];exact Zs (gp.Qv N) (.cons {r,Z,v2,1,by rw[Qh av];exact Qb,(t1.same aa).Qv N,(t2.same aa).Qv N} .nil)
   |false=>refine Q4 {z,{40},l,?_};rw[yQ j i Gx u1 u2 eu];simpa using gp
  .rintro R C u ⟨_,l,gp⟩ z;rw[aR,Tw]at gp;have N4:=N3.same l;have(ap,dh,lk,an):=N4.names;refine{0,d,ap,1,dh,λn O=>?_};have N:=Qf O (.lst (ap.map λp=>V.ref p.2.1));have M:∀x∈j,x.2.1∈S/\x.2.2∈S:=λx I=>by rw[<-aO]at W;exact{W _ (TJ _ (qQ.mpr {x,I,.inl Xb})),W _ (TJ _ (qQ.mpr {x,I,.inr Xb}))}
   refine a6 j S v d p n R _ (Ol j) _ _ _ _ _ _ (N4.same N) (N _ _ z) (gp.Qv (Q6.of N)) Qb (an.same N) (Tb (Qe z O)) ?_ ?_ cl aB (by lia) (by have:=YP j;lia) ?_ _ _ _ {4132220} ?_
   .rintro⟨x,y⟩ ab;have c:=yO.mp ab;exact{(M _ c).1,(M _ c).2,.told c}
   .intro x I y hy e;rw[az x I y hy e];exact .refl _
   .intro x y c;exact{(M _ c).1,(M _ c).2,yO.mpr c}
   .rintro aW H7 ⟨L7,h6,kp,N7,T7⟩;refine{_,h6,q d S L7 H7 (λm X e=>?_) ax N7 T7 (λt ht=>W t (by rw[<-aO];exact Gu _ ht)) M};exact kp m X (N _ _ (l _ _ (Q _ _ e))) (Qe e ax) (Qe e aV)
 .have eT:k=Tr++[t]:=by simpa using eT
  subst eT;have aZ:(Tr++[t]).isEmpty=Gx:=by cases Tr<;>rfl
  rw[aZ];refine Yo ?_;ac_nf;have(u,x,rfl,k1,k2):=Ir H;intros;have am:Q8 (Tr++[t])=Q8 Tr+t.size:=by rw[Xj];simp[Q8]
  rw[am]at sz;have bd:=Rj t;have(ae,ak):=aA t ⋯;exists λaF Q=>∃m',m'<Q8 (Tr++[t])/\iW λ(g:Ge)(xs:List V)(k S:List Th)(v:Th->Int)(x7:Option V)=>rX (aF=[Ga ↑a,Ga ↑ai,Ga ↑g,x3,x4,x5,Ga ↑d,x7,Gq,Gq,Gq,Gq,Gq,Gq,Gq,Gq,Gq]) (Za B Q) (B g=Gq) (g≠d) (Q g/.lst xs) (Zw Q xs k) (Num P w Q d S v) (∀x∈S,∀y∈S,v x=v y->x=y) (∀x∈S,v x<⇑S) (∀w h,Th.mk w h∈S->∀p∈h,p∈S\/p∈k) (∀t∈T0,t∈S\/t∈k) (∀t∈k,t.ok=Gi/\t.depth<=8) (m'=Q8 k) (⇑S+Q8 k<=3000) (∀t∈S,t.size<=3000),λaF Q c=>c;have aY:(u++[x])[⇑(u++[x]) - 1]?/x:=by simp
  exists 0,.inl {13,Qk (s4 _ _ G)},g,301,s4 _ _ G,aY;rw[Sz];have ad:R7 g D (zj (zj D b (.lst [])) g (.lst u)):=λm X e c=>by rw[Qh c];exact s4 _ _ e
  have l5:(zj (zj D b (.lst [])) g (.lst u)) g/.lst u:=Qb;generalize zj (zj D b (.lst [])) g (.lst u)=R at ad l5⊢;have t5:Q6 D R:=ad.Qv G (λxs e=>by cases e);have aE:Za B R:=λm X e=>ad m X (aU _ _ e) (Qe e T);have N5:Num P w R d S v:=aM.keep (λX c=>ad _ _ c (Tb ac)) t5;have k1:=k1.Qv t5;have k2:=k2.Qv t5;ac_nf;have(b0,M,N,h,rfl,rfl,aX,aC):=k2.inv;intros;refine{00,N5.Pu ae ak k2 {0,?_}};have aD:∀t∈Tr,t.ok=Gi/\t.depth<=8:=λt ht=>aA t (Gu _ ht);refine Us (λm=>?_) (λm=>?_)
  .have m:¬Th.mk M h∈S:=by simpa using m
   have(ap,dh,lk,_):=N5.names;refine{0,d,ap,1,dh,00,N5.add (by lia) m ae ak k2 λH6 aG N6=>?_};have b6:R7 d R H6:=aG;have(o5,aI):=N5.at;have ah:Q6 R H6:=b6.Qv aI (λxs e=>by cases e);have au:Za B H6:=λm X e=>b6 m X (aE _ _ e) (Qe e ax);have l6:=b6 _ _ l5 ac;have aQ:(Th.mk M h).size=Q8 h+1:=by simp only[Th.size]
   have ba:=⇑aC;have a9:=Zl h;have bc:=⇑k1;have a8:=Zl Tr;refine{000,b0,0,Qj (ah _ _ aX),Wj _ _,λr aK=>?_};rw[iD];have s7:=Qf aK (.tup N);refine{r,N,1,.inr (Qj Qb),λl2 aH=>?_};have s8:=Qf aH (.lst N);refine{g,l2,u,N,11,s8 _ _ (s7 _ _ l6),Qb,small (by lia),λn O=>?_};have s9:=Qf O (.lst (u++N));have af:=s7.trans s8;have ag:=af.trans s9;have(o6,aJ):=N6.at;have aL:∀p∈h,p.ok=Gi/\p.depth<=8:=λp o=>by
    have l:okL h=Gi:=by simp only[Th.ok,T5]at ae;exact ae.2
    rw[Uq,ER]at l;have z:=Wl o;simp only[Th.depth]at ak;exact{l p o,by lia}
   exists Q8 (Tr++h),?_,n,u++N,Tr++h,S++[Th.mk M h],30,au.trans ag,(au.trans af).free O,?_,Qb,?_,N6.same ag,?_,?_,?_,?_,?_,1,?_
   .rw[am,Xj];lia
   .exactλb=>by rw[b,af _ _ aJ]at O;cases O
   .exact((k1.Qv ah).append (aC.Qv ah)).same ag
   .intro x I y hy e;rw[Gh,GV]at I hy;by_cases l:x=Th.mk M h
    .by_cases z:y=Th.mk M h
     .rw[l,z]
     .rw[GX l,Gs z]at e;have:=aq y (hy.resolve_right z);lia
    .by_cases z:y=Th.mk M h
     .rw[Gs l,GX z]at e;have:=aq x (I.resolve_right l);lia
     .rw[Gs l,Gs z]at e;exact az x (I.resolve_right l) y (hy.resolve_right z) e
   .intro x I;rw[Gh,GV]at I;rw[Gk,GQ];by_cases l:x=Th.mk M h
    .rw[GX l];lia
    .rw[Gs l];have:=aq x (I.resolve_right l);lia
   .intro w' ao c p o;rcases Gh.mp c with c|c
    .rcases cl w' ao c p o with b|b
     .exact .inl (Gu _ b)
     .rcases Gh.mp b with b|b
      .exact .inr (Gu _ b)
      .exact .inl (TJ _ b)
    .rw[GV]at c;cases c;exact .inr (TJ _ o)
   .intro t ht;rcases W t ht with b|b
    .exact .inl (Gu _ b)
    .rcases Gh.mp b with b|b
     .exact .inr (Gu _ b)
     .exact .inl (TJ _ b)
   .intro t ht;rcases Gh.mp ht with b|b
    .exact aD t b
    .exact aL t b
   .rw[Xj,Gk,GQ];lia
   .intro t ht;rcases Gh.mp ht with b|b
    .exact aB t b
    .rw[GV]at b;rw[b];lia
  .have m:Th.mk M h∈S:=by simpa using m
   refine{Q8 Tr,by rw[am];lia,g,u,Tr,S,v,0,aE,T,ac,l5,k1,N5,az,aq,λw' ao c p o=>?_,λt ht=>?_,aD,1,by lia,aB}
   .rcases cl w' ao c p o with b|b
    .exact .inl b
    .rcases Gh.mp b with b|b
     .exact .inr b
     .rw[GV]at b;rw[b];exact .inl m
   .rcases W t ht with b|b
    .exact .inl b
    .rcases Gh.mp b with b|b
     .exact .inr b
     .rw[GV]at b;rw[b];exact .inl m
theorem VL{g:Type}{F:α->g->Prop}{f:List α}{d:List g}{p:g}(h:Df F f (d++[p])):∃a x,f=a++[x]/\Df F a d/\F x p:=by
 induction d generalizing f with
 |nil=>
  cases h with
  |cons b c=>cases c;exact{[],0,.nil,b}
 |cons y r i=>
  cases h with
  |cons b c=>have(a,x,e,j,k):=i c;exact{_::a,x,by rw[e];rfl,.cons b j,k}
theorem WO(i:Int)(a:0<=i)(a:i<26):∃c:Nat,R8 (("abcdefghijklmnopqrstuvwxyz":TM).cps.toList) i/c/\c<0x110000:=by
 have b:(("abcdefghijklmnopqrstuvwxyz":TM).cps.toList).length=26:=by decide+kernel
 have a:∀c∈(("abcdefghijklmnopqrstuvwxyz":TM).cps.toList),c<0x110000:=by decide+kernel
 have hi:i.toNat<(("abcdefghijklmnopqrstuvwxyz":TM).cps.toList).length:=by rw[b];lia
 have e:i=((i.toNat:Nat):Int):=by lia
 have q:=Zk (Gf hi);rw[<-e]at q;exact{_,q,a _ (Fj hi)}
theorem ZT{c:Nat}{x:TM}(b:c<0x110000)(h:DM x=Gi):DM ((⟨#[c]⟩:TM)++x)=Gi:=by show((#[c]++x.cps).all (·<0x110000))=Gi;have a:x.cps.all (·<0x110000)=Gi:=h;rw[Array.all_append,a];simp[b]
theorem OL{c:Nat}{x:TM}:((⟨#[c]⟩:TM)++x).length=x.length+1:=by show(#[c]++x.cps).size=x.cps.size+1;simp;lia
theorem Kz{l:Int}(b:1<=l)(h:l*2^k<=10^39):k<130:=by
 rcases Dh k 130 with a|a
 .exact a
 .exfalso;have e:(2:Int)^130<=2^k:=by
   have:(2:Nat)^130<=2^k:=Nat.pow_le_pow_right (by decide) a
   exact_mod_cast this
  have d:(2:Int)^k<=l*2^k:=by have c:(0:Int)<=2^k:=Hd (Hy (by decide));have:=Fk b c;simpa using this
  have f:(10:Int)^39<2^130:=by decide
  lia
theorem Qnp{l:Int}(a:1<=l / 26 - 1)(h:l*2^k<=10^39):(l / 26 - 1)*2^(k+1)<=10^39:=by
 have a:(0:Int)<2^k:=Hy (by decide);have e:(l / 26 - 1)*2^(k+1)=((l / 26 - 1)*2)*2^k:=by rw[Int.pow_succ];ac_rfl
 rw[e];have:(l / 26 - 1)*2<=l:=by lia
 have:=Fk this (Hd a);lia
theorem kQ:Q7 ["_law_cell","_law_left","_law_word"] ["_law_cell"] (Qo kh):=by eq_refl
theorem OS(F:Wd K "_law_any_word" "_law_any_word" kh f fd)(D:mg "abs"=Gq):Q3 P w K mg base Ya 1 f fd ["_law_cell"] xC:=by
 refine F.ok kQ (λG H Q E h=>?_) (λC A i s H G Q E R h=>?_)
 .obtain⟨n,rfl,_⟩:=h;rfl
 have(n,rfl,q):=h;show∃t,Xu ?my _ t/\_;let M:Vq ?my kh 3:={_,Qg (Qt {2})}
 let J:Vq ?my kh 2:=⟨_,Qc (Wu Tj (Qp kP {1} Qi (Qu _))
   (Qc (V3 (i:=2) kQ.nd rfl (DW Xb) (Zg Qnd (Qn xI Zi (Zg Wm {1} Qi)) {2}))
   (Qg (V3 (i:=1) kQ.nd rfl (DW Xb) (Zg Ru (Zg Wo {1} Qi) Qi))))) M.2⟩
 let I:Vq ?my kh 1:={_,Qc (V3 (i:=2) kQ.nd rfl (DW Xb) Zi) J.2}
 exists _,Qc (V3 (i:=1) kQ.nd rfl (DW Xb) (Zg Wm (Qm UM rfl D Hf (Qa {0} Qd)) (Zg vO Qi Qi))) I.2;exists 0,n,1301,{by decide,by decide,by decide},301,(by show(0:Int)<10^E2 39;decide);have y:0<=(if n<0 then -n else n) % (10:Int)^(E2 39):=DJ _ (by decide);have B:(if n<0 then -n else n) % (10:Int)^(E2 39)<10^39:=Ds _ (by decide);exists λm v e=>kz λ(l:Int)(x:TM)=>ij (v=[Ga (.int n),Ga (.int l),Ga (.str x)]) (e=H) (-1<=l) (m=(l+1).toNat) (DM x=Gi) (1<=l->l*2^⇑x<=10^39) (0<=l->⇑x<=131) (⇑x<=132),
  {_,(if n<0 then -n else n) % (10:Int)^(E2 39),"",11,Int.le_trans (by decide) y,1,by decide+kernel,λ_=>?_,λ_=>by decide+kernel,by decide+kernel}
 .have:(("":TM).length)=0:=by decide+kernel
  rw[this];generalize (if n<0 then -n else n) % (10:Int)^(E2 39)=L at B⊢;ext
 rintro m v e ⟨l,x,rfl,rfl,N,rfl,p,r,u,O⟩;exists 403010;refine Us (λc=>?_) (λc=>?_)
 .have k:0<=l:=Do c;exists λd j=>jA λb=>jK (d=[Ga (.int n),Ga (.int (l / 26 - 1)),Ga (.str b)]) (j=e) (DM b=Gi) (⇑b=⇑x+1),?_
  .rintro d j ⟨b,rfl,rfl,g,a⟩;exists _,?_,l / 26 - 1,b,11,by ext,1,g,λz=>?_,λz=>?_
   .ext
   .rw[a];exact Qnp z (r ∅)
   .rw[a];have:=Kz (k:=⇑x) (l:=l) ∅ (r ∅);ext
   .rw[a];have:=u k;ext
  .obtain⟨o,g,a⟩:=WO (l % 26) (DJ _ (by decide)) (Ds _ (by decide));exists 0301,(by show(0:Int)<26;decide),2,o,11,by decide+kernel,g,0301,?_
   .have z:(⇑(⟨#[o]⟩:TM))=1:=rfl;have:=u k;rw[TH,z];ext
   .exists 0301,{by decide,by decide},301;exact{01,ZT a p,OL}
 .exact{0,q x (by unfold Om;rw[p,Tg ∅];rfl)}
def iC(b H:Hp):List V->List DI->Prop:=Df λx d=>∃a y z,x=.ref a/\H a/.tup [y,z]/\Dt b y d/\Dt b z d
theorem iC.Qv(e:Q6 H H')(h:iC H0 H xs ds):iC H0 H' xs ds:=
 Qr h (by rintro x d ⟨a,y,z,b,c,f,g⟩;exact{a,y,z,b,e _ _ c,f,g})
def prD(d:DI):DI:=.tuple [d,d]
theorem iC.dts(g:Za H0 H)(h:iC H0 H xs ds):hF H xs (ds.map prD):=by
 unfold iC at h;induction h with
 |nil=>exact .nil
 |cons h r f=>have(a,y,z,b,c,d,e):=h;subst b;exact .cons (.tup c (.cons (d.same g) (.cons (e.same g) .nil))) f
theorem Aw:∀(a:List DI),Gw a=Gi->Gw (a.map prD)=Gi
 |[],_=>by simp[Gw]
 |d::r,h=>by simp only[Gw,T5]at h;have b:=Aw r h.2;simp[prD,Gw,Tu,h.1,b]
theorem Ov:∀(b a:List DI),Gw (b++a)=(Gw b&&Gw a)
 |[],a=>by simp[Gw]
 |x::r,a=>by simp[Gw,Ov r a,Bool.and_assoc]
theorem sZ:∀{a:List DI}{d:DI},d∈a->d.depth<=TW a
 |x::r,d,h=>by
  simp only[TW];rcases Ti.mp h with rfl|h
  .lia
  .have:=sZ h;lia
theorem wh:∀(a:List DI)(n:Nat),Z0 (a.take n)<=Z0 a
 |[],_=>by simp[Z0]
 |x::r,0=>by simp[Z0]
 |x::r,n+1=>by have:=wh r n;simp only[Ly,Z0];lia
def TT(b:Bool):String:=if b then"list"else"tuple"
theorem Q36{K:Gd}(b:Bool):Sg K (.type (TT b)) [.type "list",.type "tuple"]/Gi:=by
 cases b
 .exact K0
 .exact XO
theorem yF{K:Gd}(b:Bool):T1 K (.type (TT b)) (.type "list")/b:=by
 cases b
 .exact xE
 .exact Ou
theorem A1{K:Gd}(b:Bool):T1 K (.type (TT b)) (.type "tuple")/!b:=by
 cases b
 .exact Iv
 .exact Q4k
def iT(b:Bool)(ds:List DI):DI:=if b then .list ds else .tuple ds
theorem sC{K:Gd}{b:Bool}(h:Dt H v (iT b ds)):∃p a,v=.ref p/\(Jf K H p a\/hB K H p a)/\hF H a ds:=by
 cases b with
 |true=>
  have h:Dt H v (.list ds):=h;cases h with
  |lst e t=>exact{30,.inl (Qk e),t}
 |false=>
  have h:Dt H v (.tuple ds):=h;cases h with
  |tup e t=>exact{30,.inr (Qj e),t}
theorem zi{K:Gd}{b:Bool}(h:Dt H v (iT b ds)):Rk K H v (.type (TT b)):=by
 cases b with
 |true=>
  have h:Dt H v (.list ds):=h;cases h with
  |lst e t=>exact .lst e
 |false=>
  have h:Dt H v (.tuple ds):=h;cases h with
  |tup e t=>exact .tup e
theorem WZ(b:Bool)(is:List DI):W0 (iT b is)=Z0 is+1:=by cases b<;>simp[iT,W0]
theorem XU(b:Bool)(is:List DI):(iT b is).canLay0=Gw is:=by cases b<;>simp[iT,Tu]
theorem QH(b:Bool)(is:List DI):(iT b is).depth=TW is+1:=by cases b<;>simp[iT,Dp]
theorem Kd(d:DI)(h:d.canLay0=Gi):(∃b is,d=iT b is)\/d=.none\/(∃b,d=.bool b)\/(∃i,d=.int i)\/∃x,d=.str x:=by
 cases d with
 |none=>exact .inr (.inl Xb)
 |bool b=>exact .inr (.inr (.inl ⟨b,Xb⟩))
 |int i=>exact .inr (.inr (.inr (.inl ⟨i,Xb⟩)))
 |str x=>exact .inr (.inr (.inr (.inr ⟨x,Xb⟩)))
 |list is=>exact .inl ⟨Gi,is,Xb⟩
 |tuple is=>exact .inl ⟨Gx,is,Xb⟩
 |dict a=>simp[Tu]at h
theorem lA{K:Gd}(g:Za H H')(h:Jf K H p xs\/hB K H p xs):Jf K H' p xs\/hB K H' p xs:=by
 rcases h with h|h
 .exact .inl (g.seq h)
 .refine .inr ?_;rcases h with(h|⟨o,h⟩)|h
  .exact .inl (.inl (g _ _ h))
  .exact .inl (.inr {o,g _ _ h})
  .exact .inr h
theorem y6{K:Gd}{i:Int}{Q:VK}(h:Jf K H p xs\/hB K H p xs)(e:R8 xs i/v)(q:Q v H):rIx K ↑p (.int i) H Q:=by
 rcases h with h|h
 .exact .inl ⟨p,xs,i,v,Xb,Xb,h,e,q⟩
 .exact .inr (.inl ⟨p,xs,i,v,Xb,Xb,h,e,q⟩)
theorem mr:Q7 ["_law_found","_law_due","_law_todo","_law_one","_law_other","_law_k"] ["_law_found","_law_due"] (Qo sSo):=by eq_refl
theorem KJ(F:Wd K "_law_so" "_law_so" sSo f fd)(a:hO mg):Q3 P w K mg base Ya 1 f fd ["_law_found","_law_due"] p6:=by
 refine F.ok mr (λvs j av au X=>?_) (λaT aS aY s j vs av au hr X=>?_)
 .obtain⟨x,y,d,rfl,_⟩:=X;rfl
 have(x,y,d,rfl,hx,hy,aC,aE,az,q):=X;have hu:=hr.units;show∃t,Xu ?my _ t/\_;let aI:Subtype (Xu ?my (sub [1,0,1,0,3,0] (Q9 sSo))):={_,Qg (Zn (X0 Te Tv Tz Z4 {2} (Qa (Zf (Qa (Qn yK {3} {5}) (Qa (Qn yK {4} {5}) Qd))) Qd)))}
 let aK:Subtype (Xu ?my (sub [1,0,1,0,2] (Q9 sSo))):={_,Qc (Zc (Qp Wf (Qm Zp rfl a.len GY (Qa {3} Qd)) (Qm Zp rfl a.len GY (Qa {4} Qd)) (Qu _)) (Qg (Qt Z9)) Qw) (Qg (Yb Tj rfl (Vw rfl a.range (Qa (Qm Zp rfl a.len GY (Qa {4} Qd)) Qd)) (Yz (i:=5) mr.nd rfl (DW Xb)) aI.2))}
 let aL:Subtype (Xu ?my (sub [1,0,1,0,1] (Q9 sSo))):={_,Qc (Zc (Qp Wf (Qm Zy rfl a.isinstance Ta (Qa {3} (Qa (Z8 (v:=.ty "tuple") rfl a.tuple Dg Xb) Qd))) (Qm Zy rfl a.isinstance Ta (Qa {4} (Qa (Z8 (v:=.ty "tuple") rfl a.tuple Dg Xb) Qd))) (Qu _)) (Qg (Qt Z9)) Qw) aK.2}
 let aM:Subtype (Xu ?my (sub [1,0,1,0] (Q9 sSo))):={_,Qc (Zc (Qp Wf (Qm Zy rfl a.isinstance Ta (Qa {3} (Qa (Z8 (v:=.ty "list") rfl a.list T9 Xb) Qd))) (Qm Zy rfl a.isinstance Ta (Qa {4} (Qa (Z8 (v:=.ty "list") rfl a.list T9 Xb) Qd))) (Qu _)) (Qg (Qt Z9)) Qw) aL.2}
 let aN:Subtype (Xu ?my (sub [1,0,1,1,0,0] (Q9 sSo))):={_,Qg (Zc (PW.pt (Yu (Yi (Zz (Qm Zy rfl a.isinstance Ta (Qa {3} (Qa (Z8 (v:=.ty "str") rfl a.str EK Xb) Qd))))) (Xe (Qp Wf {3} {4} (Qu _))))) (Qg (Qt Z9)) Qw)}
 let aO:Subtype (Xu ?my (sub [1,0,1,1,0,1,0,0] (Q9 sSo))):={_,Qg (Zc (PW.pt (Yu (Yi (Zz (Qm Zy rfl a.isinstance Ta (Qa {3} (Qa (Z8 (v:=.ty "bool") rfl a.bool S0 Xb) Qd))))) (Xe (Qp Wf {3} {4} (Qu _))))) (Qg (Qt Z9)) Qw)}
 let aP:Subtype (Xu ?my (sub [1,0,1,1,0,1,0,1,0,1] (Q9 sSo))):={_,Qg (Zc (PW.pt (Yu (Yi (Zz (Qm Zy rfl a.isinstance Ta (Qa {3} (Qa (Z8 (v:=.ty "int") rfl a.int Ff Xb) Qd))))) (Yu (Zz (Qm Zy rfl a.isinstance Ta (Qa {3} (Qa (Z8 (v:=.ty "bool") rfl a.bool S0 Xb) Qd)))) (Xe (Qp Wf {3} {4} (Qu _)))))) (Qg (Qt Z9)) Qw)}
 let aQ:Subtype (Xu ?my (sub [1,0,1,1,0,1] (Q9 sSo))):={_,Qg (Zc (Zz (Qm Zy rfl a.isinstance Ta (Qa {4} (Qa (Z8 (v:=.ty "bool") rfl a.bool S0 Xb) Qd)))) aO.2 (Qg (Zc (Oz (Q2m {4})) (Qg (Zc (Oz (sF {3})) (Qg (Qt Z9)) Qw)) aP.2)))}
 let aR:Subtype (Xu ?my (sub [1,0,1] (Q9 sSo))):={_,Qg (Zc (Zz (Qm SZ rfl a.isinstance Ta (Qa {4} (Qa (Zf (Qa (Z8 (v:=.ty "list") rfl a.list T9 Xb) (Qa (Z8 (v:=.ty "tuple") rfl a.tuple Dg Xb) Qd))) Qd)))) aM.2 (Qg (Zc (Zz (Qm Zy rfl a.isinstance Ta (Qa {4} (Qa (Z8 (v:=.ty "str") rfl a.str EK Xb) Qd)))) aN.2 aQ.2)))}
 let aJ:Subtype (Xu ?my (sub [1,0] (Q9 sSo))):={_,Qc (Rw (jw Te Ep Er O3 {2}) (V8 rfl (Zr (Yz (i:=3) mr.nd rfl (DW Xb)) (Zr (Yz (i:=4) mr.nd rfl (DW Xb)) Wp)))) aR.2}
 exists _,Qc (V3 (i:=2) mr.nd rfl (DW Xb) (Zu (Qa (Zf (Qa {0} (Qa {1} Qd))) Qd))) (Qc (Wu Tj (Qp (O1 hu) {2} (Zu Qd) (Qu _)) aJ.2) (Qg (Qt Z9)));refine{00,Yy,λg he=>?_};have s1:=Qf he (.tup [x,y]);refine{Wx,λc hl=>?_};have s2:=Qf hl (.lst [↑g]);exists λaq O r=>iO λ(p:List V)(b:List DI)(L M m:Option V)=>ij (O=[Ga x,Ga y,Ga ↑c,L,M,m]) (Za j r) (r c/.lst p) (iC j r p b) (aq=Z0 b) (Gw b=Gi) (∀d∈b,d.depth<=60) (Z0 b<=1000000),
  {_,[↑g],[d],Gq,Gq,Gq,1,s1.trans s2,Qb,.cons {g,x,y,1,s2 _ _ Qb,hx,hy} .nil,1,by simp[Gw,aC],?_,by simp[Z0];exact aE}
 .intro l h;rw[GV]at h;subst h;exact az
 have am:j c=Gq:=s1.free hl;rintro aq O r ⟨p,b,L,M,m,rfl,ae,T,g2,rfl,g3,g4,g5⟩;have aX:⇑p=⇑b:=GJ g2;refine{0,Ts _,λN hz=>?_};have s4:=Qf hz (.lst []);have aU:c≠N:=Qe T hz;exists .list (b.map prD),.list [],.lst (s4 _ _ T) ((g2.Qv (Q6.of s4)).dts (ae.trans s4)),.lst Qb .nil,by simp only[Tu];exact Aw b g3,by simp[Tu,Gw],?_,_,Xb
 .simp only[Dp,TW];ext
 have ev:TX (.list (b.map prD)) (.list [])=b.isEmpty:=by simp only[TX];rw[U8];cases b<;>rfl
 rw[ev];rcases Sm b with rfl|⟨e,n,ad⟩
 .refine Q4 ?_;exact q _ (ae.trans s4)
 .have ad:b=e++[n]:=by simpa using ad
  subst ad;have aF:(e++[n]).isEmpty=Gx:=by cases e<;>rfl
  rw[aF];refine Yo ?_;have(h,xl,ex,k1,(Z,u,v,ea,e2,e3,e4)):=VL g2;subst ex ea;have ag:Z0 (e++[n])=Z0 e+W0 n:=by rw[Wt];simp[Z0]
  rw[ag]at g5;have aV:=tG n;rw[Ov]at g3;simp only[Gw,T5,SE]at g3;have(ak,af):=g3;have al:∀d∈e,d.depth<=60:=λd B=>g4 d (Gu _ B);have ay:n.depth<=60:=g4 n ⋯;have aB:(h++[V.ref Z])[⇑(h++[V.ref Z]) - 1]?/↑Z:=by simp
  have t5:Q6 r (zj (zj r N (.lst [])) c (.lst h)):=(Q6.of s4).trans (Z2 λp g=>by rw[s4 _ _ T]at g;cases g);have ab:Za j (zj (zj r N (.lst [])) c (.lst h)):=λH aG g=>by rw[Qh (Qe g am)];exact s4 _ _ (ae _ _ g)
  have l5:(zj (zj r N (.lst [])) c (.lst h)) c/.lst h:=Qb;have k1:iC j r h e:=k1;have p5:iC j (zj (zj r N (.lst [])) c (.lst h)) h e:=k1.Qv t5;exists λQ z=>∃Y,Y<Z0 (e++[n])/\iO λ(p:List V)(b:List DI)(L M m:Option V)=>ij (Q=[Ga x,Ga y,Ga ↑c,L,M,m]) (Za j z) (z c/.lst p) (iC j z p b) (Y=Z0 b) (Gw b=Gi) (∀d∈b,d.depth<=60) (Z0 b<=1000000),λQ z X=>X;exists 0,.inl {13,Qk (s4 _ _ T)},c,301,s4 _ _ T,aB,Z,0,Qj (by rw[Sz];exact t5 _ _ e2),1,u,0,v,01;rw[Sz];generalize zj (zj r N (.lst [])) c (.lst h)=H5 at*;have aa:∀{Q:St}{z:Hp}{m:Option V},Q=[Ga x,Ga y,Ga ↑c,Ga u,Ga v,m]->Za H5 z->∃Y,Y<Z0 (e++[n])/\iO λ(p:List V)(b:List DI)(L M m:Option V)=>ij (Q=[Ga x,Ga y,Ga ↑c,L,M,m]) (Za j z) (z c/.lst p) (iC j z p b) (Y=Z0 b) (Gw b=Gi) (∀d∈b,d.depth<=60) (Z0 b<=1000000):=λ{Q z m}g gs=>{Z0 e,by rw[ag];ext,h,e,32,g,ab.trans gs,gs _ _ l5,p5.Qv (Q6.of gs),1,ak,al,by ext}
  have S:Dt H5 v n:=e4.same ab;have R:Dt H5 u n:=e3.same ab;refine{0,Yy,λH hc=>?_};have D:=Qf hc (.tup [.ty "list",.ty "tuple"]);rcases Kd n af with⟨l,o,rfl⟩|rfl|⟨bb,rfl⟩|⟨i,rfl⟩|⟨xx,rfl⟩
  .obtain⟨pu,G,rfl,ap,ai⟩:=sC (K:=K) e3;have(pw,A,rfl,ah,aj):=sC (K:=K) e4;have tu:=zi (K:=K) (R.same D);have tv:=zi (K:=K) (S.same D);have lu:=⇑ai;have lw:=⇑aj;have ar:W0 (iT l o)=Z0 o+1:=WZ l o;have aW:=Jq o;have aw:Gw o=Gi:=by rw[XU]at af;exact af
   have ax:∀d∈o,d.depth<=60:=λd B=>by have I:=sZ B;rw[QH]at ay;ext
   refine{_,H,2,TT l,Gi,1,Qb,tv,Q36 l,Gi,1,Yo ?_};refine{032,l,1,tu,yF l,032,l,1,tv,yF l,10,jU rfl ?_};refine{032,!l,1,tu,A1 l,032,!l,1,tv,A1 l,10,jU rfl ?_};have ac:=ab.trans D;refine{0,pu,G,1,lA ac ap,0,pw,A,1,lA ac ah,10,jU (by rw[lu,lw]) ?_};have ao:((⇑A:Int)).toNat=⇑A:=by simp
   let aH:Nat->St->Hp->Prop:=λk O E=>kz λ(m:Option V)(C:List V)=>jK (O=[Ga x,Ga y,Ga ↑c,Ga ↑pu,Ga ↑pw,m]) (Za j E) (E c/.lst (h++C)) (iC j E (h++C) (e++o.take k))
   refine⟨_,Xb,pw,A,Xb,lA ac ah,_,Xb,by ext,by ext,V1 (lo:=0) (n:=((⇑A:Int)).toNat) aH
    {_,[],1,ac,by rw[DU];exact D _ _ l5,by rw[DU,Nw,DU];exact p5.Qv (Q6.of D)} ?_ ?_⟩
   .rintro k O E hk ⟨m,C,rfl,U,J,W⟩;rw[ao]at hk;have aA:k<⇑G:=by ext
    have eu:G[k]?/G[k]:=Gf aA;have ew:A[k]?/A[k]:=Gf hk;have(d1,f1,f2):=ai.get eu;have(d2,f3,f4):=aj.get ew;rw[f1]at f3;cases f3;have lg:⇑(h++C)=⇑(e++o.take k):=GJ W;have ln:=Jq (e++o.take k);rw[Wt]at ln;have lt:=wh o k;refine{0,.inl {13,Qk J},00,y6 (lA U ap) (by rw[Sa];exact Zk eu) ?_};refine{00,y6 (lA U ah) (by rw[Sa];exact Zk ew) ?_};refine{Yy,λI an=>?_};have s8:=Qf an (.tup [G[k],A[k]]);have aD:c≠I:=Qe J an;exists c,h++C,↑I,11,s8 _ _ J,(by rw[TH];ext);have t8:Q6 E (zj (zj E I (.tup [G[k],A[k]])) c (.lst (h++C++[↑I]))):=(Q6.of s8).trans (Z2 λp g=>by rw[s8 _ _ J]at g;cases g);exists _,C++[↑I],1,λl aG g=>?_,(by rw[Qb,Dq])
    .rw[Qh (Qe g am)];exact s8 _ _ (U _ _ g)
    .rw[TD,f1,<-Dq,<-Dq];refine EV (W.Qv t8) {I,G[k],A[k],1,?_,f2,f4};rw[Qh (Tb aD)];exact Qb
   .rintro O E ⟨m,C,rfl,U,J,W⟩;rw[ao,lw,Tw]at W;exists Z0 (e++o),?_,h++C,e++o,20,U,J,W,1,?_,?_
    .rw[ag,Wt,ar];ext
    .rw[Ov,ak,aw];rfl
    .intro d B;rcases Gh.mp B with B|B
     .exact al d B
     .exact ax d B
    .rw[Wt];rw[ar]at g5;ext
  .cases S;cases R;refine{_,H,32,Gx,1,Qb,.non,oI Q35 UA,Gx,1,Q4 ?_};refine{032,Gx,1,.non,SL,Gx,1,Q4 ?_};refine{032,Gx,1,.non,Q25,Gx,1,Q4 ?_};refine{00,Yo ?_};refine{00,Q4 ?_};exact aa rfl D
  .cases S;cases R;refine{_,H,32,Gx,1,Qb,.bl _,oI Q3u YY,Gx,1,Q4 ?_};refine{032,Gx,1,.bl _,Q3m,Gx,1,Q4 ?_};refine{032,Gi,1,.bl _,xK,Gi,1,Yo ?_};refine{032,Gi,1,.bl _,xK,Gi,1,Q4 ?_};refine{0010,jU rfl ?_};exact aa rfl D
  .cases S;cases R;refine{_,H,32,Gx,1,Qb,.int _,oI PX KP,Gx,1,Q4 ?_};refine{032,Gx,1,.int _,ZD,Gx,1,Q4 ?_};refine{032,Gx,1,.int _,Iw,Gx,1,Q4 ?_};refine{00,Q4 ?_};refine{032,Gi,1,.int _,Rh,Gi,1,Q4 ?_};refine{032,Gx,1,.int _,Iw,Gx,1,Q4 ?_};refine{0010,jU rfl ?_};exact aa rfl D
  .cases S;cases R;refine{_,H,32,Gx,1,Qb,.str _,oI WW XR,Gx,1,Q4 ?_};refine{032,Gi,1,.str _,Rf,Gi,1,Yo ?_};refine{032,Gi,1,.str _,Rf,Gi,1,Q4 ?_};refine{0010,jU rfl ?_};exact aa rfl D
theorem Iy{w:TM}{a:List V}(b:H p=Gq)(h:Zw H a ps):Z5 (zj H p (.tup (.str w::a))) ↑p (.mk w ps):=.mk Qb (h.same (Qf b _))
structure jW(t u:Th)(r:Th):Prop where
 ok:t.ok=Gi->u.ok=Gi->r.ok=Gi
 dep:r.depth<=max t.depth u.depth+1
 siz:r.size<=t.size+u.size+2
 sh:t.short=Gi->u.short=Gi->r.short=Gi
 pts:∀p∈r.parts,p=t\/p=u\/p=.mk "tab" []
theorem A2{w:TM}(hw:Om w=Gi):jW t u (.mk w [t]):={λa _=>by simp[Th.ok,okL,Om.str hw,a],by simp only[Th.depth,Vi];lia,by simp only[Th.size,Q8];lia,λa _=>by simp[Th.short,jX,Om.len hw,a],λp b=>by simp only[Th.parts,Ti,EO,FZ]at b;exact .inl b}
theorem rC{w:TM}(hw:Om w=Gi):jW t u (.mk w [t,u]):={λa b=>by simp[Th.ok,okL,Om.str hw,a,b],by simp only[Th.depth,Vi];lia,by simp only[Th.size,Q8];lia,λa b=>by simp[Th.short,jX,Om.len hw,a,b],λp c=>by simp only[Th.parts,Ti,EO,FZ]at c;exact c.elim .inl (λh=>.inr (.inl h))}
theorem Q42{w:TM}(hw:Om w=Gi)(d:Om "tab"=Gi):jW t u (.mk w [t,u,.mk "tab" []]):={λa b=>by simp[Th.ok,okL,Om.str hw,Om.str d,a,b],by have:=qO t;simp only[Th.depth,Vi];lia,by simp only[Th.size,Q8];lia,λa b=>by simp[Th.short,jX,Om.len hw,Om.len d,a,b],λp c=>by simp only[Th.parts,Ti,EO,FZ]at c;exact c}
theorem A7{w:TM}(hw:Om w=Gi):jW t u (.mk w []):={λa b=>by simp[Th.ok,okL,Om.str hw],by simp only[Th.depth,Vi];ext,by simp only[Th.size,Q8];ext,λa b=>by simp[Th.short,jX,Om.len hw],λp c=>by simp[Th.parts]at c}
inductive pZ(H:Hp)(l:Ge)(t u:Th):Prop
 |mk (vs:List V) (h0:H l/.lst vs) (h1:⇑vs=4) (h2:∀v∈vs,∃r,Z5 H v r/\jW t u r):pZ H l t u
theorem y9{r:Th}(D:Drawn ts m)(c:ts[a]?/t)(d:ts[b]?/u)(e:b<5)(R:jW t u r):Drawn (ts++[r]) (m+1):=by
 have o:a<⇑ts:=(Gg.mp c).1;have q:b<⇑ts:=(Gg.mp d).1;have n:=D.len;have cases:∀(j:Nat)s,(ts++[r])[j]?/s->ts[j]?/s\/(j=⇑ts/\s=r):=λj s e=>by
  rcases Dh j ⇑ts with h|h
  .left;rw[TB h]at e;exact e
  .right;rw[TU h]at e;have f:j - ⇑ts=0:=by have:=(Gg.mp e).1;simp at this;lia
   rw[f]at e;simp at e;exact{by lia,e.symm}
 have i:=D.dep a t c;have k:=D.dep b u d;have l:=R.dep;have v:=D.any a t c;have w:=D.tri b u d (by lia);have x:=R.siz;refine⟨by rw[Gk,GQ];lia,λs hs=>?_,λj s e=>?_,λj s e f=>?_,λj s e f=>?_,λj s e f=>?_,λj s e=>?_,λs hs=>by
   rcases Gh.mp hs with h|h
   .exact D.sh s h
   .rw[GV]at h;subst h;exact R.sh (D.sh t (Gc c)) (D.sh u (Gc d)),by rw[TB (by lia)];exact D.tab,λs hs p g=>?_⟩
 .rcases Gh.mp hs with h|h
  .exact D.ok s h
  .rw[GV]at h;subst h;exact R.ok (D.ok t (Gc c)) (D.ok u (Gc d))
 .rcases cases j s e with h|⟨rfl,rfl⟩
  .exact D.dep j s h
  .lia
 .rcases cases j s e with h|⟨rfl,rfl⟩
  .exact D.one j s h f
  .lia
 .rcases cases j s e with h|⟨rfl,rfl⟩
  .exact D.two j s h f
  .have:=D.one a t c (by lia);have:=D.one b u d (by lia);lia
 .rcases cases j s e with h|⟨rfl,rfl⟩
  .exact D.tri j s h f
  .have:=D.two a t c (by lia);have:=D.two b u d (by lia);lia
 .rcases cases j s e with h|⟨rfl,rfl⟩
  .exact D.any j s h
  .lia
 .rcases Gh.mp hs with h|h
  .exact Gu _ (D.cl s h p g)
  .rw[GV]at h;subst h;refine Gu _ ?_;rcases R.pts p g with h|h|h
   .rw[h];exact Gc c
   .rw[h];exact Gc d
   .rw[h];exact Gc D.tab
theorem Je(a:List α)(i:Int)(b:0<=i)(b:i<⇑a):∃v,R8 a i/v/\a[i.toNat]?/v:=by
 have hi:i.toNat<⇑a:=by lia
 have e:i=((i.toNat:Nat):Int):=by lia
 have q:=Zk (Gf hi);rw[<-e]at q;exact{_,q,Gf hi}
theorem z9:Q7 ["_law_cells","_law_things","_law_cell","_law_rest","_law_one","_law_other","_law_made","_law_word","_law_three"] ["_law_cells"] (Qo lE):=by eq_refl
theorem WB{k:Ge}{gd:Dn}(F:Wd K "_law_drawn_things" "_law_drawn_things" lE f fd)(ac:hO mg)(aA:Q3 P w K mg base Ya 1 k gd ["_law_cell"] xC)(kG:KI K k)(bG:zk K gd ["_law_cell"] [])(mG:MG mg "_law_any_word" k):
  Q3 P w K mg base Ya 2 f fd ["_law_cells"] (Ac K):=by
 refine F.ok z9 (λg H e d ad=>?_) (λn h v s H g e d hr ad=>?_)
 .obtain⟨a,ns,rfl,_⟩:=ad;rfl
 have(a,ns,rfl,hS,aO,q):=ad;have l:=z9.nd;show∃t,Xu ?my _ t/\_;let w3:Vq ?my lE 2:={_,Qg (Qt {1})}
 let w2:Vq ?my lE 1:=⟨_,Qc (Yb Tj rfl (Yh {0}) (Z7 2 l)
   (Qc (Qz 3 l (Zg Wo {2} Qi))
   (Qc (Qz 4 l (Qn Ze {1} (Zg Wm {3} (Qm Zp rfl ac.len GY (Qa {1} Qd)))))
   (Qc (Qz 5 l (Qn Ze {1} (Zg Wm (Zg Wo {3} Qi) (Qm (UJ Xb) rfl ac.min Hg (Qa Qi (Qa (Qm Zp rfl ac.len GY (Qa {1} Qd)) Qd))))))
   (Qc (Qz 6 l (Zu (Qa (Zf (Qa Zi (Qa {4} Qd))) (Qa (Zf (Qa Zi (Qa {4} (Qa {5} Qd)))) (Qa (Zf (Qa Zi (Qa {4} (Qa {5} Qd)))) (Qa (Zf (Qa Zi Qd)) Qd))))))
   (Qc (Zc (Qp Xs (Zg Wm {2} Qi) Qi (Qu _))
    (Qc (Qz 7 l (Qn Ze (Zu (Qa (Zb aA hr rfl mG kG bG .nil Q5 (Qa (Zg Wo {2} Qi) Qd)) (Qa Zi Qd))) (Zg Wm (Zg Wo {2} Qi) Qi)))
    (Qc (Qz 8 l (Zf (Qa {7} (Qa {4} (Qa {5} (Qa (Zf (Qa Zi Qd)) Qd))))))
    (Qg (Qz 6 l (Zu (Qa (Zf (Qa {7} (Qa {4} Qd))) (Qa (Zf (Qa {7} (Qa {4} (Qa {5} Qd)))) (Qa {8} (Qa (Zf (Qa {7} Qd)) Qd)))))))))
    Qw)
   (Qg (Zn (X0 Te Tv Tz Z4 {1} (Qa (Qn Ze {6} (Zg Wm {2} Qi)) Qd)))))))))) w3.2⟩
 exists _,Qc (Qz 1 l (Zu (Qa (Zf (Qa Zi Qd)) (Qa (Zf (Qa Zi Qd)) (Qa (Zf (Qa Zi Qd)) Qd))))) w2.2;have aL:Om ("sab":TM)=Gi:=by decide+kernel
 have az:Om ("tab":TM)=Gi:=by decide+kernel
 have aN:Om ("sob":TM)=Gi:=by decide+kernel
 have aM:Om ("sat":TM)=Gi:=by decide+kernel
 have ak:Om ("fig":TM)=Gi:=by decide+kernel
 have aC:Om ("fog":TM)=Gi:=by decide+kernel
 have aI:Om ("hog":TM)=Gi:=by decide+kernel
 refine{Wx,λp1 h1=>{Wx,λp2 h2=>{Wx,λp3 h3=>{Vk,λp hp=>?_}}}};have s1:=Qf h1 (.tup [.str "sab"]);have s2:=Qf h2 (.tup [.str "tab"]);have W:=Qf h3 (.tup [.str "sob"]);have s4:=Qf hp (.lst [↑p1,↑p2,↑p3]);have ae:H p=Gq:=((s1.trans s2).trans W).free hp;have i1:Z5 _ ↑p1 (.mk "sab" []):=(Iy (w:="sab") h1 .nil).same ((s2.trans W).trans s4);have i2:Z5 _ ↑p2 (.mk "tab" []):=(Iy (w:="tab") h2 .nil).same (W.trans s4);have i3:Z5 _ ↑p3 (.mk "sob" []):=(Iy (w:="sob") h3 .nil).same s4;let aK:Nat->St->Hp->Prop:=λi ab m=>pR λ(b:List V)(z:List Th)(x2 x3 x4 x5 x6 x7 x8:Option V)=>jn (ab=[Ga ↑a,Ga ↑p,x2,x3,x4,x5,x6,x7,x8]) (Za H m) (m p/.lst b) (Zw m b z) (Drawn z i)
 refine⟨_,Xb,a,Xb,{_,(((s1.trans s2).trans W).trans s4).seq hS},Yw (K:=K) (a:=a) (xs:=ns.map V.int) aK
  {22220,((s1.trans s2).trans W).trans s4,Qb,.cons i1 (.cons i2 (.cons i3 .nil)),?_} (by rintro i ab m _ ⟨_,_,_,_,_,_,_,_,_,_,k,_⟩;exact k.seq hS) ?_ ?_⟩
 .refine{1,λt ht=>?_,λj t c=>?_,λj t c _=>?_,λj t c _=>?_,λj t c _=>?_,λj t c=>?_,λt ht=>by simp at ht;rcases ht with rfl|rfl|rfl<;>decide+kernel,rfl,λt ht p hp=>?_}
  .simp at ht;rcases ht with rfl|rfl|rfl
   .simp[Th.ok,okL,Om.str aL]
   .simp[Th.ok,okL,Om.str az]
   .simp[Th.ok,okL,Om.str aN]
  rotate_right
  .simp at ht;rcases ht with rfl|rfl|rfl<;>simp[Th.parts]at hp
  all_goals
   have M:=Gc c;simp at M;rcases M with rfl|rfl|rfl<;>simp[Th.depth,Vi,Th.size,Q8]
 .rintro i y ab m hi ⟨b,z,x2,x3,x4,x5,x6,x7,x8,rfl,k,r,u,A⟩;obtain⟨n,rfl⟩:∃aj,y=V.int aj:=by
   rw[Tq]at hi;cases c:ns[i]? with
   |none=>rw[c]at hi;cases hi
   |some aj=>rw[c]at hi;exact{aj,(T3 hi).symm}
  have aF:i<⇑(ns.map V.int):=(Gg.mp hi).1;rw[Gv]at aF;have lu:=⇑u;have ld:=A.len;have hL:(⇑b:Int)=3+i:=by ext
  exists 0301,{by decide,by decide};have(e,a1,b1):=Je b (n / 4 % (⇑b:Int)) (DJ _ ∅) (Ds _ ∅);exists 000,p,b,1,.inl (Qk r),301,(by show(0:Int)<⇑b;ext),p,b,_,e,11,Qk r,a1;have D:(if(⇑b:Int)<5 then(⇑b:Int)else 5)<=⇑b/\0<(if(⇑b:Int)<5 then(⇑b:Int)else 5)/\(if(⇑b:Int)<5 then(⇑b:Int)else 5)<=5:=by split<;>ext
  have(h,a2,b2):=Je b (n / 4 / 5 % (if(⇑b:Int)<5 then(⇑b:Int)else 5)) (DJ _ ∅) (Int.lt_of_lt_of_le (Ds _ D.2.1) D.1);have ay:(n / 4 / 5 % (if(⇑b:Int)<5 then(⇑b:Int)else 5)).toNat<5:=by have h1:=Ds (n / 4 / 5) D.2.1;have h2:=DJ (n / 4 / 5) (Int.ne_of_gt D.2.1);have h3:=D.2.2;ext
  exists 00301,{by decide,by decide},0,p,b,1,.inl (Qk r),(5),0301,D.2.1,p,b,_,h,11,Qk r,a2;have(t1,c1,E):=u.get b1;have(t2,c2,k2):=u.get b2;refine{0,Yy,λq1 am=>{00,Vk,λq2 an=>{00,Vk,λq3 ao=>{Wx,λq4 ap=>{nE,λah hl=>?_}}}}};have B:=Qf am (.tup [.str "fig",e]);have I:=Qf an (.tup [.str "fog",e,h]);have e3:=Qf ao (.tup [.str "fig",e,h]);have J:=Qf ap (.tup [.str "sat"]);have C:=Qf hl (.lst [↑q1,↑q2,↑q3,↑q4]);have Z:=(((B.trans I).trans e3).trans J).trans C;have m1:=(Iy (w:="fig") am (.one E)).same (((I.trans e3).trans J).trans C);have m2:=(Iy (w:="fog") an (.cons (E.same B) (.one (k2.same B)))).same ((e3.trans J).trans C);have m3:=(Iy (w:="fig") ao (.cons (E.same (B.trans I)) (.one (k2.same (B.trans I))))).same (J.trans C);have m4:=(Iy (w:="sat") ap .nil).same C;generalize al:zj (zj (zj (zj (zj m q1 (.tup [.str "fig",e])) q2 (.tup [.str "fog",e,h])) q3 (.tup [.str "fig",e,h])) q4 (.tup [.str "sat"])) ah (.lst [↑q1,↑q2,↑q3,↑q4])=X at*;have aD:pZ X ah t1 t2:=by
   refine{_,by rw[<-al];exact Qb,1,λg N=>?_};simp at N;rcases N with rfl|rfl|rfl|rfl
   .exact{_,m1,A2 ak}
   .exact{_,m2,rC aC}
   .exact{_,m3,rC ak}
   .exact{_,m4,A7 aM}
  clear m1 m2 m3 m4 al B I e3 J C;exists 0301,(by show(0:Int)<9;decide),10;refine Us (λ_=>?_) (λ_=>?_)
  .refine{0301,{by decide,by decide},0,λx hx=>{Yy,λl2 aG=>?_}};have d1:=Qf aG (.lst [.str x,.str "hog"]);have(wv,a3,b3):=Je [V.str x,V.str "hog"] (n / 36 % 2) (DJ _ (by decide)) (Ds _ (by decide));have aJ:∃d,wv=.str d/\Om d=Gi:=by
    have M:=Gc b3;simp at M;rcases M with rfl|rfl
    .exact{0,hx}
    .exact{0,aI}
   have(d,rfl,aa):=aJ;exists 0301,{by decide,by decide},301,(by show(0:Int)<2;decide),l2,201,Qk Qb,a3;refine{000,Wx,λT aw=>{nE,λU ax=>?_}};have d2:=Qf aw (.tup [.str "tab"]);have d3:=Qf ax (.tup [.str d,e,h,↑T]);refine{00,Yy,λO aq=>{000,Vk,λQ ar=>{00,Wx,λS au=>{nE,λl3 aH=>?_}}}};have d4:=Qf aq (.tup [.str d,e]);have d5:=Qf ar (.tup [.str d,e,h]);have Y:=Qf au (.tup [.str d]);have G:=Qf aH (.lst [↑O,↑Q,↑U,↑S]);have aP:=d1;have z2:=Z.trans d1;have z3:=z2.trans d2;have z4:=z3.trans d3;have z5:=z4.trans d4;have z6:=z5.trans d5;have tb:=(Iy (w:="tab") aw .nil);have n1:=(Iy (w:=d) ax (.cons (E.same z3) (.cons (k2.same z3) (.one tb)))).same (((d4.trans d5).trans Y).trans G);have n2:=(Iy (w:=d) aq (.one (E.same z4))).same ((d5.trans Y).trans G);have n3:=(Iy (w:=d) ar (.cons (E.same z5) (.one (k2.same z5)))).same (Y.trans G);have n4:=(Iy (w:=d) au .nil).same G;have zz:=(z6.trans Y).trans G;have up:=@Qb (zj (zj (zj (zj (zj (zj X l2 (.lst [.str x,.str "hog"])) T (.tup [.str "tab"])) U (.tup [.str d,e,h,↑T])) O (.tup [.str d,e])) Q (.tup [.str d,e,h])) S (.tup [.str d])) l3 (.lst [↑O,↑Q,↑U,↑S]);generalize zj (zj (zj (zj (zj (zj (zj X l2 (.lst [.str x,.str "hog"])) T (.tup [.str "tab"])) U (.tup [.str d,e,h,↑T])) O (.tup [.str d,e])) Q (.tup [.str d,e,h])) S (.tup [.str d])) l3 (.lst [↑O,↑Q,↑U,↑S])=H4 at*;have aE:pZ H4 l3 t1 t2:=by
    refine{_,up,1,λg N=>?_};simp at N;rcases N with rfl|rfl|rfl|rfl
    .exact{_,n2,A2 aa}
    .exact{_,n3,rC aa}
    .exact{_,n1,Q42 aa az}
    .exact{_,n4,A7 aa}
   have(L,hf,lf,af):=aE;have(g,av,bv):=Je L (n % 4) (DJ _ (by decide)) (by rw[lf];exact Ds _ (by decide));have(ai,ag,R):=af g (Gc bv);have v:=zz _ _ r;exists 0,.inl {13,Qk v},00301,(by show(0:Int)<4;decide),l3,L,_,g,11,Qk hf,av,p,b,g,11,v,(by rw[TH];ext);have tu:=Z2 (H:=H4) (a:=p) (o:=.lst (b++[g])) λxs c=>by rw[v]at c;cases c
   refine{b++[g],z++[ai],2220,λaB o c=>?_,Qb,((u.same zz).append (.one ag)).Qv tu,y9 A c1 c2 ay R};rw[Qh (Qe c ae)];exact zz _ _ (k _ _ c)
  .skip
   have(L,hf,lf,af):=aD;have(g,av,bv):=Je L (n % 4) (DJ _ (by decide)) (by rw[lf];exact Ds _ (by decide));have(ai,ag,R):=af g (Gc bv);have v:=Z _ _ r;exists 0,.inl {13,Qk v},00301,(by show(0:Int)<4;decide),ah,L,_,g,11,Qk hf,av,p,b,g,11,v,(by rw[TH];ext);have tu:=Z2 (H:=X) (a:=p) (o:=.lst (b++[g])) λxs c=>by rw[v]at c;cases c
   refine{b++[g],z++[ai],2220,λaB o c=>?_,Qb,((u.same Z).append (.one ag)).Qv tu,y9 A c1 c2 ay R};rw[Qh (Qe c ae)];exact Z _ _ (k _ _ c)
 .rintro ab m ⟨b,z,x2,x3,x4,x5,x6,x7,x8,rfl,k,r,u,A⟩;rw[Gv]at A;exact{0,q p b z m k ae r u A}
theorem YA(b:Bool):(tw b==("unlike":TM))= !b:=by cases b<;>decide+kernel
theorem uj:Q7 ["_law_told","_law_deed","_law_every","_law_leaders","_law_word","_law_one","_law_other"] ["_law_told","_law_deed"] (Qo q9):=by eq_refl
theorem Po{M:Dn}(F:Wd K "_law_barred" "_law_barred" q9 f fd)
  (GC:Q3 P w K mg base Ya 1 fC M ["_law_told","_law_things"] (xQ P w))(kC:KI K fC)(bC:zk K M ["_law_told","_law_things"] [])(mC:MG mg "_law_classes" fC):
  Q3 P w K mg base Ya 2 f fd ["_law_told","_law_deed"] qf:=by
 refine F.ok uj (λA I k j b=>?_) (λD B N s I A k j R b=>?_)
 .obtain⟨a,c,e,d,v1,v2,h,x,y,rfl,_⟩:=b;rfl
 have(a,c,e,d,v1,v2,h,x,y,rfl,ha,T,he,E,G,kx,ky,ae,ak,q):=b;have m:=uj.nd;have S:=R.units;exists _,(Qc (Qz 2 m (Zg X5 {0} (Zu (Qa {1} Qd))))
  (Qc (Qz 3 m (Zb GC R rfl mC kC bC .nil Q5 (Qa {2} (Qa (Zu Qd) Qd))))
  (Qc (Yb Tj rfl (Yh {2}) (V8 rfl (Zr (Z7 4 m) (Zr (Z7 5 m) (Zr (Z7 6 m) Wp))))
  (Qg (Zc (PW.pt (Iu (Qp Xs {4} Zi (Qu _)) (Jn (Qp Xs (Qn (jd S) {3} {5}) (Qn (jd S) {3} {6}) (Qu _)))))
  (Qg (Qt Z9)) Qw)))
  (Qg (Qt Z9)))))
 have am:⇑e=⇑d:=GJ T;have al:⇑d<=3000:=by have:=Zl (d.map (·.2.1));rw[Gv]at this;ext
 refine{00,Wx,λag hl=>?_};have X:=Qf hl (.lst [↑c]);refine{a,ag,e,[↑c],11,X _ _ ha,Qb,small (by show ⇑e+1<=_;ext),λn hn=>?_};have s4:=Qf hn (.lst (e++[↑c]));refine{0,Ts _,λv hz=>?_};have Y:=Qf hz (.lst []);have Z:=(X.trans s4).trans Y;have ad:Q8 ([]:List Th)+Q8 ((d++[(h,x,y)]).map (·.2.1))+Q8 ((d++[(h,x,y)]).map (·.2.2))<=3000:=by rw[TZ,TZ,Xj,Xj];simp only[Tt,L6,Q8];ext
 have H:Uk I (e++[↑c]) (d++[(h,x,y)]):=Zs T (.cons ⟨c,v1,v2,Xb,he,E,G⟩ .nil);have ah:⇑(e++[V.ref c])=⇑(d++[(h,x,y)]):=GJ H;have Q:=Y _ _ (@Qb _ n (.lst (e++[↑c])));have ac:∀p∈d++[(h,x,y)],(p.2.1.ok=Gi/\p.2.1.depth<=8)/\p.2.2.ok=Gi/\p.2.2.depth<=8:=by
  intro p j;rcases Gh.mp j with j|j
  .exact ae p j
  .rw[GV]at j;subst j;exact⟨kx,ky⟩
 generalize e++[V.ref c]=aa at*;generalize d++[(h,x,y)]=r at*;refine{n,v,aa,[],r,[],1,Q,H.Qv (Q6.of Z),Qb,.nil,(λt ht=>nomatch ht),ac,ad,λd2 S2 L2 H2 O aj J L _ af=>?_};have o:=Z.trans O;have W:=O _ _ Q;let ai:Nat->St->Hp->Prop:=λi C z=>lB (z=H2) (∃x4 x5 x6,C=[Ga ↑a,Ga ↑c,Ga ↑n,Ga ↑d2,x4,x5,x6]) (∀u g,(Gx,u,g)∈r.take i->¬Cg r u g)
 refine⟨_,Xb,n,Xb,{_,Qk W},Yw (K:=K) (a:=n) (xs:=aa) ai
  {1,{420},by simp} (by rintro i C z _ ⟨c,_⟩;exact Qk (by rw[c];exact W)) ?_ ?_⟩
 .rintro i p C z hi ⟨rfl,⟨x4,x5,x6,rfl⟩,l⟩;ac_nf;have((D,A,B),N,a',w1,w2,rfl,ab,t1,t2):=Qy H hi;have(c1,_,_,_,rfl,_,_,_):=t1.inv;have(c2,_,_,_,rfl,_,_,_):=t2.inv;intros;have U:=Gc N;have j:=af (D,A,B) U;have tk:r.take (i+1)=r.take i++[(D,A,B)]:=by rw[TD,N];rfl
  exists a',0,Qj (o _ _ ab),13030301;exists 4010;rw[Zh,YA];cases D with
  |true=>
   refine Q4 (Q4 {1,{420},λu g b=>?_});rw[tk,Gh,GV]at b;rcases b with b|b
   .exact l u g b
   .cases b
  |false=>
   refine Yo ?_;refine{00,J.get j.1 (t1.same o) {00,J.get j.2 (t2.same o) {10,?_}}};rw[Jm];refine Us (λk=>?_) (λk=>?_)
   .have k:L2 A=L2 B:=by simpa using k
    exact q Gi _ o {λ_=>{A,B,U,(L.iff j.1 j.2).mp k},λ_=>rfl}
   .refine{1,{420},λu g b=>?_};rw[tk,Gh,GV]at b;rcases b with b|b
    .exact l u g b
    .cases b;intro v;have:=(L.iff j.1 j.2).mpr v;simp[this]at k
 .rintro C z ⟨rfl,_,l⟩;rw[ah,Tw]at l;exact q Gx _ o {λv=>by(cases v),(by rintro⟨u,g,E,G⟩;exact absurd G (l u g E))}
theorem zS:Q7 ["_law_cell","_law_size"] ["_law_cell"] (Qo o9):=by eq_refl
theorem Q4i(F:Wd K "_law_any" "_law_any" o9 f fd):Q3 P w K mg base Ya 1 f fd ["_law_cell"] zF:=by
 refine F.ok zS (λj H Q E h=>?_) (λd A a s H j Q E k h=>?_)
 .obtain⟨n,rfl,_⟩:=h;rfl
 have(n,rfl,q):=h;have i:=zS.nd;exists _,(Qc (Qz 1 i (Zg Wm (Zg Wo {0} Qi) (Zg vO Qi Qi)))
  (Qg (Qt (Zg yV {1} (Qn Ze (Zu (Qa Qi (Qa (Jz V4 Qi) Qd))) (Zg Wm {0} Qi))))))
 exists 0301,{by decide,by decide},301,{by decide,by decide,by decide},301,(by show(0:Int)<10^E2 59;decide);refine{00,Yy,λl b=>?_};have(v,e,g):=Je [V.int 1,V.int (-1)] (n % 2) (DJ _ (by decide)) (Ds _ (by decide));have c:=Gc g;simp only[Ti,EO,FZ]at c;exists 0301,(by show(0:Int)<2;decide),l,2,v,11,Qk Qb,e;rcases c with rfl|rfl
 .exact{301,.inr {by decide,by decide},q _ _ (Qf b _)}
 .exact{301,.inr {by decide,by decide},q _ _ (Qf b _)}
theorem tZ:Q7 ["_law_cells","_law_things","_law_deeds","_law_k","_law_rest","_law_one","_law_other","_law_way","_law_odd"] ["_law_cells","_law_things"] (Qo pV):=by eq_refl
theorem Qvr{dA:Dn}(F:Wd K "_law_drawn_deeds" "_law_drawn_deeds" pV f fd)(S:hO mg)
  (GA:Q3 P w K mg base Ya 1 fA dA ["_law_cell"] zF)(kA:KI K fA)(bA:zk K dA ["_law_cell"] [])(mA:MG mg "_law_any" fA):
  Q3 P w K mg base Ya 2 f fd ["_law_cells","_law_things"] (xT K):=by
 refine F.ok tZ (λe T b a h=>?_) (λn m o s T e b a hr h=>?_)
 .obtain⟨u,z,E,l,J,rfl,_⟩:=h;rfl
 have(u,z,E,l,J,rfl,X,am,hb,ab,ao,an,q):=h;have v:=tZ.nd;have aq:=⇑ab;exists _,(Qc (Qz 2 v (Zu Qd))
  (Qc (Yb Tj rfl (Vw rfl S.range (Qa (Qm Zd rfl S.len GY (Qa {0} Qd)) Qd)) (Z7 3 v)
  (Qc (Qz 4 v (Zg Wo (Qn Ze {0} {3}) Qi))
  (Qc (Qz 5 v (Qn Ze {1} (Zg Wm (Zg Vf {4} {3}) (Qm Zd rfl S.len GY (Qa {1} Qd)))))
  (Qc (Qz 6 v (Qn Ze {1} (Zg Wm (Zg Vf (Zg Vf (Zg Wo {4} Qi) (Zg yV Qi {3})) Qi) (Qm Zd rfl S.len GY (Qa {1} Qd)))))
  (Qc (Qz 7 v (Zg Wm (Qn Ze {0} {3}) Qi))
  (Qg (Zc (Qp Vh {7} Qi (Qu _))
  (Qg (Zn (X0 Te Tv Tz Z4 {2} (Qa (Zf (Qa Zi (Qa {5} (Qa {6} Qd)))) Qd)))) (Qg (Zc (Qp Vh {7} Qi (Qu _))
  (Qg (Zn (X0 Te Tv Tz Z4 {2} (Qa (Zf (Qa Zi (Qa {5} (Qa {6} Qd)))) Qd)))) (Qg (Zc (Qp Vh {7} Qi (Qu _))
  (Qg (Zn (X0 Te Tv Tz Z4 {2} (Qa (Zf (Qa Zi (Qa {5} (Qa {6} Qd)))) Qd)))) (Qc (Qz 8 v (Zb GA hr rfl mA kA bA .nil Q5 (Qa (Qn Ze {0} {3}) Qd)))
  (Qg (Zn (X0 Te Tv Tz Z4 {2} (Qa (Zf (Qa Zi (Qa (Qn Ze (Zu (Qa (Zg Wm {4} Qi) (Qa Qi (Qa (Jz V4 Qi) (Qa {8} Qd))))) (Zg Wm (Zg Wo {4} Qi) Qi)) Qd))) Qd))))))))))))))))
  (Qg (Qt {2}))))
 refine{Ts _,λp hp=>?_};have s1:=Qf hp (.lst []);let al:Nat->St->Hp->Prop:=λi ae j=>qb λ(c:List V)(k:List Dd)(L M N O Q R:Option V)=>mj (ae=[Ga ↑u,Ga ↑z,Ga ↑p,L,M,N,O,Q,R]) (Za T j) (j p/.lst c) (Vt j c k) (⇑k=i) (∀d∈k,d.fits J)
 refine⟨_,Xb,_,_,Xb,.inl {_,s1.seq X,1},_,Xb,by lia,by rw[Gv];lia,V1 (lo:=0) (n:=((⇑(E.map V.int):Int)).toNat) al
  {[],[],3220,s1,Qb,.nil,1,λd D=>nomatch D} ?_ ?_⟩
 .rintro i ae j hi ⟨c,k,L,M,N,O,Q,R,rfl,t,g,W,g3,g4⟩;have hi:i<⇑E:=by rw[Gv]at hi;lia
  have ap:⇑c=⇑k:=GJ W;generalize hc:E[i]=r;have ec:R8 (E.map V.int) (0+(i:Int))/.int r:=by rw[Sa];refine Zk ?_;rw[Tq,Gf hi,hc];rfl
  have Z:(0:Int)<⇑l:=by lia
  have(m,a1,f1):=Je l ((r / 10+(0+(i:Int))) % ⇑l) (DJ _ (by lia)) (Ds _ Z);have(n,a2,f2):=Je l ((r / 10 / 7+2*(0+(i:Int))+1) % ⇑l) (DJ _ (by lia)) (Ds _ Z);have(H,e1,i1):=ab.get f1;have(I,e2,i2):=ab.get f2;have A:=Gc e1;have B:=Gc e2;have Y:=t _ _ hb;exists 00,u,201,t.seq X,ec,301,{by decide,by decide};exists 000301030,.inl {l,Qk Y,1},301,Z,z,l,_,m,11,Qk Y,a1;exists 00301,{by decide,by decide},0301,.inl {by decide,by decide},301301030,.inl {l,Qk Y,1},301,Z,z,l,_,n,11,Qk Y,a2;exists 00,u,201,t.seq X,ec,301,(by show(0:Int)<10;decide);have U:∀{o:Hp}{a:Ge}{y:List V}{d:Dd}{ai:Option V},Za j o->o a=Gq->d.fits J->iF (zj (zj o a (.tup y)) p (.lst (c++[↑a]))) ↑a d->
    qb λ(ag:List V)(k:List Dd)(L M N O Q R:Option V)=>mj ([Ga (V.ref u),Ga ↑z,Ga ↑p,Ga (.int (0+(i:Int))),Ga (.int (r / 10)),Ga m,Ga n,Ga (.int (r % 10)),ai]=[Ga ↑u,Ga ↑z,Ga ↑p,L,M,N,O,Q,R]) (Za T (zj (zj o a (.tup y)) p (.lst (c++[↑a])))) ((zj (zj o a (.tup y)) p (.lst (c++[↑a]))) p/.lst ag) (Vt (zj (zj o a (.tup y)) p (.lst (c++[↑a]))) ag k) (⇑k=i+1) (∀d∈k,d.fits J):=by
   intro o a y d ai G b hf D;have s4:=Qf b (.tup y);have p4:=s4 _ _ (G _ _ g);have C:Q6 j (zj (zj o a (.tup y)) p (.lst (c++[↑a]))):=((Q6.of G).trans (Q6.of s4)).trans (Z2 λys e=>by rw[p4]at e;cases e);refine{c++[↑a],k++[d],3220,λq ar hq=>?_,Qb,Zs (W.Qv C) (.cons D .nil),by rw[Gk,GQ,g3],λd' aj=>?_}
   .rw[Qh (Qe hq hp)];exact s4 _ _ (G _ _ (t _ _ hq))
   .rcases Gh.mp aj with e|e
    .exact g4 d' e
    .rw[GV]at e;rw[e];exact hf
  have ad:∀{x:TM}{a:Ge}{d:Dd},j a=Gq->d.fits J->(d=.ask H I/\x="ask"\/∃bb,d=.tell bb H I/\x=tw bb)->iF (zj (zj j a (.tup [.str x,m,n])) p (.lst (c++[↑a]))) ↑a d:=by
   intro x a d b hf D;have s4:=Qf b (.tup [.str x,m,n]);have p4:=s4 _ _ g;have aa:a≠p:=λe=>by rw[e,g]at b;cases b
   have C:Q6 T (zj (zj j a (.tup [.str x,m,n])) p (.lst (c++[↑a]))):=((Q6.of t).trans (Q6.of s4)).trans (Z2 λys e=>by rw[p4]at e;cases e);have af:(zj (zj j a (.tup [.str x,m,n])) p (.lst (c++[↑a]))) a/.tup [.str x,m,n]:=by rw[Qh aa];exact Qb
   rcases D with⟨rfl,rfl⟩|⟨bb,rfl,rfl⟩
   .exact{a,m,n,1,af,i1.Qv C,i2.Qv C}
   .exact{a,m,n,1,af,i1.Qv C,i2.Qv C}
  exists 403010;refine Us (λc1=>?_) (λc1=>?_)
  .refine{0,.inl {13,Qk g},00,Vk,λa b=>?_};exists p,c,↑a,11,Qf b _ _ _ g,(by rw[TH];lia);exact U (d:=.tell Gi H I) (λ_ _ h=>h) b ⟨A,B⟩ (ad b ⟨A,B⟩ (.inr ⟨Gi,Xb,Xb⟩))
  exists 403010;refine Us (λc2=>?_) (λc2=>?_)
  .refine{0,.inl {13,Qk g},00,Vk,λa b=>?_};exists p,c,↑a,11,Qf b _ _ _ g,(by rw[TH];lia);exact U (d:=.tell Gx H I) (λ_ _ h=>h) b ⟨A,B⟩ (ad b ⟨A,B⟩ (.inr ⟨Gx,Xb,Xb⟩))
  exists 403010;refine Us (λc3=>?_) (λc3=>?_)
  .refine{0,.inl {13,Qk g},00,Vk,λa b=>?_};exists p,c,↑a,11,Qf b _ _ _ g,(by rw[TH];lia);exact U (d:=.ask H I) (λ_ _ h=>h) b ⟨A,B⟩ (ad b ⟨A,B⟩ (.inl ⟨Xb,Xb⟩))
  refine{00,u,201,t.seq X,ec,0,λah H2 s2=>?_};refine{0,.inl {13,Qk (s2 _ _ g)},0301,(by show(0:Int)<4;decide),00,nE,λak hl=>?_};have G:=Qf hl (.lst [.int (r / 10 % 4),.int 0,.int (-1),.int ah]);have(v3,a3,f3):=Je [V.int (r / 10 % 4),.int 0,.int (-1),.int ah] (r / 10 / 4 % 4) (DJ _ (by decide)) (Ds _ (by decide));have hv:=Gc f3;obtain⟨e,rfl⟩:∃e,v3=V.int e:=by simp only[Ti,EO,FZ]at hv;rcases hv with h|h|h|h<;>exact⟨_,h⟩
  refine{0301,{by decide,by decide},301,(by show(0:Int)<4;decide),ak,2,.int e,11,Qk Qb,a3,Yy,λa b=>?_};have ac:=s2.trans G;have aa:a≠p:=λe=>by rw[e,ac _ _ g]at b;cases b
  exists p,c,↑a,11,Qf b _ _ _ (ac _ _ g),(by rw[TH];lia);exact U (d:=.back e) ac b Ea {a,1,by rw[Qh aa];exact Qb}
 .rintro ae j ⟨c,k,L,M,N,O,Q,R,rfl,t,g,W,g3,g4⟩;refine{0,q p c k j t hp g W ?_ g4};rw[g3,Gv];lia
inductive yr(K:Gd)(vs:List V)(H:Hp)(Q:VK):Prop
 |mk (v:V) (t:Gj) (b1:Bool) (b2:Bool) (h0:vs=[v]) (h1:Rk K H v t) (h2:T1 K t (.type "int")/b1) (h3:T1 K t (.type "bool")/b2) (h4:Q (.bl (b1&&!b2)) H):yr K vs H Q
def lR(K:Gd):Sp:=λa H Q _=>yr K a H Q
inductive yq(K:Gd)(vs:List V)(H:Hp)(Q:VK):Prop
 |mk (a:Ge) (ns:List Int) (k:Nat) (h0:vs=[↑a,.int (k:Int)]) (h1:Jf K H a (ns.map V.int)) (h2:∀m:Int,Q (.int m) H):yq K vs H Q
def va(K:Gd):Sp:=λa H Q _=>yq K a H Q
inductive xY(vs:List V)(H:Hp)(Q:VK):Prop
 |mk (a:Ge) (es:List V) (dl:List Dd) (h0:vs=[↑a]) (h1:H a/.lst es) (h2:Vt H es dl) (h3:(∀d∈dl,d.good)) (h4:⇑dl<=10) (h5:∀(r:Ge)(rs:List V)(H':Hp),Za H H'->H r=Gq->H' r/.lst rs->Uk H' rs (after [] dl)->Q ↑r H'):xY vs H Q
def sY:Sp:=λa H Q _=>xY a H Q
theorem yi(b:Bool):(tw b==("ask":TM))=Gx:=by cases b<;>decide+kernel
theorem FB(b:Bool):(tw b==("back":TM))=Gx:=by cases b<;>decide+kernel
theorem wY:(("ask":TM)=="ask")=Gi:=by decide+kernel
theorem OI:(("ask":TM)=="back")=Gx:=by decide+kernel
theorem PN:(("back":TM)=="ask")=Gx:=by decide+kernel
theorem Av:(("back":TM)=="back")=Gi:=by decide+kernel
theorem Qu1(a:List V)(i:Int)(b:0<=i):U2 a Gq (Ga i)=a.take i.toNat:=by obtain⟨k,rfl⟩:∃k:Nat,i=(k:Int):={i.toNat,by lia};unfold U2;rw[HT.Ro,HT.Im];simp
theorem J0(n:Nat)(h:Uk H xs tl):Uk H (xs.take n) (tl.take n):=by
 unfold Uk at h⊢;induction h generalizing n with
 |nil=>cases n<;>exact .nil
 |cons h r a=>
  cases n with
  |zero=>exact .nil
  |succ n=>exact .cons h (a n)
theorem uy:Q7 ["_law_found"] ["_law_found"] (Qo qi):=by eq_refl
theorem VC(F:Wd K "_law_whole" "_law_whole" qi f fd)(B:hO mg):Q3 P w K mg base Ya 1 f fd ["_law_found"] (lR K):=by
 refine F.ok uy (λi H Q E h=>?_) (λd A c s H i Q E j h=>?_)
 .obtain⟨v,t,a,b,rfl,_⟩:=h;rfl
 have(v,t,a,b,rfl,ht,e,g,q):=h;have k:=uy.nd;exists _,(Qg (Qt (lO (Qm Zy rfl B.isinstance Ta (Qa {0} (Qa (Z8 (v:=.ty "int") rfl B.int Ff Xb) Qd))) (jR (K1 (Qm Zy rfl B.isinstance Ta (Qa {0} (Qa (Z8 (v:=.ty "bool") rfl B.bool S0 Xb) Qd))))))));exists 032,a,1,ht,e,a,1;cases a with
 |false=>exact Q4 q
 |true=>exact Yo {032,b,1,ht,g,b,1,q}
theorem yc:Q7 ["_law_script","_law_k"] ["_law_script","_law_k"] (Qo sAt):=by eq_refl
theorem Pe(F:Wd K "_law_at" "_law_at" sAt f fd)(B:hO mg):Q3 P w K mg base Ya 1 f fd ["_law_script","_law_k"] (va K):=by
 refine F.ok yc (λi H Q E h=>?_) (λg A d s H i Q E j h=>?_)
 .obtain⟨a,b,k,rfl,_⟩:=h;rfl
 have(a,b,k,rfl,e,q):=h;have l:=yc.nd;exists _,(Qc (Zc (Qp Vh {1} (Qm Zd rfl B.len GY (Qa {0} Qd)) (Qu _))
  (Qg (Qt (Qn Ze {0} {1}))) Qw)
  (Qg (Qt Qi)))
 exists 0030,.inl {_,e,1},3010;refine Us (λc=>?_) (λc=>q 0);have c:k<⇑b:=by have:=Do c;rw[Gv]at this;ext
 refine{00,a,2,.int b[k],11,e,Zk ?_,q _};rw[Tq,Gf c];rfl
theorem vu:Q7 ["_law_deeds","_law_told","_law_deed"] ["_law_deeds"] (Qo j9):=by eq_refl
theorem ZO{J:Ge}{X:Dn}(F:Wd K "_law_after" "_law_after" j9 f fd)(af:hO mg)
  (GZ:Q3 P w K mg base Ya 2 J X ["_law_told","_law_deed"] qf)(kZ:KI K J)(bZ:zk K X ["_law_told","_law_deed"] [])(mZ:MG mg "_law_barred" J):
  Q3 P w K mg base Ya 3 f fd ["_law_deeds"] sY:=by
 refine F.ok vu (λm H j e C=>?_) (λr o v s H m j e hr C=>?_)
 .obtain⟨a,I,B,rfl,_⟩:=C;rfl
 have(a,I,B,rfl,ha,ab,aa,am,q):=C;have Q:=vu.nd;show∃t,Xu ?my _ t/\_;let ai:Subtype (Xu ?my (sub [1,0,0,0] (Q9 j9))):={_,Qg (Zc (uM j7 j7 Qi (Qn Qs {2} Qi) (Qm Zd rfl af.len GY (Qa {1} Qd))) (Qg (Qz 1 Q (Z3 Wn {1} Yv (Yd (Qn Qs {2} Qi))))) Qw)}
 let aj:Subtype (Xu ?my (sub [1,0,0,1] (Q9 j9))):={_,Qg (Zc (PW.pt (Iu (Qp Wf (Qn Qs {2} Qi) Zi (Qu _)) (Jn (Yi (Zz (Zb GZ hr rfl mZ kZ bZ .nil Q5 (Qa {1} (Qa {2} Qd)))))))) (Qg (Zn (X0 Te Tv Tz Z4 {1} (Qa {2} Qd)))) Qw)}
 let ak:Vq ?my j9 1:={_,Qc (Yb Tj rfl (Yh {0}) (Z7 2 Q) (Qg (Zc (Qp Xs (Qn Qs {2} Qi) Zi (Qu _)) ai.2 aj.2))) (Qg (Qt {1}))}
 exists _,Qc (Qz 1 Q (Zu Qd)) ak.2;refine{Ts _,λl0 ac=>?_};have s1:=Qf ac (.lst []);have ag:⇑I=⇑B:=GJ ab;refine⟨_,Xb,a,Xb,{_,Qk (s1 _ _ ha)},Yw (K:=K) (a:=a) (xs:=I) (λk G u=>∃(c:Ge)(b:List V)(W:Option V),G=[Ga ↑a,Ga ↑c,W]/\Za H u/\H c=Gq/\u c/.lst b/\Uk u b (after [] (B.take k)))
  {l0,[],Gq,1,s1,ac,Qb,by simp[after];exact .nil} (by rintro k G u _ ⟨_,_,_,_,h,_⟩;exact Qk (h _ _ ha)) ?_ ?_⟩
 .rintro k x G u hk ⟨c,b,W,rfl,h,z,g,l⟩;have(d,Y,N):=Qy ab hk;have O:=N.Qv (Q6.of h);have Z:=aa d (Gc Y);have E:iu (after [] (B.take k)):=O5 (λp D=>nomatch D) λd N=>aa d (Dm N);have ad:=Jy (ds:=B.take k) (tl:=[]);rw[Db]at ad;simp only[S8]at ad;rw[oX Y];generalize after [] (B.take k)=tl at*;have ae:⇑b=⇑tl:=GJ l;have sz:=vw E;have ah:∀p∈tl,(p.2.1.ok=Gi/\p.2.1.depth<=8)/\p.2.2.ok=Gi/\p.2.2.depth<=8:=λp D=>{{(E p D).1.1,(E p D).1.2.1},(E p D).2.1,(E p D).2.2.1};cases d with
  |tell v x y=>
   have(e,T,U,rfl,m,R,S):=O;have L:=Z.1;have M:=Z.2;have zx:=L.2.2;have zy:=M.2.2;exists 0,e,201,Qj m,Z6,10;rw[Zh,FB];refine Q4 ?_;exists 0,e,201,Qj m,Z6,10;rw[Zh,yi];refine Yo ?_;refine{00,c,e,b,tl,T,U,v,x,y,1,g,l,m,R,S,{L.1,L.2.1},{M.1,M.2.1},ah,by ext,λrr H2 o hb=>{rr,1,?_}};cases rr with
   |true=>
    refine Q4 ?_;have r:Uo tl (.tell v x y)=(tl,.str "clash"):=by simp only[Uo];rw[GX (hb.mp Xb)]
    rw[r];exact{c,b,0,h.trans o,z,o _ _ g,l.Qv (Q6.of o)}
   |false=>
    refine Yo ?_;have nb:¬Xq (tl++[(v,x,y)]):=λj=>TC (hb.mpr j);have r:Uo tl (.tell v x y)=(tl++[(v,x,y)],.int ((⇑tl:Int)+1)):=by simp only[Uo];rw[Gs nb]
    rw[r];exists 0,.inl {13,Qk (o _ _ g)},0,c,b,01,o _ _ g,(by rw[TH];ext);have A:Q6 u (zj H2 c (.lst (b++[↑e]))):=(Q6.of o).trans (Z2 λxs j=>by rw[o _ _ g]at j;cases j);exact{c,b++[↑e],0,λal an C=>by rw[Qh (Qe C z)];exact o _ _ (h _ _ C),z,Qb,Zs (l.Qv A) (.cons {e,T,U,1,A _ _ m,R.Qv A,S.Qv A} .nil)}
  |ask x y=>have(e,T,U,rfl,m,R,S):=O;exists 0,e,201,Qj m,Z6,10;rw[Zh,OI];refine Q4 ?_;exists 0,e,201,Qj m,Z6,10;rw[Zh,wY];refine Q4 (Q4 ?_);exact{c,b,0,h,z,g,l}
  |back i=>
   have(e,rfl,m):=O;exists 0,e,201,Qj m,Z6,10;rw[Zh,Av];refine Yo ?_;exists 0,e,201,Qj m,Xt,3010;refine Us (λv=>?_) (λv=>?_)
   .have v:0<=i:=Do v;exists 030,.inl {_,Qk g,1},3010;refine Us (λA=>?_) (λA=>?_)
    .have A:i<=(⇑b:Int):=Do A;have r:Uo tl (.back i)=(tl.take i.toNat,.int ((⇑tl:Int) - i)):=by simp only[Uo];rw[GX {v,by rw[<-ae];exact A}]
     rw[r];refine{00,e,201,Qj m,Xt,0,c,0,Qk g,λn L=>?_};rw[Qu1 b i v];have o:=Qf L (.lst (b.take i.toNat));exact{n,30,h.trans o,h.free L,Qb,J0 _ (l.Qv (Q6.of o))}
    .have A:¬i<=(⇑b:Int):=λj=>A (Tg j);have r:Uo tl (.back i)=(tl,.str "no moment"):=by simp only[Uo];rw[Gs (λj=>A (by rw[ae];exact j.2))]
     rw[r];exact{c,b,0,h,z,g,l}
   .have v:¬0<=i:=λj=>v (Tg j);have r:Uo tl (.back i)=(tl,.str "no moment"):=by simp only[Uo];rw[Gs (λj=>v j.1)]
    rw[r];exact{Gx,1,Q4 {c,b,0,h,z,g,l}}
 .rintro G u ⟨c,b,W,rfl,h,z,g,l⟩;rw[ag,Tw]at l;exact{0,q c b u h z g l}
inductive vV(vs:List V)(H:Hp)(Q:VK):Prop
 |mk (v:V) (t:Th) (h0:vs=[v]) (h1:Z5 H v t) (h2:t.good) (h3:∀H':Hp,Za H H'->Q (.bl Gi) H'):vV vs H Q
def uY:Sp:=λa H Q _=>vV a H Q
theorem Qrh{w:TM}(h:(Th.mk w ps).good):∀p∈ps,p.good:=λp a=>by have(c,d,e):=h;simp only[Th.ok,Th.depth,Th.size,T5]at c d e;have b:=c.2;rw[Uq,ER]at b;have:=Wl a;have:=v8 a;exact{b p a,by ext,by ext}
theorem vG:Q7 ["_law_found","_law_todo","_law_part"] ["_law_found"] (Qo Rq):=by eq_refl
theorem Kq(F:Wd K "_law_is_thing" "_law_is_thing" Rq f fd)(j:hO mg):Q3 P w K mg base Ya 1 f fd ["_law_found"] uY:=by
 refine F.ok vG (λvs k af ae e=>?_) (λaq ap az s k vs af ae hr e=>?_)
 .obtain⟨v,t,rfl,_⟩:=e;rfl
 have(v,t,rfl,hv,O,q):=e;have I:=vG.nd;have m:=hr.units;show∃t,Xu ?my _ t/\_;let an:Subtype (Xu ?my (sub [1,0,1] (Q9 Rq))):={_,Qc (Zc (PW.pt (Yu (Yi (Zz (Qm Zy rfl j.isinstance Ta (Qa {2} (Qa (Z8 (v:=.ty "tuple") rfl j.tuple Dg Xb) Qd))))) (Yu (Qp Xs (Qm Zd rfl j.len GY (Qa {2} Qd)) Qi (Qu _)) (Xe (Yi (Zz (Qm Zy rfl j.isinstance Ta (Qa (Qn Qs {2} Qi) (Qa (Z8 (v:=.ty "str") rfl j.str EK Xb) Qd))))))))) (Qg (Qt Z9)) Qw) (Qg (Qz 1 I (Zg X5 {1} (Xz Ur rfl j.list T9 (Qa (Z3 V2 {2} (Yd Qi) Yv) Qd)))))}
 let ao:Vq ?my Rq 1:={_,Qc (Wu Tj (Qp (O1 m) {1} (Zu Qd) (Qu _)) (Qc (Qz 2 I (jw Te Ep Er O3 {1})) an.2)) (Qg (Qt Z9))}
 exists _,Qc (Qz 1 I (Zu (Qa {0} Qd))) ao.2;have am:=O.2.2;refine{0,Wx,λb o=>?_};have J:=Qf o (.lst [v]);exists λU ac c=>iy λ(b:Ge)(h:List V)(a:List Th)(B:Option V)=>ij (ac=[Ga v,Ga ↑b,B]) (Za k c) (k b=Gq) (c b/.lst h) (Zw c h a) (∀u∈a,u.good) (U=Q8 a) (Q8 a<=100),
  {_,b,[v],[t],Gq,1,J,o,Qb,.one (hv.same J),λu m=>by rw[GV]at m;subst m;exact O,1,by simp[Q8];exact am}
 clear J o;rintro U ac c ⟨b,h,a,B,rfl,sm,o,y,C,G,rfl,sz⟩;have lx:=⇑C;have lT:=Zl a;refine{0,Ts _,λi hz=>?_};have s4:=Qf hz (.lst []);exists .list (X9 a),.list [],.lst (s4 _ _ y) (C.same s4).dts,.lst Qb .nil,by simp only[Tu];exact lj a (by rw[Uq,ER];exactλu m=>(G u m).1),by simp[Tu,Gw],?_,_,Xb
 .simp only[Dp,TW];ext
 have ev:TX (.list (X9 a)) (.list [])=a.isEmpty:=by
  simp only[TX];rw[U8];cases a with
  |nil=>simp[X9]
  |cons t Y=>simp[X9]
 rw[ev];rcases Sm a with rfl|⟨Tr,u,E⟩
 .exact Q4 (q _ (sm.trans s4))
 .have E:a=Tr++[u]:=by simpa using E
  subst E;have ai:(Tr++[u]).isEmpty=Gx:=by cases Tr<;>rfl
  rw[ai];refine Yo ?_;ac_nf;have(d,x,rfl,A,H):=Ir C;intros;have S:Q8 (Tr++[u])=Q8 Tr+u.size:=by rw[Xj];simp[Q8]
  rw[S]at sz;have ar:=Rj u;have al:=G u ⋯;exists λad r=>∃W,W<Q8 (Tr++[u])/\iy λ(b:Ge)(h:List V)(a:List Th)(B:Option V)=>ij (ad=[Ga v,Ga ↑b,B]) (Za k r) (k b=Gq) (r b/.lst h) (Zw r h a) (∀u∈a,u.good) (W=Q8 a) (Q8 a<=100),λad r e=>e;have ah:(d++[x])[⇑(d++[x]) - 1]?/x:=by simp
  exists 0,.inl {13,Qk (s4 _ _ y)},b,301,s4 _ _ y,ah;rw[Sz];have D:R7 b c (zj (zj c i (.lst [])) b (.lst d)):=λN X l e=>by rw[Qh e];exact s4 _ _ l
  have T:(zj (zj c i (.lst [])) b (.lst d)) b/.lst d:=Qb;generalize zj (zj c i (.lst [])) b (.lst d)=L at D T⊢;have t5:Q6 c L:=D.Qv y (λh l=>by cases l);have ab:Za k L:=λN X l=>D N X (sm _ _ l) (Qe l o);have A:=A.Qv t5;have H:=H.Qv t5;ac_nf;have(M,wd,g,p,rfl,rfl,z,R):=H.inv;intros;have ax:=⇑R;have aw:=Zl p;have ay:=⇑A;have av:=Zl Tr;have au:(Th.mk wd p).size=Q8 p+1:=by simp only[Th.size]
  refine{032,Gi,1,.tup z,Iv,Gi,1,Q4 ?_};exists 030,.inr {_,Qj z,1},10;rw[Jm];rw[show(((⇑(V.str wd::g):Nat):Int)==0)=Gx by simp;ext];refine Q4 ?_;refine{0,M,201,Qj z,Z6,32,Gi,1,.str _,Rf,Gi,1,Q4 ?_};refine{000,M,0,Qj z,Wj _ _,λY aj=>?_};rw[iD];have s7:=Qf aj (.tup g);refine{Y,g,1,.inr (Qj Qb),λl2 ag=>?_};have s8:=Qf ag (.lst g);refine{b,l2,d,g,11,s8 _ _ (s7 _ _ T),Qb,small ∅,λn Q=>?_};have s9:=Qf Q (.lst (d++g));have Z:=s7.trans s8;have aa:=Z.trans s9;refine{Q8 (Tr++p),by rw[S,Xj];ext,n,d++g,Tr++p,0,ab.trans aa,(ab.trans Z).free Q,Qb,(A.append R).same aa,λu' ak=>?_,1,by rw[Xj];ext};rcases Gh.mp ak with i|i
  .exact G u' (Gu _ i)
  .exact Qrh al u' i
end
end K06
namespace Sb
open PySem PySem.Spec PyProof.Rows L2
noncomputable def rn(w:TM):TM:=if w="sab"then"tab"else if w="tab"then"x"else if w="sob"then"sab"else if w="sat"then"sob"else if w="fig"then"fog"else if w="fog"then"hog"else("q":TM)++w++"q"
def unq(w:TM):TM:=⟨w.cps.extract 1 (w.cps.size - 1)⟩
noncomputable def un(w:TM):TM:=if w="tab"then"sab"else if w="x"then"tab"else if w="sab"then"sob"else if w="sob"then"sat"else if w="fog"then"fig"else if w="hog"then"fog"else unq w
end Sb
namespace L2
open PySem PySem.Spec PyProof.Rows
theorem Oe(a:List V)(k:Nat):U2 a Gq (Ga (k:Int))=a.take k:=by unfold U2;rw[HT.Ro,HT.Im];simp
theorem vA(a:List V)(k:Nat)(h:k<⇑a):¬(HT.Va ⇑a 0 Gq=0/\HT.Va ⇑a ⇑a (Ga (k:Int))=⇑a):=by rw[HT.Im];rintro⟨_,b⟩;ext
theorem UO{c:Type}{a:List c}{v:c}(h:a[⇑a - 1]?/v):R8 a (-1)/v:=by
 rcases Sm a with rfl|⟨b,u,e⟩
 .simp at h
 .have e:a=b++[u]:=by simpa using e
  subst e;have:u=v:=by simpa using h
  rw[this];exact YX b v
end L2
namespace Sb
open PySem PySem.Spec PyProof.Rows L2
theorem ZJ{a:List Th}{e:Tl}{d:Dd}(h:∀p∈e,p.2.1∈a/\p.2.2∈a)(g:d.fits a):∀p∈(Uo e d).1,p.2.1∈a/\p.2.2∈a:=by
 cases d with
 |ask x y=>exact h
 |back i=>
  simp only[Uo];split
  .exactλp c=>h p (Dm c)
  .exact h
 |tell b x y=>
  simp only[Uo];split
  .exact h
  .intro p c;rcases Gh.mp c with z|z
   .exact h p z
   .rw[GV]at z;subst z;exact g
theorem yD{a:List Th}:∀{ds:List Dd}{tl:Tl},(∀p∈tl,p.2.1∈a/\p.2.2∈a)->(∀d∈ds,d.fits a)->∀p∈after tl ds,p.2.1∈a/\p.2.2∈a
 |[],_,h,_=>h
 |d::ds,tl,h,g=>by have:=yD (ds:=ds) (tl:=(Uo tl d).1) (ZJ h (g d Tc)) λe b=>g e (Gr _ b);simp only[after];exact this
theorem Uk.dds{H:Hp}{b:List V}{a:Tl}(h:Uk H b a):Vt H b (a.map Ww):=by
 unfold Uk at h;unfold Vt;induction h with
 |nil=>exact .nil
 |cons h r c=>exact .cons h c
end Sb
namespace K06
open PySem L2 Sb
variable{H:Hp}{v1 v2:V}{t:Th}{Q:VK}
def ir:Ge->Prop:=λ_=>False
theorem pO(a:Z5 H v1 t)(c:Z5 H v2 t)(g:t.good)(q:Q (.bl Gi) H):j8 (λb=>b) v1 v2 H Q:=
 {t.toD,t.toD,a.dt,c.dt,We t g.1,We t g.1,by rw[Xi];have:=g.2.1;ext,by rw[lF,Tg rfl];exact q}
theorem rB(a:Z5 H v1 t)(c:Z5 H v2 t)(g:t.good)(q:Q (.bl Gx) H):j8 (λb=>!b) v1 v2 H Q:=
 {t.toD,t.toD,a.dt,c.dt,We t g.1,We t g.1,by rw[Xi];have:=g.2.1;ext,by rw[lF,Tg rfl];exact q}
theorem tI(t:Th):TX t.toD t.toD=Gi:=by rw[lF];exact Tg rfl
theorem tW{c d:Ge}{i j:V}{s:Th}(o:H c/.tup [v1,v2])(p:H d/.tup [i,j])(k:Z5 H v1 s)(l:Z5 H v2 t)(m:Z5 H i s)(n:Z5 H j t)(a:s.good)(f:t.good)(q:Q (.bl Gi) H):j8 (λb=>b) ↑c ↑d H Q:=by
 have g:=We s a.1;have h:=We t f.1;have r:=Xi s;have u:=Xi t;have:=a.2.1;have:=f.2.1;exists .tuple [s.toD,t.toD],.tuple [s.toD,t.toD],.tup o (.cons k.dt (.cons l.dt .nil)),.tup p (.cons m.dt (.cons n.dt .nil)),by simp[Tu,Gw,g,h],by simp[Tu,Gw,g,h],?_
 .simp only[Dp,TW];ext
 .have e:TX (.tuple [s.toD,t.toD]) (.tuple [s.toD,t.toD])=Gi:=by simp[TX,Dx,tI]
  rw[e];exact q
theorem Q3v{c d:Ge}{x:TM}{j k:V}{s:Th}(g:DM x=Gi)(p:H c/.tup [.str x,v1,v2])(r:H d/.tup [.str x,j,k])(l:Z5 H v1 s)(m:Z5 H v2 t)(n:Z5 H j s)(o:Z5 H k t)(a:s.good)(f:t.good)(q:Q (.bl Gi) H):j8 (λb=>b) ↑c ↑d H Q:=by
 have h:=We s a.1;have i:=We t f.1;have u:=Xi s;have v:=Xi t;have:=a.2.1;have:=f.2.1;exists .tuple [.str x,s.toD,t.toD],.tuple [.str x,s.toD,t.toD],.tup p (.cons (.str _) (.cons l.dt (.cons m.dt .nil))),.tup r (.cons (.str _) (.cons n.dt (.cons o.dt .nil))),by simp[Tu,Gw,h,i,g],by simp[Tu,Gw,h,i,g],?_
 .simp only[Dp,TW];ext
 .have e:TX (.tuple [.str x,s.toD,t.toD]) (.tuple [.str x,s.toD,t.toD])=Gi:=by simp[TX,Dx,tI]
  rw[e];exact q
def lH(H:Hp)(v:V):Option (Th×Th)->Prop
 |none=>v=.non
 |some p=>∃c a b,v=.ref c/\H c/.tup [a,b]/\Z5 H a p.1/\Z5 H b p.2/\p.1.good/\p.2.good
theorem lH.same{H b:Hp}(e:Za H b){v:V}{a:Option (Th×Th)}(h:lH H v a):lH b v a:=by
 cases a with
 |none=>exact h
 |some=>have(c,k,l,d,f,g,i,j):=h;exact{c,k,l,d,e _ _ f,g.same e,i.same e,j}
structure jj(H:Hp)(L:Ge)(lv:List V)(ls:List Lt):Prop where
 at_:H L/.lst lv
 pr:Df (oZ H ir) lv ls
 good:∀l∈ls,l.1.good/\l.2.1.good
 len:⇑ls<=900000
theorem jj.same{H a:Hp}(e:Za H a){L:Ge}{d:List V}{b:List Lt}(h:jj H L d b):jj a L d b:=
 {e _ _ h.at_,Qr h.pr (by rintro _ _ ⟨c,n,o,m,f,g,i,j,k,l⟩;exact{c,n,o,m,f,e _ _ g,i.same e,j.same e,k.kp (λh=>e _ _ h) (λh _=>e _ _ h),l}),h.good,h.len}
inductive sr(vs:List V)(H:Hp)(Q:VK):Prop
 |mk (a:Ge) (L:Ge) (us:List V) (lv:List V) (pq:V) (tl:Tl) (pr:Option (Th×Th)) (ls:List Lt) (k:Nat) (x:Th) (y:Th) (r:Lr) (h0:vs=[↑a,↑L,.int (k:Int),pq]) (h1:H a/.lst us) (h2:Uk H us tl) (h3:iu tl) (h4:⇑tl<=1000) (h5:jj H L lv ls) (h6:lH H pq pr) (h7:ls[k]?/(x,y,r)) (h8:vz tl pr (ls.take k) x y r) (h9:∀H':Hp,Za H H'->Q (.bl Gi) H'):sr vs H Q
def yk:Sp:=λa H Q _=>sr a H Q
theorem ql{b:Type}{l:List b}{k n:Nat}{x:b}(h:(l.take k)[n]?/x):n<k/\l[n]?/x:=by
 have c:=(Gg.mp h).1;rw[Db]at c;have a:n<k:=by ext
 rw[DR a]at h;exact⟨a,h⟩
theorem yz{c:List Lt}:∀{e:List Nat}{a b:Th},i8 c a e b->∀k∈e,∃l,c[k]?/l
 |[],_,_,_,k,d=>nomatch d
 |j::e,a,b,⟨m,r,f,g⟩,k,d=>by
  rcases Ti.mp d with z|z
  .exact{_,by rw[z];exact f}
  .exact yz g k z
theorem ZC{c:List Lt}:∀{d:List Nat}{a b:Th}{i k:Nat},i8 c a d b->d[i]?/k->∀t,i8 c t (d.drop i) b->∃m r,c[k]?/(t,m,r)/\i8 c m (d.drop (i+1)) b:=by intro d a b i k _ f t ht;have e:d.drop i=k::d.drop (i+1):=LN.trans (by rw[f];rfl);rw[e]at ht;exact ht
noncomputable def rowsOf(b:List V)(a:List Nat):List V:=a.map λk=>b.getD k .non
theorem getD_at{a:List V}{k:Nat}(h:k<⇑a):a[k]?/a.getD k .non:=by rw[DL,Gf h];rfl
theorem Q2o:(("told":TM)=="told")=Gi:=by decide+kernel
theorem UG:(("asked":TM)=="told")=Gx:=by decide+kernel
theorem Q3l:(("asked":TM)=="asked")=Gi:=by decide+kernel
theorem Qzg:(("turn":TM)=="told")=Gx:=by decide+kernel
theorem P4:(("turn":TM)=="asked")=Gx:=by decide+kernel
theorem Qyg:(("turn":TM)=="turn")=Gi:=by decide+kernel
theorem Q90:(("chain":TM)=="told")=Gx:=by decide+kernel
theorem Q9u:(("chain":TM)=="asked")=Gx:=by decide+kernel
theorem Q9x:(("chain":TM)=="turn")=Gx:=by decide+kernel
theorem QM:(("chain":TM)=="chain")=Gi:=by decide+kernel
theorem Q9k:(("like":TM)=="told")=Gx:=by decide+kernel
theorem Q9n:(("like":TM)=="asked")=Gx:=by decide+kernel
theorem Q9s:(("like":TM)=="turn")=Gx:=by decide+kernel
theorem Kk:(("like":TM)=="chain")=Gx:=by decide+kernel
theorem VY:(("like":TM)=="like")=Gi:=by decide+kernel
theorem K7:(["_law_number","_law_lines"]:List TM).Nodup:=by decide+kernel
section
variable{P:Gn}{w:Tf}{K:Gd}{mg:TM->Option Gj}{base:Heap}
theorem vh:Q7 ["_law_told","_law_lines","_law_k","_law_pair","_law_one","_law_other","_law_reason","_law_number","_law_rows","_law_here","_law_row","_law_j"] ["_law_told","_law_lines","_law_k","_law_pair"] (Qo nz):=by eq_refl
theorem Qnv{aC fH:Ge}{fd dH:Dn}(F:Wd K "_law_line_follows" "_law_line_follows" nz aC fd)(J:hO mg)
  (GH:Q3 P w K mg base Ya 1 fH dH ["_law_found"] (lR K))(kH:KI K fH)(bH:zk K dH ["_law_found"] [])(mH:MG mg "_law_whole" fH):
  Q3 P w K mg base Ya 2 aC fd ["_law_told","_law_lines","_law_k","_law_pair"] yk:=by
 refine F.ok vh (λm X g f Y=>?_) (λG v H s X m g f hr Y=>?_)
 .obtain⟨a,S,us,l,pq,tl,pr,ls,k,x,y,r,rfl,_⟩:=Y;rfl
 have(a,S,us,l,pq,tl,pr,ls,k,x,y,r,rfl,ha,aD,aM,aL,D,aJ,hk,ok,q):=Y;have A:=vh.nd;have hu:=hr.units;exists _,(Qc (Rw (Qn Ze {1} {2}) (V8 rfl (Zr (Z7 4 A) (Zr (Z7 5 A) (Zr (Z7 6 A) Wp)))))
  (Qc (Zc (Qp Xs (Qn Qs {6} Qi) Zi (Qu _))
  (Qc (Qz 7 A (Qn Qs {6} Qi))
  (Qc (Zc (PW.pt (Yu (Yi (Zz (Zb GH hr rfl mH kH bH .nil Q5 (Qa {7} Qd)))) (Yu (Qp Vh {7} Qi (Qu _)) (Xe (Qp kP {7} (Qm Zd rfl J.len GY (Qa {0} Qd)) (Qu _))))))
  (Qg (Qt Z9)) Qw)
  (Qg (Qt (Ve (Jh hu) (Qn Ze {0} {7}) (Zf (Qa Zi (Qa {4} (Qa {5} Qd)))) (Qu _)))))) Qw)
  (Qc (Zc (Qp Xs (Qn Qs {6} Qi) Zi (Qu _))
  (Qg (Qt (Ve (Jh hu) {3} (Zf (Qa {4} (Qa {5} Qd))) (Qu _)))) Qw)
  (Qc (Zc (Qp Xs (Qn Qs {6} Qi) Zi (Qu _))
  (Qc (Qz 7 A (Qn Qs {6} Qi))
  (Qc (Zc (PW.pt (Yu (Yi (Zz (Zb GH hr rfl mH kH bH .nil Q5 (Qa {7} Qd)))) (Yu (Qp Vh {7} Qi (Qu _)) (Xe (Qp kP {7} {2} (Qu _))))))
  (Qg (Qt Z9)) Qw)
  (Qg (Qt (Ve (Jh hu) (Z3 V2 (Qn Ze {1} {7}) Yv (Yd Qi)) (Zf (Qa {5} (Qa {4} Qd))) (Qu _)))))) Qw)
  (Qc (Zc (Yi (Zz (Qm Zy rfl J.isinstance Ta (Qa (Qn Qs {6} Qi) (Qa (Z8 (v:=.ty "list") rfl J.list T9 Xb) Qd)))))
  (Qg (Qt Z9)) Qw)
  (Qc (Yb Tj rfl (Yh (Qn Qs {6} Qi)) (Z7 7 A)
  (Qg (Zc (PW.pt (Yu (Yi (Zz (Zb GH hr rfl mH kH bH .nil Q5 (Qa {7} Qd)))) (Yu (Qp Vh {7} Qi (Qu _)) (Xe (Qp kP {7} {2} (Qu _))))))
  (Qg (Qt Z9)) Qw)))
  (Qc (Uz (i:=8) (own:=["_law_number"]) (fv:=[(1,"_law_lines")]) A rfl rfl rfl (S:=(by eq_refl:X8 (Qo nz) _)) (.cons rfl (DW Xb) rfl .nil) (Yh (Qn Qs {6} Qi))
   (λ_ _ _ _ _=>Yz (i:=0) K7 rfl (DW Xb) (Si Xb)) (λ_ _ _ _ _=>Wk) (λ_ _ _ _ _=>(Qn (r:=px K) Ze {1} {0})))
  (Qc (Zc (Qp Xs (Qn Qs {6} Qi) Zi (Qu _))
  (Qc (Qz 9 A {4})
  (Qc (Yb Tj rfl (Yh {8}) (Z7 10 A)
  (Qc (Zc (Qp (O1 hu) (Qn Qs {10} Qi) {9} (Qu _))
  (Qg (Qt Z9)) Qw)
  (Qg (Qz 9 A (Qn Qs {10} Qi)))))
  (Qg (Qt (Ve (Jh hu) {9} {5} (Qu _)))))) Qw)
  (Qc (Zc (PW.pt (Yu (Qp Wf (Qn Qs {6} Qi) Zi (Qu _)) (Yu (Qp Wf (Qn Qs {4} Qi) (Qn Qs {5} Qi) (Qu _)) (Xe (Qp Wf (Qm Zd rfl J.len GY (Qa {4} Qd)) (Qm Zd rfl J.len GY (Qa {5} Qd)) (Qu _))))))
  (Qg (Qt Z9)) Qw)
  (Qc (Zc (Qp Wf (Qm Zd rfl J.len GY (Qa {8} Qd)) (Zg Ru (Qm Zd rfl J.len GY (Qa {4} Qd)) Qi) (Qu _))
  (Qg (Qt Z9)) Qw)
  (Qc (Yb Tj rfl (Vw rfl J.range (Qa (Qm Zd rfl J.len GY (Qa {8} Qd)) Qd)) (Z7 11 A)
  (Qg (Zc (PW.pt (Yu (Qp (O1 hu) (Qn Qs (Qn Ze {8} {11}) Qi) (Qn Qs {4} (Zg Vf {11} Qi)) (Qu _)) (Xe (Qp (O1 hu) (Qn Qs (Qn Ze {8} {11}) Qi) (Qn Qs {5} (Zg Vf {11} Qi)) (Qu _)))))
  (Qg (Qt Z9)) Qw)))
  (Qg (Qt Z9)))))))))))))
 have aN:⇑l=⇑ls:=GJ D.pr;have aO:⇑us=⇑tl:=GJ aD;have aK:k<⇑ls:=(Gg.mp hk).1;have l9:=D.len;ac_nf;obtain⟨u,eu⟩:∃u,l[k]?/u:={_,Gf ∅};have(l',e',ac,B,E,rv,rfl,hc,t1,t2,ae,_):=Qy D.pr eu;intros;rw[hk]at e';cases e';have(gx,gy):=D.good _ (Gc hk);have az:∀{n:Nat}{h:Lt},(ls.take k)[n]?/h->n<k/\∃ac B E rv,l[n]?/↑ac/\X ac/.tup [B,E,rv]/\Z5 X B h.1/\Z5 X E h.2.1/\h.1.good/\h.2.1.good:=λ{n h}Y=>by have(g,f):=ql Y;obtain⟨u,eu⟩:∃u,l[n]?/u:={_,Gf ∅};have(l',e',ac,B,E,rv,rfl,hc,t1,t2,_):=Qy D.pr eu;rw[f]at e';cases e';exact{g,ac,B,E,rv,eu,hc,t1,t2,(D.good _ (Gc f)).1,(D.good _ (Gc f)).2}
 exists 00,S,l,301,Qk D.at_,Zk eu,ac,0,Qj hc,13030301;have L:(∃(wd:TM)(c h:Ge)(b:List Nat),rv=.ref c/\X c/.tup [.str wd,↑h]/\X h/.lst (b.map jv)/\⇑b<=1000000/\(∀n∈b,∃h,(ls.take k)[n]?/h)/\(wd="chain"/\i8 (ls.take k) x b y\/wd="like"/\r=.like b))\/((∃n,r=.told n)\/r=.asked\/∃n,r=.turn n):=by
  cases r with
  |told n=>exact .inr (.inl ⟨n,Xb⟩)
  |asked=>exact .inr (.inr (.inl Xb))
  |turn n=>exact .inr (.inr (.inr ⟨n,Xb⟩))
  |chain b=>have(c,h,rfl,e,M,_,ao):=ae;exact .inl {_,c,h,b,1,e,M,ao,yz ok,.inl ⟨Xb,ok⟩}
  |like b=>have(c,h,rfl,e,M,_,ao):=ae;have(o1,o2,o3,o4):=(show x.word=y.word/\⇑x.parts=⇑y.parts/\⇑b=⇑x.parts/\_ from ok);refine .inl {_,c,h,b,1,e,M,ao,λn Z=>?_,.inr ⟨Xb,Xb⟩};have(j,hj):=Dj.mp Z;have f:=(Gg.mp hj).1;have(r,Y):=o4 j n _ _ hj (Gf ∅) (Gf ∅);exact{_,Y}
 rcases L with⟨wd,c,h,b,rfl,e,M,ao,lt,L⟩|L
 .have I:(wd=="told")=Gx:=by rcases L with⟨rfl,_⟩|⟨rfl,_⟩<;>decide+kernel
  have R:(wd=="asked")=Gx:=by rcases L with⟨rfl,_⟩|⟨rfl,_⟩<;>decide+kernel
  have w3:(wd=="turn")=Gx:=by rcases L with⟨rfl,_⟩|⟨rfl,_⟩<;>decide+kernel
  exists 0,c,201,Qj e,Z6,10;rw[Zh,I];refine Q4 ?_;exists 0,c,201,Qj e,Z6,10;rw[Zh,R];refine Q4 ?_;exists 0,c,201,Qj e,Z6,10;rw[Zh,w3];refine Q4 ?_;refine{0,c,201,Qj e,Xt,32,Gi,1,.lst M,Ou,Gi,1,Q4 ?_};let aI:Nat->St->Hp->Prop:=λi f W=>jA λ(x7:Option V)=>nM (f=[Ga ↑a,Ga ↑S,Ga (.int (k:Int)),Ga pq,Ga B,Ga E,Ga ↑c,x7,Gq,Gq,Gq,Gq]) (W=X)
  refine⟨_,Xb,c,_,_,_,Xb,Xb,Qj e,Xt,h,Xb,{_,Qk M},Yw (K:=K) (a:=h) (xs:=b.map jv) aI
   {401} (λi f W _⟨_,_,m⟩=>Qk (by rw[m];exact M)) ?_ ?_⟩
  .rintro i u f W hi ⟨x7,rfl,rfl⟩;obtain⟨n,v,rfl⟩:∃n,n∈b/\jv n=u:=by
    rw[Tq]at hi;cases m:b[i]? with
    |none=>rw[m]at hi;cases hi
    |some n=>rw[m]at hi;exact{n,Gc m,T3 hi}
   have(ll,el):=lt n v;have Z:=(ql el).1;refine{02,Gi,Gx,1,.int _,Rh,Iw,Gi,1,Q4 ?_};exists 403010;rw[Td (show¬((n:Int)<0) by ext)];refine Q4 ?_;exists 4003010;rw[Td (show¬((n:Int)>=(k:Int)) by ext)];exact Q4 {401}
  rintro f W ⟨x7,rfl,rfl⟩;refine{0,c,201,Qj e,Xt,h,1,{_,Qk M},λp hp=>?_};have sp:=Qf hp (.lst []);refine Of (K:=K) (a:=h) (xs:=b.map jv) (small (by rw[Gv];ext)) (λi ys f G=>(∃x0,f=[x0,Ga ↑S])/\ys=rowsOf l (b.take i)/\G=zj W p (.lst ys)) {{40},11} (λi ys f G _⟨_,_,m⟩=>Qk (by rw[m];exact Qf hp _ _ _ M)) ?_ ?_
  .rintro i u ys f G hi aA ⟨⟨x0,rfl⟩,rfl,rfl⟩ T;obtain⟨n,v,rfl⟩:∃n,b[i]?/n/\jv n=u:=by
    rw[Tq]at hi;cases m:b[i]? with
    |none=>rw[m]at hi;cases hi
    |some n=>rw[m]at hi;exact{n,1,T3 hi}
   have(ll,el):=lt n (Gc v);have Z:=(ql el).1;refine{00,S,l,301,Qk (Qf hp _ _ _ D.at_),Zk (getD_at ∅),T,{40},?_,by rw[Vb]};unfold rowsOf;rw[TD,v,TZ];rfl
  rintro ys f G aA ⟨_,rfl,rfl⟩ Q;rw[Gv,Tw]at Q aA⊢;have g:=Qf hp (.lst (rowsOf l b));generalize zj W p (.lst (rowsOf l b))=G at*;rcases L with⟨rfl,ok⟩|⟨rfl,rfl⟩
  .exists 0,c,201,Qj (g _ _ e),Z6,10;rw[Zh,QM];refine Yo ?_;exists 40;let aB:Nat->St->Hp->Prop:=λi f H=>jN λ(U:V)(t:Th)(ab:Option V)=>jn (f=[Ga ↑a,Ga ↑S,Ga (.int (k:Int)),Ga pq,Ga B,Ga E,Ga ↑c,x7,Ga ↑p,Ga U,ab,Gq]) (H=G) (Z5 G U t) (t.good) (i8 (ls.take k) t (b.drop i) y)
   refine⟨_,Xb,p,Xb,{_,Qk Q},Yw (K:=K) (a:=p) (xs:=rowsOf l b) aB
    {B,x,01,t1.same g,gx,by rw[List.drop_zero];exact ok} (by rintro i f H _ ⟨_,_,_,_,m,_⟩;exact Qk (by rw[m];exact Q)) ?_ ?_⟩
   .rintro i u f H hi ⟨U,t,ab,rfl,rfl,th,tg,T⟩;ac_nf;obtain⟨n,v,ax⟩:∃n,b[i]?/n/\l.getD n .non=u:=by
     unfold rowsOf at hi;rw[Tq]at hi;cases m:b[i]? with
     |none=>rw[m]at hi;cases hi
     |some n=>rw[m]at hi;exact{n,1,T3 hi}
    have(ay,r3,e3,aw):=ZC ok v t T;have(Z,d,u1,u2,aE,ed,z,N,O,g3,g4):=az e3;intros;have:u=.ref d:=by rw[<-ax,DL,ed];rfl
    subst this;refine{0,d,201,Qj (g _ _ z),Z6,0,rB (N.same g) th tg {0,Q4 ?_}};exists 0,d,201,Qj (g _ _ z),Xt;exact{u2,ay,01,O.same g,g4,aw}
   .rintro f H ⟨U,t,ab,rfl,rfl,th,tg,T⟩;rw[show ⇑(rowsOf l b)=⇑b from Gv _,List.drop_length]at T;have:t=y:=T;subst this;exact{00,pO th (t2.same g) tg (q _ g)}
  .obtain⟨o1,o2,o3,o4⟩:=(show x.word=y.word/\⇑x.parts=⇑y.parts/\⇑b=⇑x.parts/\_ from ok);exists 0,c,201,Qj (g _ _ e),Z6,10;rw[Zh,Kk];refine Q4 ?_;have(b1,I,T,ag,rfl,rfl,U,ap):=(t1.same g).inv;have(b2,R,aa,av,rfl,rfl,af,aq):=(t2.same g).inv;have o1:I=R:=o1;have o2:⇑ag=⇑av:=o2;have o3:⇑b=⇑ag:=o3;have au:=⇑ap;have aG:=⇑aq;exists 0,c,201,Qj (g _ _ e),Z6,10;rw[Zh,VY];refine Q4 ?_;exists 0,b1,201,Qj U,Z6,0,b2,201,Qj af,Z6,10;rw[Tg (show V.str I=V.str R by rw[o1])];refine Q4 ?_;exists 030,.inr {_,Qj U,1},030,.inr {_,Qj af,1},10;rw[Tg (show V.int ((⇑(V.str I::T):Nat):Int)=V.int ((⇑(V.str R::aa):Nat):Int) by rw[TQ,TQ,au,aG,o2])];refine Q4 ?_;have aF:⇑(rowsOf l b)=⇑b:=Gv _;exists 030,.inl {_,Qk Q,1},030,.inr {_,Qj U,1},30110;rw[Tg (show V.int ((⇑(rowsOf l b):Nat):Int)=V.int (((⇑(V.str I::T):Nat):Int) - 1) by rw[TQ,aF,au,o3];congr 1;ext)];refine Q4 ?_;let aH:Nat->St->Hp->Prop:=λj f H=>jA λ(ah:Option V)=>nM (f=[Ga ↑a,Ga ↑S,Ga (.int (k:Int)),Ga pq,Ga ↑b1,Ga ↑b2,Ga ↑c,x7,Ga ↑p,Gq,Gq,ah]) (H=G)
   refine⟨_,Xb,_,_,Xb,.inl {_,Qk Q,1},_,Xb,by ext,by ext,V1 (lo:=0) (n:=((⇑(rowsOf l b):Int)).toNat) aH
    {401} ?_ ?_⟩
   .rintro j f H hj ⟨ah,rfl,rfl⟩;have hj:j<⇑b:=by ext
    have v:b[j]?/b[j]:=Gf hj;ac_nf;obtain⟨p1,ai⟩:∃p1,ag[j]?/p1:={_,Gf ∅};obtain⟨p2,aj⟩:∃p2,av[j]?/p2:={_,Gf ∅};have(r3,e3):=o4 j _ p1 p2 v ai aj;have(Z,d,u1,u2,aE,ed,z,N,O,g3,g4):=az e3;obtain⟨z1,am⟩:∃C,T[j]?/C:={_,Gf ∅};obtain⟨z2,an⟩:∃C,aa[j]?/C:={_,Gf ∅};have(y1,ak,i1):=ap.get am;have(y2,al,i2):=aq.get an;intros;rw[ai]at ak;cases ak;rw[aj]at al;cases al;have er:(rowsOf l b)[j]?/↑d:=by unfold rowsOf;rw[Tq,v];show Ga (l.getD b[j] .non)=_;rw[DL,ed];rfl
    have ar:R8 (rowsOf l b) (0+(j:Int))/↑d:=by rw[Sa];exact Zk er
    have a1:R8 (V.str I::T) (0+(j:Int)+1)/z1:=by rw[Sa];exact Zk (xs:=V.str I::T) (j:=j+1) (by rw[SO];exact am)
    have a2:R8 (V.str R::aa) (0+(j:Int)+1)/z2:=by rw[Sa];exact Zk (xs:=V.str R::aa) (j:=j+1) (by rw[SO];exact an)
    refine{00,p,201,Qk Q,ar,d,201,Qj (g _ _ z),Z6,00301,b1,201,Qj U,a1,rB (N.same g) i1 g3 {0,Q4 ?_}};refine{00,p,201,Qk Q,ar,d,201,Qj (g _ _ z),Xt,00301,b2,201,Qj af,a2,rB (O.same g) i2 g4 {0,Q4 ?_}};exact{401}
   .rintro f H ⟨ah,rfl,rfl⟩;exact q _ g
 cases r with
 |told n=>have(c,rfl,e):=ae;have ok:tl[n]?/(Gi,x,y):=ok;have Z:=(Gg.mp ok).1;obtain⟨m,g⟩:∃m,us[n]?/m:={_,Gf ∅};have(p,f,d,u1,u2,rfl,z,N,O):=Qy aD g;rw[ok]at f;cases f;exists 0,c,201,Qj e,Z6,10;rw[Zh,Q2o];refine Yo ?_;exists 0,c,201,Qj e,Xt;refine{02,Gi,Gx,1,.int _,Rh,Iw,Gi,1,Q4 ?_};exists 403010;rw[Td (show¬((n:Int)<0) by ext)];refine Q4 ?_;exists 0030,.inl {_,Qk ha,1},3010;rw[Td (show¬((n:Int)>=((⇑us:Nat):Int)) by ext)];refine Q4 ?_;refine{00,a,us,301,Qk ha,Zk g,00,Vk,λc3 ad=>?_};have o:=Qf ad (.tup [.str "same",B,E]);exact Q3v (xo Gi) (o _ _ z) Qb (N.same o) (O.same o) (t1.same o) (t2.same o) gx gy (q _ o)
 |asked=>have(c,rfl,e):=ae;have ok:pr/(x,y):=ok;subst ok;have(d,u1,u2,rfl,z,N,O,_,_):=aJ;exists 0,c,201,Qj e,Z6,10;rw[Zh,UG];refine Q4 ?_;exists 0,c,201,Qj e,Z6,10;rw[Zh,Q3l];refine Yo ?_;refine{000,Yy,λc3 ad=>?_};have o:=Qf ad (.tup [B,E]);exact tW (o _ _ z) Qb (N.same o) (O.same o) (t1.same o) (t2.same o) gx gy (q _ o)
 |turn n=>have(c,rfl,e):=ae;have(v,ok):=ok;have(Z,d,u1,u2,aE,ed,z,N,O,_,_):=az ok;exists 0,c,201,Qj e,Z6,10;rw[Zh,Qzg];refine Q4 ?_;exists 0,c,201,Qj e,Z6,10;rw[Zh,P4];refine Q4 ?_;exists 0,c,201,Qj e,Z6,10;rw[Zh,Qyg];refine Yo ?_;exists 0,c,201,Qj e,Xt;refine{02,Gi,Gx,1,.int _,Rh,Iw,Gi,1,Q4 ?_};exists 403010;rw[Td (show¬((n:Int)<0) by ext)];refine Q4 ?_;exists 4003010;rw[Td (show¬((n:Int)>=(k:Int)) by ext)];refine Q4 ?_;refine{00,S,l,301,Qk D.at_,Zk ed,0,d,0,Qj z,vA _ 2 (by show 2<3;decide),λm g=>?_};have s4:=Qf g (.tup [u1,u2]);refine{00,Yy,λc3 ad=>?_};have o:=Qf ad (.tup [E,B]);have f:=s4.trans o;exact tW (o _ _ Qb) Qb (N.same f) (O.same f) (t2.same f) (t1.same f) gy gx (q _ f)
 |chain b=>rcases L with⟨_,C⟩|C|⟨_,C⟩<;>cases C
 |like b=>rcases L with⟨_,C⟩|C|⟨_,C⟩<;>cases C
theorem R0.Q8y{X:Ge->Prop}{v:V}{r:Lr}(h:R0 H X v r):∃e d X6,v=.ref e/\H e/.tup (.str d::X6)/\((⇑(V.str d::X6):Nat):Int)=2 - (if decide (V.str d=V.str "asked")=Gi then 1 else 0):=by
 cases r with
 |told=>have(c,a,b):=h;exact{c,2,a,b,by rw[Zh,show(("told":TM)=="asked")=Gx by decide+kernel];rfl}
 |asked=>have(c,a,b):=h;exact{c,2,a,b,by rw[Zh,show(("asked":TM)=="asked")=Gi by decide+kernel];rfl}
 |turn=>have(c,a,b):=h;exact{c,2,a,b,by rw[Zh,show(("turn":TM)=="asked")=Gx by decide+kernel];rfl}
 |chain=>have(c,l,a,b,_):=h;exact{c,2,a,b,by rw[Zh,show(("chain":TM)=="asked")=Gx by decide+kernel];rfl}
 |like=>have(c,l,a,b,_):=h;exact{c,2,a,b,by rw[Zh,show(("like":TM)=="asked")=Gx by decide+kernel];rfl}
noncomputable def lrD:Lr->DI
 |.told n=>.tuple [.str "told",.int n]
 |.asked=>.tuple [.str "asked"]
 |.turn n=>.tuple [.str "turn",.int n]
 |.chain a=>.tuple [.str "chain",.list ((a.map λn:Nat=>(n:Int)).map Eh)]
 |.like a=>.tuple [.str "like",.list ((a.map λn:Nat=>(n:Int)).map Eh)]
theorem Qti(a:List Nat):a.map jv=(a.map λn:Nat=>(n:Int)).map V.int:=by rw[Di];rfl
theorem Pr{X:Ge->Prop}{v:V}{r:Lr}(h:R0 H X v r):Dt H v (lrD r):=by
 cases r with
 |asked=>have(c,a,b):=h;subst a;exact .tup b (.cons (.str _) .nil)
 |told|turn=>have(c,a,b):=h;subst a;exact .tup b (.cons (.str _) (.cons (.int _) .nil))
 |_=>have(c,l,a,b,d,_):=h;subst a;exact .tup b (.cons (.str _) (.cons (.lst d (by rw[Qti];exact Ug _)) .nil))
theorem OJ:∀r:Lr,(lrD r).canLay0=Gi
 |.told n=>by simp[lrD,Tu,Gw];decide+kernel
 |.asked=>by simp[lrD,Tu,Gw];decide+kernel
 |.turn n=>by simp[lrD,Tu,Gw];decide+kernel
 |.chain b=>by
  have h:=Ue (b.map λn:Nat=>(n:Int));have a:DM ("chain":TM)=Gi:=by decide+kernel
  simp only[lrD,Tu,Gw,h,a,SE,LI]
 |.like b=>by
  have h:=Ue (b.map λn:Nat=>(n:Int));have a:DM ("like":TM)=Gi:=by decide+kernel
  simp only[lrD,Tu,Gw,h,a,SE,LI]
noncomputable def ltD(l:Lt):DI:=.tuple [l.1.toD,l.2.1.toD,lrD l.2.2]
theorem jj.dts{L:Ge}{d:List V}{b:List Lt}(h:jj H L d b):hF H d (b.map ltD)/\Gw (b.map ltD)=Gi:=by
 have o:=h.pr;have a:=h.good;clear h;induction o with
 |nil=>exact{.nil,1}
 |@cons v l w b h r n=>have(k,m):=n λl i=>a l (Gr _ i);have(c,t,u,s,rfl,g,p,q,j,_):=h;have(e,f):=a l Tc;exists .cons (.tup g (.cons p.dt (.cons q.dt (.cons (Pr j) .nil)))) k;rw[Tt];simp only[Gw,ltD,Tu,We _ e.1,We _ f.1,OJ,m,SE,LI]
inductive xP(vs:List V)(H:Hp)(Q:VK):Prop
 |mk (a:Ge) (L:Ge) (us:List V) (lv:List V) (o1:V) (o2:V) (pq:V) (tl:Tl) (pr:Option (Th×Th)) (ls:List Lt) (x:Th) (y:Th) (r:Lr) (h0:vs=[↑a,↑L,o1,o2,pq]) (h1:H a/.lst us) (h2:Uk H us tl) (h3:iu tl) (h4:⇑tl<=1000) (h5:jj H L lv ls) (h6:l7 tl pr ls) (h7:lH H pq pr) (h8:Z5 H o1 x) (h9:Z5 H o2 y) (h10:ls.getLast?/(x,y,r)) (h11:∀H':Hp,Za H H'->Q (.bl Gi) H'):xP vs H Q
def vf:Sp:=λa H Q _=>xP a H Q
theorem vQ:Q7 ["_law_told","_law_lines","_law_one","_law_other","_law_pair","_law_k","_law_line"] ["_law_told","_law_lines","_law_one","_law_other","_law_pair"] (Qo iY):=by eq_refl
theorem Qyw{aa C B:Ge}{fd dT dF:Dn}(F:Wd K "_law_lines_show" "_law_lines_show" iY aa fd)(a:hO mg)
  (Y:Q3 P w K mg base Ya 1 C dT ["_law_found"] uY)(kT:KI K C)(Z:zk K dT ["_law_found"] [])(mT:MG mg "_law_is_thing" C)
  (GF:Q3 P w K mg base Ya 2 B dF ["_law_told","_law_lines","_law_k","_law_pair"] yk)(kF:KI K B)(bF:zk K dF ["_law_told","_law_lines","_law_k","_law_pair"] [])(mF:MG mg "_law_line_follows" B):
  Q3 P w K mg base Ya 3 aa fd ["_law_told","_law_lines","_law_one","_law_other","_law_pair"] vf:=by
 refine F.ok vQ (λr v p o G=>?_) (λO N S s v r p o I G=>?_)
 .obtain⟨A,h,us,e,o1,o2,L,tl,pr,c,x,y,M,rfl,_⟩:=G;rfl
 have(A,h,us,e,o1,o2,L,tl,pr,c,x,y,M,rfl,ha,aj,ai,af,b,hg,ag,hx,hy,H,q):=G;have nd:=vQ.nd;have J:=I.units;have ac:Yj 1 _:=I.mono ∅;show∃t,Xu ?my _ t/\_;let an:Vq ?my iY 2:={_,Qg (Qt (lO (Ve (Jh J) (Qn Qs (Qn Ze {1} (Jz V4 Qi)) Qi) {2} (Qu _)) (jR (Ve (Jh J) (Qn Qs (Qn Ze {1} (Jz V4 Qi)) Qi) {3} (Qu _)))))}
 let ao:Subtype (Xu ?my (sub [1,0,4] (Q9 iY))):={_,Qc (Zc (Qp Wf (Qm Zd rfl a.len GY (Qa (Qn Qs {6} Qi) Qd)) (Zg Ru Qi (Xz WV rfl a.int Ff (Qa (Ve Xs (Qn Qs (Qn Qs {6} Qi) Qi) Zi (Qu _)) Qd))) (Qu _)) (Qg (Qt Z9)) Qw) (Qg (Zc (Yi (Zz (Zb GF I rfl mF kF bF .nil Q5 (Qa {0} (Qa {1} (Qa {5} (Qa {4} Qd))))))) (Qg (Qt Z9)) Qw))}
 let ap:Subtype (Xu ?my (sub [1,0,3] (Q9 iY))):={_,Qc (Zc (Yi (Zz (Qm Zy rfl a.isinstance Ta (Qa (Qn Qs (Qn Qs {6} Qi) Qi) (Qa (Z8 (v:=.ty "str") rfl a.str EK Xb) Qd))))) (Qg (Qt Z9)) Qw) ao.2}
 let aq:Subtype (Xu ?my (sub [1,0,2] (Q9 iY))):={_,Qc (Zc (PW.pt (Yu (Yi (Zz (Zb Y ac rfl mT kT Z .nil Q5 (Qa (Qn Qs {6} Qi) Qd)))) (Yu (Yi (Zz (Zb Y ac rfl mT kT Z .nil Q5 (Qa (Qn Qs {6} Qi) Qd)))) (Xe (Qp Xs (Qm Zd rfl a.len GY (Qa (Qn Qs {6} Qi) Qd)) Qi (Qu _)))))) (Qg (Qt Z9)) Qw) ap.2}
 let ar:Subtype (Xu ?my (sub [1,0,1] (Q9 iY))):={_,Qc (Zc (PW.pt (Yu (Yi (Zz (Qm Zy rfl a.isinstance Ta (Qa {6} (Qa (Z8 (v:=.ty "tuple") rfl a.tuple Dg Xb) Qd))))) (Yu (Qp Wf (Qm Zd rfl a.len GY (Qa {6} Qd)) Qi (Qu _)) (Xe (Yi (Zz (Qm Zy rfl a.isinstance Ta (Qa (Qn Qs {6} Qi) (Qa (Z8 (v:=.ty "tuple") rfl a.tuple Dg Xb) Qd))))))))) (Qg (Qt Z9)) Qw) aq.2}
 let au:Vq ?my iY 1:={_,Qc (Yb Tj rfl (Vw rfl a.range (Qa (Qm Zd rfl a.len GY (Qa {1} Qd)) Qd)) (Z7 5 nd) (Qc (Qz 6 nd (Qn Ze {1} {5})) ar.2)) an.2}
 exists _,Qc (Zc (PW.pt (Yu (Yi (Zz (Qm Zy rfl a.isinstance Ta (Qa {1} (Qa (Z8 (v:=.ty "list") rfl a.list T9 Xb) Qd))))) (Xe (Qp (Jh J) {1} (Zu Qd) (Qu _))))) (Qg (Qt Z9)) Qw) au.2;have am:⇑e=⇑c:=GJ b.pr;have l9:=b.len;have ab:c≠[]:=λl=>by rw[l]at H;cases H
 have aw:0<⇑c:=Lz.mpr ab;have(av,ak):=b.dts;refine{032,Gi,1,.lst b.at_,Ou,Gi,1,Q4 ?_};refine{0,Ts _,λl hz=>?_};have n:=Qf hz (.lst []);exists .list (c.map ltD),.list [],.lst (n _ _ b.at_) (b.same n).dts.1,.lst Qb .nil,by simp only[Tu];exact ak,by simp[Tu,Gw],?_,_,Xb
 .simp only[Dp,TW];ext
 have ev:TX (.list (c.map ltD)) (.list [])=Gx:=by
  simp only[TX];rw[U8];cases c with
  |nil=>exact absurd rfl ab
  |cons t M=>simp
 rw[ev];refine Q4 ?_;generalize zj v l (.lst [])=H1 at n;refine⟨_,Xb,_,_,Xb,.inl {_,Qk (n _ _ b.at_),1},_,Xb,by ext,by ext,V1 (lo:=0) (n:=((⇑e:Int)).toNat) (λi X z=>∃T U:Option V,X=[Ga ↑A,Ga ↑h,Ga o1,Ga o2,Ga L,T,U]/\Za v z)
  {30,n} ?_ ?_⟩
 .rintro i X z hi ⟨T,U,rfl,g⟩;have hi:i<⇑c:=by ext
  have k:=b.same g;ac_nf;obtain⟨u,m⟩:∃u,e[i]?/u:={_,Gf ∅};have((S,W,r'),j,d,v1,v2,rv,rfl,f,Q,R,ae,_):=Qy k.pr m;have(D,E):=b.good _ (Gc j);have(rc,wd,X6,rfl,ad,ah):=ae.Q8y;intros;exists 00,h,e,301,Qk k.at_,(by rw[Sa];exact Zk m);refine{032,Gi,1,.tup f,Iv,Gi,1,Q4 ?_};exists 030,.inr {_,Qj f,1},10;rw[Tg (by rfl)];refine Q4 ?_;refine{0,d,201,Qj f,R4,32,Gi,1,.tup ad,Iv,Gi,1,Q4 ?_};refine{0,d,201,Qj f,Z6,v1,S,1,Q,D,λH3 N=>{Gi,1,Q4 ?_}};refine{0,d,201,Qj (N _ _ f),Xt,v2,W,1,R.same N,E,λH4 s4=>{Gi,1,Q4 ?_}};have O:=N.trans s4;have p:=O _ _ f;have r:=O _ _ ad;exists 0,d,201,Qj p,R4,30,.inr {_,Qj r,1},10;rw[Td (show¬V.int ((⇑(V.str wd::X6):Nat):Int)=V.int 0 by rw[TQ];intro l;injection l with l;ext)];refine Q4 ?_;refine{0,d,201,Qj p,R4,rc,201,Qj r,Z6,32,Gi,1,.str _,Rf,Gi,1,Q4 ?_};refine{0,d,201,Qj p,R4,30,.inr {_,Qj r,1},0,d,201,Qj p,R4,rc,201,Qj r,Z6,1,.inr {030110,?_}};rw[Tg (by rw[ah])];refine Q4 ?_;have o:=g.trans O;refine{0000,A,h,us,e,L,tl,pr,c,i,S,W,r',(by rw[Sa];rfl),o _ _ ha,aj.Qv (Q6.of o),ai,af,b.same o,ag.same o,j,hg i S W r' j,λH5 s5=>{Gi,1,Q4 ?_}};exact{30,o.trans s5}
 .rintro X z ⟨T,U,rfl,g⟩;have k:=b.same g;have j:c[⇑c - 1]?/(x,y,M):=by rw[<-List.getLast?_eq_getElem?];exact H
  ac_nf;obtain⟨u,m⟩:∃u,e[⇑c - 1]?/u:={_,Gf ∅};have(r,p,d,v1,v2,rv,rfl,f,Q,R,ae,_):=Qy k.pr m;intros;rw[j]at p;cases p;have(D,E):=b.good _ (Gc j);have o:R8 e (-1)/↑d:=UO (by rw[am];exact m);refine{00,h,e,301,Qk k.at_,o,d,201,Qj f,Z6,0,pO Q (hx.same g) D {Gi,1,Yo ?_}};exact{00,h,e,301,Qk k.at_,o,d,201,Qj f,Xt,0,pO R (hy.same g) E (q _ g)}
end
end K06
namespace L2
open PySem PySem.Spec PyProof.Rows
inductive zo(P:Gn)(w:Tf)(x:V)(vs:List V)(H:Hp)(Q:VK):Prop
 |mk (d:_) (b:_) (dv:_) (zw:_) (k:_) (h0:x=↑d) (h1:vs=[↑b,dv]) (h2:DH P w H d zw) (h3:ih H b k) (h4:Q ((Ys zw k).getD dv) H):zo P w x vs H Q
def yN(P:Gn)(w:Tf):V->List V->Hp->VK->Prop:=λx a H Q=>zo P w x a H Q
theorem uo{X:Cx}(a:X.A.units+64<ET):iG X "dict.get" (yN X.prog X.w):=by
 intro i s C H x B v A Q I t r h;have(d,b,j,c,k,rfl,rfl,D,m,q):=h;cases(show v=Tn d from t);have(u,w,rfl,n,o):=vals2 r;cases(show u=Tn b from n);have(z,l,f,e,g):=jV I D.at_ D.keys;refine MZ F.slot_dict_get g.typeIs F.entry_dict_get (F.args_dict_get_3 _ _ _) (meetsH_dict_get_default (Vx X.prog X.w) d b l w) {by first|(show X.A.units+1+10<ET;ext)|(show X.A.units+1+1+10<ET;ext),k,f,m.is I,g,?_};have a:=e.val k;cases q1:Ys c k with
 |some y=>
  rw[q1]at a q;cases q2:atKey f k with
  |none=>rw[q2]at a;exact(show False from a).elim
  |some p=>rw[q2]at a;exact{y,H,I.tok _,a,q}
 |none=>
  rw[q1]at a q;cases q2:atKey f k with
  |some p=>rw[q2]at a;exact(show False from a).elim
  |none=>exact{j,H,I.tok _,o,q}
end L2
namespace K06
open PySem L2 Sb
variable{H:Hp}{rs:List Row}{n:Nat}{f fH f0 fS:Ge}{fd dH dS:Dn}{v:V}{r:Row}{tl:Tl}
structure jI(H:Hp)(R:Ge)(es:List V)(rs:List Row):Prop where
 at_:H R/.lst es
 pr:Df (U3 H ir) es rs
 len:⇑rs<=100000
 ok:∀r∈rs,DM r.1=Gi
 few:∀r∈rs,⇑r.2.1<=1000
 nd:(rs.map λr=>(r.1,r.2.1)).Nodup
theorem jI.same{a:Hp}(e:Za H a){R:Ge}{b:List V}(h:jI H R b rs):jI a R b rs:=
 {e _ _ h.at_,Qr h.pr λ_ _ h=>h.kp (λh=>e _ _ h) (λh _=>e _ _ h),h.len,h.ok,h.few,h.nd}
structure pz(S:List Th)(L:Th->Nat)(rs:List Row):Prop where
 cl:∀t∈S,∀p∈t.parts,p∈S
 good:∀t∈S,t.good
 mem:∀t∈S,(t.word,t.parts.map L,L t)∈rs
inductive xb(vs:List V)(H:Hp)(Q:VK):Prop
 |mk (R:Ge) (v:V) (es:List V) (rs:List Row) (S:List Th) (L:Th->Nat) (t:Th) (h0:vs=[↑R,v]) (h1:jI H R es rs) (h2:pz S L rs) (h3:t∈S) (h4:Z5 H v t) (h5:∀H':Hp,Za H H'->Q (jv (L t)) H'):xb vs H Q
def uN:Sp:=λa H Q _=>xb a H Q
inductive je(P:Gn)(w:Tf)(H:Hp)(d:Ge)(n:Nat)(S:Th->Prop)(L:Th->Nat):Prop
 |mk (zw:List KE) (h0:⇑zw<=n) (h1:H d/Uw P w d zw) (h2:U5 H zw) (h3:∀t,S t->Ys zw (kd t)/jv (L t)):je P w H d n S L
theorem je.same{P:Gn}{w:Tf}{b:Hp}(e:Za H b){d:Ge}{S:Th->Prop}{L:Th->Nat}(h:je P w H d n S L):je P w b d n S L:=by have(a,c,f,g,i):=h;exact{a,c,e _ _ f,Zq (Q6.of e) g,i}
theorem je.set{P:Gn}{w:Tf}{d b:Ge}{S:Th->Prop}{L:Th->Nat}{t:Th}{Q:Hp->Prop}(N:je P w H d n S L)(c:n<=1000000)(ok:t.ok=Gi)(j:t.depth<=8)(h:Z5 H ↑b t)
  (q:∀c,(∀e o,H e/o->e≠d->c e/o)->je P w c d (n+1) (λu=>S u\/u=t) L->Q c):m8 P w ↑d ↑b (jv (L t)) H Q:=by
 have(a,c,f,g,k):=N;have i:=Ot h ok j;refine{d,b,kd t,a,11,⟨f,g⟩,i,by rw[TH];ext,q _ (λe o h c=>by rw[Qh c];exact h) ?_};have m:Q6 H (zj H d (Uw P w d (Vo a (kd t) b (jv (L t))))):=Z2 λp e=>by rw[f]at e;cases e
 refine{_,Dl (nH _ _ _ _) ∅,Qb,Zq m (g.put i),λu l=>?_};rw[Ia];by_cases e:u=t
 .subst e;exact GX rfl
 .rw[Gs (λz=>e (kM z))];exact k u (l.resolve_right e)
theorem Qyc{w:TM}{ns:List Nat}(nd:(rs.map λr=>(r.1,r.2.1)).Nodup)(h:(w,ns,n)∈rs):(rs.filter λr=>decide (r.1=w)).filter (λr=>decide (r.2.1=ns))=[(w,ns,n)]:=by
 induction rs with
 |nil=>cases h
 |cons r rs a=>
  rw[Tt,Du]at nd;have(c,d):=nd;rcases Ti.mp h with z|z
  .subst z;have Gq:(rs.filter λr=>decide (r.1=w)).filter (λr=>decide (r.2.1=ns))=[]:=by rw[List.filter_filter,List.filter_eq_nil_iff];intro r b e;simp only[T5,decide_eq_true_eq]at e;exact c (Tx.mpr {r,b,by rw[<-e.1,<-e.2]})
   rw[E3 ⋯,E3 ⋯,Gq]
  .have a:=a d z;by_cases e:r.1=w
   .rw[E3 (by simp[e])];rw[SQ,a];intro b;have b:r.2.1=ns:=Do b;exact c (Tx.mpr {(w,ns,n),z,by rw[<-e,<-b]})
   .rw[SQ (by simp[e])];exact a
theorem Pc:(["_law_inner","_law_values"]:List TM).Nodup:=by decide+kernel
theorem Q6m:(["_law_row","_law_part"]:List TM).Nodup:=by decide+kernel
theorem K6:(["_law_row","_law_numbers"]:List TM).Nodup:=by decide+kernel
theorem Oc(a:List Nat):a.map jv=(a.map λn:Nat=>(n:Int)).map V.int:=by rw[Di];rfl
theorem AJ{a b:List Nat}:(a.map λn:Nat=>(n:Int))=(b.map λn:Nat=>(n:Int))↔a=b:=by
 constructor
 .intro h;have back:∀l:List Nat,(l.map λn:Nat=>(n:Int)).map E2=l:=λl=>by rw[Di];exact(TY (λn _=>Em n)).trans (Ft l)
  rw[<-back a,h,back b]
 .rintro rfl;rfl
section
variable{P:Gn}{w:Tf}{K:Gd}{mg:TM->Option Gj}{base:Heap}
theorem yd:Q7 ["_law_rows","_law_thing","_law_order","_law_todo","_law_part","_law_values","_law_numbers","_law_near","_law_found"] ["_law_rows","_law_thing"] (Qo Vy):=by eq_refl
theorem Kv(F:Wd K "_law_number_in" "_law_number_in" Vy f fd)(aD:hO mg):Q3 P w K mg base Ya 1 f fd ["_law_rows","_law_thing"] uN:=by
 refine F.ok yd (λvs Q bd bc v=>?_) (λbz bx bB s Q vs bd bc hr v=>?_)
 .obtain⟨R,aj,es,I,S,z,t,rfl,_⟩:=v;rfl
 have(R,aj,es,I,S,z,t,rfl,hR,W,tS,hv,q):=v;have U:=yd.nd;have H:=hr.units;have gt:=W.good t tS;have bC:=gt.2.2;have be:⇑es=⇑I:=GJ hR.pr;have bA:=hR.len;show∃t,Xu ?my _ t/\_;let bg:Subtype (Xu ?my (sub [4,0,3] (Q9 Vy))):={_,Qg (Zc (PW.pt (Iu (Qp Xs (Qm Zd rfl aD.len GY (Qa {8} Qd)) Qi (Qu _)) (Jn (Qp (ZH H) (Jz V4 Qi) {6} rfl)))) (Qg (Rw (Qn Ze {8} Qi) (jY {5} {4} (jZ H)))) Qw)}
 let bh:Subtype (Xu ?my (sub [4,0,2] (Q9 Vy))):=⟨_,Qc (Uz (i:=8) (own:=["_law_row"]) (fv:=[(6,"_law_numbers")]) U rfl rfl rfl (S:=(by eq_refl:X8 (Qo Vy) _)) (.cons rfl (DW Xb) rfl .nil) (Yh {7})
   (λ_ _ _ _ _=>Yz (i:=0) K6 rfl (DW Xb) (Si Xb)) (λ_ _ _ _ _=>m9 (Qp (Jh H) (Qn (r:=jr K) Qs {0} Qi) {1} (Qu _))) (λ_ _ _ _ _=>(Qn (r:=jr K) Qs {0} Qi))) bg.2⟩
 let bi:Subtype (Xu ?my (sub [4,0,1] (Q9 Vy))):=⟨_,Qc (Uz (i:=7) (own:=["_law_row"]) (fv:=[(4,"_law_part")]) U rfl rfl rfl (S:=(by eq_refl:X8 (Qo Vy) _)) (.cons rfl (DW Xb) rfl .nil) (Yh {0})
   (λ_ _ _ _ _=>Yz (i:=0) Q6m rfl (DW Xb) (Si Xb)) (λ_ _ _ _ _=>m9 (Qp Xs (Qn (r:=jr K) Qs {0} Qi) (Qn (r:=jr K) Qs {1} Qi) (Qu _))) (λ_ _ _ _ _=>{0})) bh.2⟩
 let bj:Subtype (Xu ?my (sub [4,0] (Q9 Vy))):=⟨_,Qc (V3 (i:=6) U rfl (Si Xb) (Ua (te:=yE P w (yN P w) (Uj 1) (jg (Uj 0) (jg (tUn (rU λi=>.int (-i)) (tC (.int 1))) jB))) (own:=["_law_inner"]) (fv:=[(5,"_law_values")]) rfl (S:=(by eq_refl:X8 (Qo Vy) _)) (.cons rfl (DW Xb) rfl .nil) (Uy (Z3 V2 {4} (Yd Qi) Yv))
   (λ_ _ _ _ _=>Yz (i:=0) Pc rfl (DW Xb) (Si Xb)) (λ_ _ _ _ _=>Wk) (λ_ _ _ _ _=>(qR Nj Nk (uo H) {1} (Qa {0} (Qa (Jz V4 Qi) Qd)))))) bi.2⟩
 let bk:Vq ?my Vy 4:={_,Qc (Yb Tj rfl (uC rfl aD.reversed (Qa {2} Qd)) (Yz (i:=4) U rfl (Si Xb)) bj.2) (Qg (Qt (qR Nj Nk (uo H) {5} (Qa {1} (Qa (Jz V4 Qi) Qd)))))}
 let bl:Subtype (Xu ?my (sub [2,0,1] (Q9 Vy))):={_,Qc (Zn (X0 Te Tv Tz Z4 {2} (Qa {4} Qd))) (Qg (Qz 3 U (Zg X5 {3} (Xz Ur rfl aD.list T9 (Qa (Z3 V2 {4} (Yd Qi) Yv) Qd)))))}
 let bm:Vq ?my Vy 2:={_,Qc (Wu Tj (Qp (O1 H) {3} (Zu Qd) (Qu _)) (Qc (V3 (i:=4) U rfl (Si Xb) (jw Te Ep Er O3 {3})) bl.2)) (Qc (V3 (i:=5) U rfl (Si Xb) Rv) bk.2)}
 exists _,Qc (Qz 2 U (Zu Qd)) (Qc (Qz 3 U (Zu (Qa {1} Qd))) bm.2);refine{Ts _,λA ho=>?_};have s2:=Qf ho (.lst []);refine{0,Wx,λm hl=>?_};have s3:=Qf hl (.lst [aj]);have aC:=s2.trans s3;have am:A≠m:=Qe Qb hl;have aN:Q m=Gq:=s2.free hl;exists λaP o J=>iW λ(m:Ge)(ov xs:List V)(e l:List Th)(x4:Option V)=>lW (o=[Ga ↑R,Ga aj,Ga ↑A,Ga ↑m,x4,Gq,Gq,Gq,Gq]) (Za Q J) (Q m=Gq) (A≠m) (J A/.lst ov) (J m/.lst xs) (Zw J ov e) (Zw J xs l) (∀u∈e,u∈S) (∀u∈l,u∈S) (t∈e\/t∈l) (∀(i:Nat)w a,e[i]?/Th.mk w a->∀p∈a,(∃j:Nat,i<j/\e[j]?/p)\/p∈l) (aP=Q8 l) (⇑e+Q8 l<=1000),
  {_,m,[],[aj],[],[t],Gq,1,aC,aN,am,s3 _ _ Qb,Qb,.nil,.one (hv.same aC),(λu H=>nomatch H),λu H=>by rw[GV]at H;subst H;exact tS,.inr Tc,λi w a b=>by simp at b,1,by simp[Q8];ext}
 clear s3 aC am aN hl;rintro aP o J ⟨m,ov,xs,e,l,x4,rfl,sm,hl,am,go,gl,aO,aT,fO,fT,aQ,Xr,rfl,sz⟩;have lx:=⇑aT;have lo:=⇑aO;have lT:=Zl l;refine{0,Ts _,λc hz=>?_};have s4:=Qf hz (.lst []);exists .list (X9 l),.list [],.lst (s4 _ _ gl) (aT.same s4).dts,.lst Qb .nil,by simp only[Tu];exact lj l (by rw[Uq,ER];exactλu H=>(W.good u (fT u H)).1),by simp[Tu,Gw],?_,_,Xb
 .simp only[Dp,TW];ext
 have ev:TX (.list (X9 l)) (.list [])=l.isEmpty:=by
  simp only[TX];rw[U8];cases l with
  |nil=>simp[X9]
  |cons t r=>simp[X9]
 rw[ev];rcases Sm l with rfl|⟨Tr,u,eT⟩
 .refine Q4 ?_;have tO:t∈e:=aQ.resolve_right ⋯;have Xr:∀(i:Nat)w a,e[i]?/Th.mk w a->∀p∈a,∃j:Nat,i<j/\e[j]?/p:=λi w a b p L=>(Xr i w a b p L).resolve_right ⋯;have ah:=sm.trans s4;have ay:=s4 _ _ go;have aK:=aO.same s4;generalize zj J c (.lst [])=H3 at ah ay aK⊢;intro d hd;have s5:=Qf hd (Uw P w d []);have aM:Q d=Gq:=ah.free hd;have aL:=s5 _ _ ay;have a9:=aK.same s5;have ba:A≠d:=Qe ay hd;have bw:⇑e<=1000:=by ext
  let bb:Nat->St->Hp->Prop:=λk o B=>iy λ(x4 x6 x7 x8:Option V)=>lB (o=[Ga ↑R,Ga aj,Ga ↑A,Ga ↑m,x4,Ga ↑d,x6,x7,x8]) (R7 d (zj H3 d (Uw P w d [])) B) (je P w B d k (λu=>u∈e.reverse.take k) z)
  refine⟨_,Xb,A,ov,Xb,Qk aL,v9 (K:=K) (a:=A) (xs:=ov) bb
   {320,R7.refl,[],Gz _,Qb,(λp L=>nomatch L),by simp} (by rintro k o B _ ⟨_,_,_,_,_,T,_⟩;exact Qk (T _ _ aL ba)) ?_ ?_⟩
  .rintro k x o B hk ⟨x4,x6,x7,x8,rfl,T,N5⟩;have a1:k<ov.length:=by have:=(Gg.mp hk).1;simpa using this
   have hx:∃u,e.reverse[k]?/u/\Z5 (zj H3 d (Uw P w d [])) x u:=by rw[EJ a1]at hk;have(u,e1,e2):=a9.get hk;refine{u,?_,e2};rw[EJ ∅,<-lo];exact e1
   ac_nf;have(u,eu,hx):=hx;have tu:Q6 (zj H3 d (Uw P w d [])) B:=T.Qv Qb (λxs c=>by cases c);have aH:=hx.Qv tu;have fu:=fO u (SM.mp (Gc eu));have(ag,h,us,a,rfl,rfl,hb,an):=aH.inv;intros;have aZ:∀p∈a,p∈S:=W.cl _ fu;have gu:=W.good _ fu;have a7:∀p∈a,p∈e.reverse.take k:=λp L=>by
    have e1:e[⇑e - 1 - k]?/Th.mk h a:=by rw[EJ ∅]at eu;exact eu
    have(j,hj,ej):=Xr _ _ _ e1 p L;have aY:j<⇑e:=(Gg.mp ej).1;have e2:e.reverse[⇑e - 1 - j]?/p:=by rw[EJ ∅];rw[show ⇑e - 1 - (⇑e - 1 - j)=j by ext];exact ej
    have D:(e.reverse.take k)[⇑e - 1 - j]?/p:=by rw[DR ∅];exact e2
    exact Gc D
   have bf:⇑a<=3000:=by have M:=Zl a;have N:=gu.2.2;simp only[Th.size]at N;ext
   have a4:=⇑an;refine{00,ag,0,Qj hb,Wj _ _,λr hr=>?_};rw[iD];have s6:=Qf hr (.tup us);refine{r,1,{_,Qj Qb},λp L=>?_};refine Jx (K:=K) (a:=r) (xs:=us) (small ∅) (λi g o E=>(∃O,o=[O,Ga ↑d])/\g=((a.take i).map z).map jv/\E=zj (zj B r (.tup us)) p (.lst g)) {{40},by simp,1} (by rintro i g o E _ ⟨_,_,b⟩;exact Qj (by rw[b];exact Qf L _ _ _ Qb)) ?_ ?_
   .rintro i y g o E hi a3 ⟨⟨O,rfl⟩,rfl,rfl⟩ aw;ac_nf;have(D,aa,hy):=an.get hi;have(b',_,_,_,rfl,_,_,_):=hy.inv;have s7:=s6.trans (Qf L (.lst (((a.take i).map z).map jv)));have(ab,h0,M,N,h3):=N5.same s7;intros;have af:=W.good D (aZ D (Gc aa));exists 0,⟨d,ab,Xb,M⟩,00,d,b',_,ab,kd D,11,⟨M,N⟩,Ot (hy.same s7) af.1 af.2.1;rw[h3 D (a7 D (Gc aa))];refine{aw,{40},?_,by rw[Vb]};rw[TD,aa];simp
   rintro g o E a3 ⟨_,rfl,rfl⟩ aF;rw[a4,Tw]at aF⊢;have ak:=s6.trans (Qf L (.lst ((a.map z).map jv)));generalize zj (zj B r (.tup us)) p (.lst ((a.map z).map jv))=E at*;have a8:Za Q E:=λG o' v=>ak _ _ (T _ _ ((ah.trans s5) _ _ v) (Qe v aM));have aq:=hR.same a8;have aE:=ak _ _ hb;have N6:=N5.same ak;have bu:(⇑es<=100000):=by ext
   refine{0,R,1,{_,Qk aq.at_},λp2 au=>?_};refine Rl (K:=K) (a:=R) (xs:=es) (small ∅) (λi g o X=>(∃O,o=[O,Ga ↑ag])/\Df (U3 E ir) g ((I.take i).filter λr=>decide (r.1=h))/\X=zj E p2 (.lst g)) {{40},by simp;exact .nil,1} (by rintro i g o X _ ⟨_,_,b⟩;exact Qk (by rw[b];exact Qf au _ _ _ aq.at_)) ?_ ?_
   .rintro i y g o X hi ⟨⟨O,rfl⟩,py,rfl⟩ ae;ac_nf;have(C,er,G,l',rfl,hc,ar,_):=Qy aq.pr hi;intros;have Y:=Qf au (.lst g);exists 0,G,201,Qj (Y _ _ hc),Z6,0,ag,201,Qj (Y _ _ aE),Z6,10;have et:I.take (i+1)=I.take i++[C]:=by rw[TD,er];rfl
    by_cases b:C.1=h
    .rw[Tg (show V.str C.1=V.str h by rw[b])];refine Yo {0,ae,{40},?_,by rw[Vb]};rw[et,SY,E3 (by simp[b])];exact Zs py (.cons ⟨G,l',Xb,hc,ar,id⟩ .nil)
    .rw[Td (show¬V.str C.1=V.str h fromλc=>b (by injection c))];refine Q4 {ae,{40},?_,1};rw[et,SY,SQ (by simp[b])];simpa using py
   rintro g o X ⟨_,py,rfl⟩ ae;rw[be,Tw]at py;have ad:=Qf au (.lst g);have aI:Df (U3 (zj E p2 (.lst g)) ir) g (I.filter λr=>decide (r.1=h)):=Qr py λ_ _ v=>v.kp (λv=>ad _ _ v) (λv _=>ad _ _ v);have aG:=ad _ _ aF;have a0:=ad _ _ aE;have N7:=N6.same ad;generalize zj E p2 (.lst g)=X at*;have a5:⇑g=⇑(I.filter λr=>decide (r.1=h)):=GJ aI;have bv:=Ni (λr:Row=>decide (r.1=h)) I;refine{0,p2,1,{_,Qk ae},λp3 av=>?_};refine Rl (K:=K) (a:=p2) (xs:=g) (small ∅) (λi Z o H8=>(∃O,o=[O,Ga ↑p])/\Z=((((I.filter λr=>decide (r.1=h)).take i).filter λr=>decide (r.2.1=a.map z)).map λr=>jv r.2.2)/\H8=zj X p3 (.lst Z)) {{40},by simp,1} (by rintro i Z o H8 _ ⟨_,_,b⟩;exact Qk (by rw[b];exact Qf av _ _ _ ae)) ?_ ?_
   .rintro i y Z o H8 hi ⟨⟨O,rfl⟩,rfl,rfl⟩ ac;ac_nf;have(C,er,G,l',rfl,hc,ar,_):=Qy aI hi;intros;generalize D:((((I.filter λr=>decide (r.1=h)).take i).filter λr=>decide (r.2.1=a.map z)).map λr=>jv r.2.2)=Z at*;have Y:=Qf av (.lst Z);exists 0,G,201,Qj (Y _ _ hc),Xt,0,.list ((C.2.1.map λn:Nat=>(n:Int)).map Eh),.list (((a.map z).map λn:Nat=>(n:Int)).map Eh),.lst (Y _ _ ar) (by rw[Oc];exact Ug _),.lst (Y _ _ aG) (by rw[Oc];exact Ug _),by simp only[Tu];exact Ue _,by simp only[Tu];exact Ue _,?_,_,Xb
    .have:=Os (C.2.1.map λn:Nat=>(n:Int));simp only[Dp];ext
    have ee:TX (.list ((C.2.1.map λn:Nat=>(n:Int)).map Eh)) (.list (((a.map z).map λn:Nat=>(n:Int)).map Eh))=decide (C.2.1=a.map z):=by simp only[TX];rw[rH];exact decide_eq_decide.mpr AJ
    rw[ee];have et:(I.filter λr=>decide (r.1=h)).take (i+1)=(I.filter λr=>decide (r.1=h)).take i++[C]:=by rw[TD,er];rfl
    by_cases b:C.2.1=a.map z
    .rw[Tg b];refine Yo {0,G,201,Qj (Y _ _ hc),R4,ac,{40},?_,by rw[Vb]};rw[et,SY,E3 (by simp[b]),TZ,D];rfl
    .rw[Td b];refine Q4 {ac,{40},?_,1};rw[et,SY,SQ (by simp[b])];simpa using D.symm
   rintro Z o H8 ⟨_,rfl,rfl⟩ ac;have a6:(((((I.filter λr=>decide (r.1=h)).take ⇑g).filter λr=>decide (r.2.1=a.map z)).map λr=>jv r.2.2))=[jv (z (.mk h a))]:=by rw[a5,Tw,Qyc (w:=h) (ns:=a.map z) (n:=z (.mk h a)) hR.nd (W.mem _ fu)];rfl
   rw[a6]at ac⊢;have al:=Qf av (.lst [jv (z (.mk h a))]);have a2:=al _ _ aG;have bs:=al _ _ a0;have N8:=N7.same al;have aJ:=(ak.trans ad).trans al;generalize zj X p3 (.lst [jv (z (.mk h a))])=H8 at*;exists 030,.inl {_,Qk ac,1},10;rw[Tg (by rfl)];refine Yo ?_;exists 00,.int (-1),((a.map z).map λn:Nat=>(n:Int)).map Eh,.int _,.lst a2 (by rw[Oc];exact Ug _),by simp[Tu],Ue _,?_,0
   .simp only[Dp];ext
   have ni:((((a.map z).map λn:Nat=>(n:Int)).map Eh).any λd=>TX d (.int (-1)))=Gx:=by rw[Ml];intro d hd;have(n,hn,rfl):=Tx.mp hd;have(D,_,rfl):=Tx.mp hn;simp[TX]
   rw[ni];refine Yo ?_;refine{0,p3,201,Qk ac,Z6,00,N8.set ∅ gu.1 gu.2.1 (aH.same aJ) λH9 b9 N9=>?_};exists 320,λG o' M N=>b9 _ _ (aJ _ _ (T _ _ M N)) N;ac_nf;have(ab,h0,M,N,h3):=N9;intros;refine{ab,h0,M,N,λu' ai=>h3 u' ?_};rw[TD,eu]at ai;rcases Gh.mp ai with c|c
   .exact .inl c
   .exact .inr (by simpa using c)
  .rintro o B ⟨x4,x6,x7,x8,rfl,T,N5⟩;have tu:Q6 (zj H3 d (Uw P w d [])) B:=T.Qv Qb (λxs c=>by cases c);ac_nf;have(ag,_,_,_,rfl,_,_,_):=hv.inv;have g:t∈e.reverse.take ov.length:=by rw[lo,<-SI,Tw];exact SM.mpr tO
   have(ab,h0,M,N,h3):=N5;intros;exists 0,⟨d,ab,Xb,M⟩,00,d,ag,_,ab,kd t,11,⟨M,N⟩,Ot ((hv.same (ah.trans s5)).Qv tu) gt.1 gt.2.1;rw[h3 t g];exact q B λb o' v=>T _ _ (s5 _ _ (ah _ _ v)) (Qe v aM)
 .have eT:l=Tr++[u]:=by simpa using eT
  subst eT;have aV:(Tr++[u]).isEmpty=Gx:=by cases Tr<;>rfl
  rw[aV];refine Yo ?_;ac_nf;have(g,x,rfl,O,T):=Ir aT;intros;have az:Q8 (Tr++[u])=Q8 Tr+u.size:=by rw[Xj];simp[Q8]
  rw[az]at sz;have bn:=Rj u;have uS:=fT u ⋯;exists λaB C=>∃m',m'<Q8 (Tr++[u])/\iW λ(m:Ge)(ov xs:List V)(e l:List Th)(x4:Option V)=>lW (aB=[Ga ↑R,Ga aj,Ga ↑A,Ga ↑m,x4,Gq,Gq,Gq,Gq]) (Za Q C) (Q m=Gq) (A≠m) (C A/.lst ov) (C m/.lst xs) (Zw C ov e) (Zw C xs l) (∀u∈e,u∈S) (∀u∈l,u∈S) (t∈e\/t∈l) (∀(i:Nat)w a,e[i]?/Th.mk w a->∀p∈a,(∃j:Nat,i<j/\e[j]?/p)\/p∈l) (m'=Q8 l) (⇑e+Q8 l<=1000),λaB C v=>v;have aU:(g++[x])[⇑(g++[x]) - 1]?/x:=by simp
  exists 0,.inl {13,Qk (s4 _ _ gl)},m,301,s4 _ _ gl,aU;rw[Sz];have M:R7 m J (zj (zj J c (.lst [])) m (.lst g)):=λG A b v=>by rw[Qh v];exact s4 _ _ b
  have l5:(zj (zj J c (.lst [])) m (.lst g)) m/.lst g:=Qb;generalize zj (zj J c (.lst [])) m (.lst g)=B at M l5⊢;have t5:Q6 J B:=M.Qv gl (λxs b=>by cases b);have aX:Za Q B:=λG A b=>M G A (sm _ _ b) (Qe b hl);have Z:=M _ _ go am;exists 0,.inl {13,Qk Z},0,A,ov,01,Z,(by rw[TH];ext);have N:R7 A B (zj B A (.lst (ov++[x]))):=λG o' b v=>by rw[Qh v];exact b
  have o6:(zj B A (.lst (ov++[x]))) A/.lst (ov++[x]):=Qb;generalize zj B A (.lst (ov++[x]))=E at N o6⊢;have t6:Q6 B E:=N.Qv Z (λxs b=>by cases b);have aA:Za Q E:=λG o' b=>N G o' (aX _ _ b) (Qe b ho);have l6:=N _ _ l5 (Tb am);have ap:=t5.trans t6;have O:=O.Qv ap;have T:=T.Qv ap;ac_nf;have(b0,h,D,a,rfl,rfl,aR,an):=T.inv;intros;have bq:=⇑an;have bf:=Zl a;have br:=⇑O;have bp:=Zl Tr;have bo:(Th.mk h a).size=Q8 a+1:=by simp only[Th.size]
  refine{000,b0,0,Qj aR,Wj _ _,λr aW=>?_};rw[iD];have s7:=Qf aW (.tup D);refine{r,D,1,.inr (Qj Qb),λl2 aS=>?_};have s8:=Qf aS (.lst D);refine{m,l2,g,D,11,s8 _ _ (s7 _ _ l6),Qb,small ∅,λn hn=>?_};have s9:=Qf hn (.lst (g++D));have ao:=s7.trans s8;have X:=ao.trans s9;exists Q8 (Tr++a),by rw[az,Xj];ext,n,ov++[↑b0],g++D,e++[Th.mk h a],Tr++a,_,Xb,aA.trans X,(aA.trans ao).free hn,?_,X _ _ o6,Qb,((aO.Qv ap).append (.one T)).same X,(O.append an).same X,?_,?_,?_,?_,Xb
  .exact Qe (ao _ _ o6) hn
  .intro u' ai;rcases Gh.mp ai with c|c
   .exact fO u' c
   .rw[GV]at c;rw[c];exact uS
  .intro u' ai;rcases Gh.mp ai with c|c
   .exact fT u' (Gu _ c)
   .exact W.cl _ uS u' c
  .rcases aQ with c|c
   .exact .inl (Gu _ c)
   .rcases Gh.mp c with c|c
    .exact .inr (Gu _ c)
    .rw[GV]at c;rw[c];exact .inl (TJ _ Tc)
  .intro i w' ax b p L;have Y:(e++[Th.mk h a])[⇑e]?/Th.mk h a:=by simp
   rcases Dh i ⇑e with hi|hi
   .rw[TB hi]at b;rcases Xr i w' ax b p L with⟨j,hj,ej⟩|c
    .exact .inl {j,hj,by rw[TB (Gg.mp ej).1];exact ej}
    .rcases Gh.mp c with c|c
     .exact .inr (Gu _ c)
     .rw[GV]at c;exact .inl {⇑e,hi,by rw[c];exact Y}
   .have:i=⇑e:=by have:=(Gg.mp b).1;rw[Gk,GQ]at this;ext
    subst this;rw[Y]at b;cases b;exact .inr (TJ _ L)
  .rw[Gk,GQ,Xj];ext
inductive Ar(vs:List V)(H:Hp)(Q:VK):Prop
 |mk (R:Ge) (es:List V) (rs:List Row) (h0:vs=[↑R]) (h1:jI H R es rs) (h2:∀H':Hp,Za H H'->Q (.bl Gi) H'):Ar vs H Q
def wX:Sp:=λa H Q _=>Ar a H Q
inductive mi(H:Hp)(l:Ge)(v:V)(r:Row):Prop
 |mk (c:_) (l':_) (h0:v=↑c) (h1:H c/.tup [.str r.1,↑l']) (h2:H l'/.lst (r.2.1.map jv)) (h3:l'≠l):mi H l v r
noncomputable def sgD(r:Row):DI:=.tuple [.str r.1,.list ((r.2.1.map λn:Nat=>(n:Int)).map Eh)]
theorem AX{l:Ge}(h:mi H l v r):Dt H v (sgD r):=by have(c,d,rfl,a,b,_):=h;exact .tup a (.cons (.str _) (.cons (.lst b (by rw[Oc];exact Ug _)) .nil))
theorem AI(h:DM r.1=Gi):(sgD r).canLay0=Gi:=by have a:=Ue (r.2.1.map λn:Nat=>(n:Int));simp only[sgD,Tu,Gw,h,a,SE,LI]
theorem UR(r:Row):(sgD r).depth<=4:=by have:=Os (r.2.1.map λn:Nat=>(n:Int));simp only[sgD,Dp,TW];ext
theorem VZ{l:Ge}{a:List V}(h:Df (mi H l) a rs):hF H a (rs.map sgD):=by
 induction h with
 |nil=>exact .nil
 |cons h r b=>exact .cons (AX h) b
theorem Qzb(h:∀r∈rs,DM r.1=Gi):Gw (rs.map sgD)=Gi:=by
 induction rs with
 |nil=>rfl
 |cons r rs b=>rw[Tt];simp only[Gw,AI (h r Tc),b λr a=>h r (Gr _ a),LI]
theorem XW{b:Row}(h:TX (sgD r) (sgD b)=Gi):(r.1,r.2.1)=(b.1,b.2.1):=by
 simp only[sgD,TX,Dx,SE,T5]at h;have(c,a):=h;rw[rH]at a;have a:=AJ.mp (Do a);have c:r.1=b.1:=by simpa using c
 rw[c,a]
theorem yu:Q7 ["_law_rows","_law_signs","_law_row","_law_number"] ["_law_rows"] (Qo pJ):=by eq_refl
theorem Qmq(F:Wd K "_law_is_world" "_law_is_world" pJ f fd)(o:hO mg)
  (GH:Q3 P w K mg base Ya 1 fH dH ["_law_found"] (lR K))(kH:KI K fH)(bH:zk K dH ["_law_found"] [])(mH:MG mg "_law_whole" fH):
  Q3 P w K mg base Ya 2 f fd ["_law_rows"] wX:=by
 refine F.ok yu (λc ab b a g=>?_) (λh e t s ab c b a D g=>?_)
 .obtain⟨R,N,k,rfl,_⟩:=g;rfl
 have(R,N,k,rfl,m,q):=g;have U:=yu.nd;have hu:=D.units;have al:⇑N=⇑k:=GJ m.pr;have am:=m.len;exists _,(Qc (Zc (Yi (Zz (Qm Zy rfl o.isinstance Ta (Qa {0} (Qa (Z8 (v:=.ty "list") rfl o.list T9 Xb) Qd)))))
  (Qg (Qt Z9)) Qw)
  (Qc (Qz 1 U (Zu Qd))
  (Qc (Yb Tj rfl (Yh {0}) (Z7 2 U)
  (Qc (Zc (PW.pt (Yu (Yi (Zz (Qm Zy rfl o.isinstance Ta (Qa {2} (Qa (Z8 (v:=.ty "tuple") rfl o.tuple Dg Xb) Qd))))) (Yu (Qp Wf (Qm Zd rfl o.len GY (Qa {2} Qd)) Qi (Qu _)) (Xe (Yi (Zz (Qm Zy rfl o.isinstance Ta (Qa (Qn Qs {2} Qi) (Qa (Z8 (v:=.ty "str") rfl o.str EK Xb) Qd)))))))))
  (Qg (Qt Z9)) Qw)
  (Qc (Zc (PW.pt (Yu (Yi (Zz (Qm Zy rfl o.isinstance Ta (Qa (Qn Qs {2} Qi) (Qa (Z8 (v:=.ty "list") rfl o.list T9 Xb) Qd))))) (Yu (Yi (Zz (Zb GH D rfl mH kH bH .nil Q5 (Qa (Qn Qs {2} Qi) Qd)))) (Xe (Qp Vh (Qn Qs {2} Qi) Qi (Qu _))))))
  (Qg (Qt Z9)) Qw)
  (Qc (Yb Tj rfl (Yh (Qn Qs {2} Qi)) (Z7 3 U)
  (Qg (Zc (PW.pt (Yu (Yi (Zz (Zb GH D rfl mH kH bH .nil Q5 (Qa {3} Qd)))) (Xe (Qp Vh {3} Qi (Qu _)))))
  (Qg (Qt Z9)) Qw)))
  (Qc (Zc (Qp (Q3w hu) (Zf (Qa (Qn Qs {2} Qi) (Qa (Qn Qs {2} Qi) Qd))) {1} rfl)
  (Qg (Qt Z9)) Qw)
  (Qg (Zn (X0 Te Tv Tz Z4 {1} (Qa (Zf (Qa (Qn Qs {2} Qi) (Qa (Qn Qs {2} Qi) Qd))) Qd)))))))))
  (Qg (Qt Z9)))))
 refine{032,Gi,1,.lst m.at_,Ou,Gi,1,Q4 ?_};refine{Ts _,λl L=>?_};have s1:=Qf L (.lst []);let ai:Nat->St->Hp->Prop:=λi r v=>jN λ(p:List V)(Z z:Option V)=>jK (r=[Ga ↑R,Ga ↑l,Z,z]) (Za ab v) (v l/.lst p) (Df (mi v l) p (k.take i))
 refine⟨_,Xb,R,Xb,{_,Qk (s1 _ _ m.at_)},Yw (K:=K) (a:=R) (xs:=N) ai
  {[],30,s1,Qb,by simp;exact .nil} (by rintro i r v _ ⟨_,_,_,_,y,_⟩;exact Qk (y _ _ m.at_)) ?_ ?_⟩
 .rintro i x r v hi ⟨p,Z,z,rfl,y,O,M⟩;ac_nf;have(a,H,c,b,rfl,hc,ac,_):=Qy m.pr hi;intros;have h:=y _ _ hc;have C:=y _ _ ac;have W:b≠l:=Qe ac L;have nc:c≠l:=Qe hc L;have ag:⇑p=⇑(k.take i):=GJ M;rw[Db]at ag;have ak:=m.few a (Gc H);refine{032,Gi,1,.tup h,Iv,Gi,1,Q4 ?_};exists 030,.inr {_,Qj h,1},10;rw[Tg (by rfl)];refine Q4 ?_;refine{0,c,201,Qj h,Z6,32,Gi,1,.str _,Rf,Gi,1,Q4 ?_};refine{0,c,201,Qj h,Xt,32,Gi,1,.lst C,Ou,Gi,1,Q4 ?_};refine{0,c,201,Qj h,R4,2,Gi,Gx,1,.int _,Rh,Iw,Gi,1,Q4 ?_};exists 0,c,201,Qj h,R4,3010;rw[Td (show¬((a.2.2:Int)<0) by ext)];refine Q4 ?_;refine⟨_,Xb,c,_,_,_,Xb,Xb,Qj h,Xt,b,Xb,{_,Qk C},Yw (K:=K) (a:=b) (xs:=a.2.1.map jv) (λj r t=>∃z:Option V,r=[Ga ↑R,Ga ↑l,Ga ↑c,z]/\t=v)
   {401} (by rintro j r t _ ⟨_,_,e⟩;exact Qk (by rw[e];exact C)) ?_ ?_⟩
  .rintro j u r t A ⟨z,rfl,rfl⟩;obtain⟨n,rfl⟩:∃n,jv n=u:=by
    rw[Tq]at A;cases e:a.2.1[j]? with
    |none=>rw[e]at A;cases A
    |some n=>rw[e]at A;exact{n,T3 A}
   refine{02,Gi,Gx,1,.int _,Rh,Iw,Gi,1,Q4 ?_};exists 403010;rw[Td (show¬((n:Int)<0) by ext)];exact Q4 {401}
  .rintro r t ⟨z,rfl,rfl⟩;refine{0,c,201,Qj h,Z6,0,c,201,Qj h,Xt,Yy,λB ad=>?_};have s4:=Qf ad (.tup [.str a.1,↑b]);have aj:Df (mi (zj t B (.tup [.str a.1,↑b])) l) p (k.take i):=Qr M (by rintro _ _ ⟨c,b,S,I,T,J⟩;exact{c,b,S,s4 _ _ I,s4 _ _ T,J});have ah:=m.ok a (Gc H);exists 0,sgD a,(k.take i).map sgD,AX (l:=l) {B,b,1,Qb,s4 _ _ C,W},.lst (s4 _ _ O) (VZ aj),AI ah,Qzb λa D=>m.ok a (Dm D),?_,0
   .have:=UR a;ext
   have ni:(((k.take i).map sgD).any λd=>TX d (sgD a))=Gx:=by
    rw[Ml];intro d hd aa;have(r',af,rfl):=Tx.mp hd;have e:=XW aa;have n1:=m.nd;have e1:k=k.take i++a::k.drop (i+1):=by
     conv=>lhs;rw[<-List.take_append_drop i k]
     congr 1;exact LN.trans (by rw[H];rfl)
    rw[e1,TZ,Tt,DP]at n1;exact n1.2.2 _ (Tx.mpr ⟨r',af,Xb⟩) _ Tc e
   rw[ni];refine Q4 ?_;have Q:=s4 _ _ O;refine{0,.inl {13,Qk Q},0,c,201,Qj (s4 _ _ h),Z6,0,c,201,Qj (s4 _ _ h),Xt,Yy,λA ae=>?_};have Y:=Qf ae (.tup [.str a.1,↑b]);exists l,p,01,Y _ _ Q,(by rw[TH];ext);have E:=s4.trans Y;have G:∀{e:Ge}{X:HO},(zj (zj t B (.tup [.str a.1,↑b])) A (.tup [.str a.1,↑b])) e/X->e≠l->(zj (zj (zj t B (.tup [.str a.1,↑b])) A (.tup [.str a.1,↑b])) l (.lst (p++[↑A]))) e/X:=λg n=>by rw[Qh n];exact g
   have tt:∀{e:Ge}{ys:List V},(zj (zj t B (.tup [.str a.1,↑b])) A (.tup [.str a.1,↑b])) e/.tup ys->e≠l:=λg aa=>by rw[aa,Y _ _ Q]at g;cases g
   exists p++[↑A],30,λe X g=>G (E _ _ (y _ _ g)) (Qe g L),Qb;rw[TD,H];refine Zs (Qr M (by rintro _ _ ⟨c,b,S,I,T,J⟩;exact{c,b,S,G (E _ _ I) (tt (E _ _ I)),G (E _ _ T) J,J})) (.cons {A,b,1,G Qb (tt Qb),G (E _ _ C) W,W} .nil)
 .rintro r v ⟨p,Z,z,rfl,y,O,M⟩;exact q _ y
inductive yy(vs:List V)(H:Hp)(Q:VK):Prop
 |mk (R:Ge) (a:Ge) (es:List V) (us:List V) (rs:List Row) (S:List Th) (L:Th->Nat) (tl:Tl) (h0:vs=[↑R,↑a]) (h1:jI H R es rs) (h2:pz S L rs) (h3:H a/.lst us) (h4:Uk H us tl) (h5:(∀p∈tl,p.2.1∈S/\p.2.2∈S/\(L p.2.1=L p.2.2↔p.1=Gi))) (h6:∀H':Hp,Za H H'->Q (.bl Gi) H'):yy vs H Q
def tT:Sp:=λa H Q _=>yy a H Q
theorem Af:Q7 ["_law_rows","_law_told","_law_word","_law_one","_law_other","_law_here","_law_there"] ["_law_rows","_law_told"] (Qo qP):=by eq_refl
theorem Qzf{r p:Ge}{D C:Dn}(F:Wd K "_law_world_fits" "_law_world_fits" qP f fd)
  (GW:Q3 P w K mg base Ya 2 r D ["_law_rows"] wX)(kW:KI K r)(bW:zk K D ["_law_rows"] [])(mW:MG mg "_law_is_world" r)
  (z:Q3 P w K mg base Ya 1 p C ["_law_rows","_law_thing"] uN)(J:KI K p)(B:zk K C ["_law_rows","_law_thing"] [])(M:MG mg "_law_number_in" p):
  Q3 P w K mg base Ya 3 f fd ["_law_rows","_law_told"] tT:=by
 refine F.ok Af (λvs H Q E h=>?_) (λaa A e s H vs Q E I h=>?_)
 .obtain⟨R,a,m,O,n,S,L,tl,rfl,_⟩:=h;rfl
 have(R,a,m,O,n,S,L,tl,rfl,u,W,G,v,t,q):=h;have k:=Af.nd;have j:Yj 1 _:=I.mono ∅;exists _,(Qc (Zc (Yi (Zz (Zb GW I rfl mW kW bW .nil Q5 (Qa {0} Qd))))
  (Qg (Qt Z9)) Qw)
  (Qc (Yb Tj rfl (Yh {1}) (V8 rfl (Zr (Z7 2 k) (Zr (Z7 3 k) (Zr (Z7 4 k) Wp))))
  (Qc (Qz 5 k (Zb z j rfl M J B .nil Q5 (Qa {0} (Qa {3} Qd))))
  (Qc (Qz 6 k (Zb z j rfl M J B .nil Q5 (Qa {0} (Qa {4} Qd))))
  (Qg (Zc (PW.pt (Yu (Qp Vh {5} Qi (Qu _)) (Yu (Qp Vh {6} Qi (Qu _)) (Xe (Qp Wf (Ve Xs {5} {6} (Qu _)) (Ve Xs {2} Zi (Qu _)) (Qu _))))))
  (Qg (Qt Z9)) Qw)))))
  (Qg (Qt Z9))))
 refine{0,R,m,n,1,u,λH1 N=>{Gi,1,Q4 ?_}};refine⟨_,Xb,a,Xb,{_,Qk (N _ _ G)},Yw (K:=K) (a:=a) (xs:=O) (λi o l=>∃T U X Y Z:Option V,o=[Ga ↑R,Ga ↑a,T,U,X,Y,Z]/\Za H l)
  {220,N} (by rintro i o l _ ⟨_,_,_,_,_,_,d⟩;exact Qk (d _ _ G)) ?_ (by rintro o l ⟨_,_,_,_,_,h,d⟩;subst h;exact q _ d)⟩
 rintro i x o l hi ⟨T,U,X,Y,Z,rfl,d⟩;ac_nf;have((b,x,y),ep,c,v1,v2,rfl,hc,t1,t2):=Qy v hi;have(xS,yS,iff):=t _ (Gc ep);intros;exists c,0,Qj (d _ _ hc),13030301;refine{00,R,v1,m,n,S,L,x,1,u.same d,W,xS,t1.same d,λH3 s3=>?_};have g:=d.trans s3;refine{00,R,v2,m,n,S,L,y,1,u.same g,W,yS,t2.same g,λH4 s4=>?_};exists 403010;rw[Td (show¬((L x:Int)<0) by ext)];refine Q4 ?_;exists 403010;rw[Td (show¬((L y:Int)<0) by ext)];refine Q4 ?_;exists 40010110;have eq:decide (V.bl (decide (jv (L x)=jv (L y)))=V.bl (decide (V.str (tw b)=V.str "same")))=Gi:=by
  have A:decide (V.str (tw b)=V.str "same")=b:=by rw[Zh,AK]
  have E:decide (jv (L x)=jv (L y))=b:=by
   unfold jv;rw[Jm];by_cases e:L x=L y
   .have Q:b=Gi:=iff.mp e;rw[e,Q];simp
   .have:b=Gx:=by
     cases b
     .rfl
     .exact absurd (iff.mpr Xb) e
    rw[this];simp;ext
  rw[A,E];exact Tg rfl
 rw[eq];exact Q4 {220,g.trans s4}
theorem we{d:List Lt}(h:Wq H ir v d):∃L a,v=.ref L/\jj H L a d:=by have(L,a,k,m,_,b,n):=h;refine{L,a,k,m,b,λl p=>?_,n};have(j,f):=Dj.mp p;have q:⇑a=⇑d:=GJ b;have o:=(Gg.mp f).1;have(r,e,c,t,u,s,_,_,_,_,_,g,i):=Qy b (Gf (show j<⇑a by ext));rw[f]at e;cases e;exact⟨g,i⟩
theorem vL{S:List Th}(h:U1 H ir v rs)(W:oE tl S rs):∃(R:Ge)(a:List V)(L:Th->Nat),v=.ref R/\jI H R a rs/\pz S L rs/\∀s∈S,∀t∈S,L s=L t↔Cg tl s t:=by
 have(R,a,b,e,_,g):=h;have(L,i,j,f):=W.ex;refine{R,a,L,b,{e,g,by have:=W.len;ext,λr c=>?_,λr c=>?_,W.nd},{W.cl,W.good,j},i}
 .obtain⟨⟨k,d⟩,ht,rfl⟩:=f r c;have:=(W.good _ ht).1;simp only[Th.ok,T5]at this;exact this.1
 .obtain⟨⟨k,d⟩,ht,rfl⟩:=f r c;have b:=(W.good _ ht).2.2;have e:=Zl d;simp only[Th.size]at b;show ⇑(d.map L)<=1000;rw[Gv];ext
inductive uW(vs:List V)(H:Hp)(Q:VK):Prop
 |mk (a:Ge) (us:List V) (v1:V) (v2:V) (f:V) (tl:Tl) (s:Th) (t:Th) (h0:vs=[↑a,v1,v2,f]) (h1:H a/.lst us) (h2:Uk H us tl) (h3:iu tl) (h4:⇑tl<=900) (h5:¬Xq tl) (h6:Z5 H v1 s) (h7:Z5 H v2 t) (h8:s.good) (h9:t.good) (h10:Vs H ir tl (.ask s t) f) (h11:∀H':Hp,Za H H'->Q (.bl Gi) H'):uW vs H Q
def sU:Sp:=λa H Q _=>uW a H Q
theorem QS:(("equal":TM)=="equal")=Gi:=by decide+kernel
theorem Kw:(("unlike":TM)=="equal")=Gx:=by decide+kernel
theorem Q8t:(("unlike":TM)=="unlike")=Gi:=by decide+kernel
theorem ZR:(("open":TM)=="equal")=Gx:=by decide+kernel
theorem KU:(("open":TM)=="unlike")=Gx:=by decide+kernel
theorem ZN:(("open":TM)=="open")=Gi:=by decide+kernel
theorem AZ:Q7 ["_law_told","_law_one","_law_other","_law_found","_law_pair","_law_more"] ["_law_told","_law_one","_law_other","_law_found"] (Qo Jb):=by eq_refl
theorem Qs7{T:Ge}{dF:Dn}(F:Wd K "_law_is_right" "_law_is_right" Jb f0 fd)(g:hO mg)
  (GS:Q3 P w K mg base Ya 3 fS dS ["_law_told","_law_lines","_law_one","_law_other","_law_pair"] vf)(kS:KI K fS)(bS:zk K dS ["_law_told","_law_lines","_law_one","_law_other","_law_pair"] [])(mS:MG mg "_law_lines_show" fS)
  (GH:Q3 P w K mg base Ya 1 fH dH ["_law_found"] (lR K))(kH:KI K fH)(bH:zk K dH ["_law_found"] [])(mH:MG mg "_law_whole" fH)
  (GF:Q3 P w K mg base Ya 3 T dF ["_law_rows","_law_told"] tT)(kF:KI K T)(bF:zk K dF ["_law_rows","_law_told"] [])(mF:MG mg "_law_world_fits" T):
  Q3 P w K mg base Ya 4 f0 fd ["_law_told","_law_one","_law_other","_law_found"] sU:=by
 refine F.ok AZ (λA u v e U=>?_) (λD C E G u A v e B U=>?_)
 .obtain⟨j,c,h,i,ao,m,s,t,rfl,_⟩:=U;rfl
 have(j,c,h,i,ao,m,s,t,rfl,l,o,tg,aO,nb,J,L,gs,gt,ok,q):=U;have nd:=AZ.nd;have az:Yj 1 _:=B.mono ∅;show∃t,Xu ?my _ t/\_;let aE:Vq ?my Jb 6:={_,Qg (Qt (Zb GF B rfl mF kF bF .nil Q5 (Qa (Qn Qs {3} Qi) (Qa (Zg X5 {0} (Zu (Qa (Zf (Qa Zi (Qa {1} (Qa {2} Qd)))) Qd))) Qd))))}
 let aF:Vq ?my Jb 4:={_,Qc (Qz 5 nd (Zu (Qa (Zf (Qa Zi (Qa {1} (Qa {2} Qd)))) Qd))) (Qc (Zc (Yi (Zz (Zb GF B rfl mF kF bF .nil Q5 (Qa (Qn Qs {3} Qi) (Qa (Zg X5 {0} {5}) Qd))))) (Qg (Qt Z9)) Qw) aE.2)}
 let aG:Vq ?my Jb 3:={_,Qc (Zc (PW.pt (Yu (Qp Wf (Qn Qs {3} Qi) Zi (Qu _)) (Xe (Qp Wf (Qm Zd rfl g.len GY (Qa {3} Qd)) Qi (Qu _))))) (Qg (Qt Z9)) Qw) aF.2}
 let aH:Subtype (Xu ?my (sub [2,0,3] (Q9 Jb))):={_,Qg (Qt (Zb GS B rfl mS kS bS .nil Q5 (Qa {0} (Qa (Qn Qs {3} Qi) (Qa (Qn Qs {4} Qi) (Qa (Qn Qs {4} Qi) (Qa (Zf (Qa {1} (Qa {2} Qd))) Qd)))))))}
 let aI:Subtype (Xu ?my (sub [2,0,1] (Q9 Jb))):={_,Qc (Zc (PW.pt (Yu (Qp Vh (Qn Qs {3} Qi) Qi (Qu _)) (Yu (Qp kP (Qn Qs {3} Qi) (Qm Zd rfl g.len GY (Qa {0} Qd)) (Qu _)) (Xe (Qp Wf (Qn Qs (Qn Ze {0} (Qn Qs {3} Qi)) Qi) Zi (Qu _)))))) (Qg (Qt Z9)) Qw) (Qc (Qz 4 nd (Z3 V2 (Qn Ze {0} (Qn Qs {3} Qi)) (Yd Qi) Yv)) aH.2)}
 let aJ:Subtype (Xu ?my (sub [2,0] (Q9 Jb))):={_,Qc (Zc (PW.pt (Yu (Qp Wf (Qm Zd rfl g.len GY (Qa {3} Qd)) Qi (Qu _)) (Xe (Yi (Zz (Zb GH az rfl mH kH bH .nil Q5 (Qa (Qn Qs {3} Qi) Qd))))))) (Qg (Qt Z9)) Qw) aI.2}
 let aK:Subtype (Xu ?my (sub [1,0] (Q9 Jb))):={_,Qg (Qt (lO (Ve Xs (Qm Zd rfl g.len GY (Qa {3} Qd)) Qi (Qu _)) (jR (Zb GS B rfl mS kS bS .nil Q5 (Qa {0} (Qa (Qn Qs {3} Qi) (Qa {1} (Qa {2} (Qa U9 Qd)))))))))}
 let aL:Vq ?my Jb 1:={_,Qc (Zc (Qp Xs (Qn Qs {3} Qi) Zi (Qu _)) aK.2 Qw) (Qc (Zc (Qp Xs (Qn Qs {3} Qi) Zi (Qu _)) aJ.2 Qw) aG.2)}
 exists _,Qc (Zc (PW.pt (Yu (Yi (Zz (Qm Zy rfl g.isinstance Ta (Qa {3} (Qa (Z8 (v:=.ty "tuple") rfl g.tuple Dg Xb) Qd))))) (Yu (Qp Vh (Qm Zd rfl g.len GY (Qa {3} Qd)) Qi (Qu _)) (Xe (Yi (Zz (Qm Zy rfl g.isinstance Ta (Qa (Qn Qs {3} Qi) (Qa (Z8 (v:=.ty "str") rfl g.str EK Xb) Qd))))))))) (Qg (Qt Z9)) Qw) aL.2;have aP:⇑c=⇑m:=GJ o;rcases ok with⟨cg,b,lv,ls,rfl,a,Z,Y,ac,aa⟩|⟨ah,b,n,x,y,lv,ls,rfl,a,ax,Z,Y,ac,aa⟩|⟨ah,ay,b,r1,r2,aC,aD,S,rfl,a,aA,aB,W1,W2,N,O,hS⟩
 .obtain⟨Q,ab,rfl,V⟩:=we Z;refine{032,Gi,1,.tup a,Iv,Gi,1,Q4 ?_};exists 030,.inr {_,Qj a,1},3010;rw[Td (by show¬((2:Int)<2);decide)];refine Q4 ?_;refine{0,b,201,Qj a,Z6,32,Gi,1,.str _,Rf,Gi,1,Q4 ?_};exists 0,b,201,Qj a,Z6,10;rw[Zh,QS];refine Yo ?_;exists 030,.inr {_,Qj a,1},10;rw[Tg (by rfl)];refine Yo ?_;exact{00,b,201,Qj a,Xt,00,j,Q,c,ab,h,i,.non,m,Gq,ls,s,t,ac,1,l,o,tg,by ext,V,Y,1,J,L,aa,λr z=>q r z}
 .subst_vars;have(Q,ab,rfl,V):=we Z;have(u,_,_):=ax;have R:=(Gg.mp u).1;obtain⟨E,e⟩:∃E,c[n]?/E:={_,Gf ∅};have(p,v,d,C,D,rfl,A,G,I):=Qy o e;intros;rw[u]at v;cases v;refine{032,Gi,1,.tup a,Iv,Gi,1,Q4 ?_};exists 030,.inr {_,Qj a,1},3010;rw[Td (by show¬((3:Int)<2);decide)];refine Q4 ?_;refine{0,b,201,Qj a,Z6,32,Gi,1,.str _,Rf,Gi,1,Q4 ?_};exists 0,b,201,Qj a,Z6,10;rw[Zh,Kw];refine Q4 ?_;exists 0,b,201,Qj a,Z6,10;rw[Zh,Q8t];refine Yo ?_;exists 030,.inr {_,Qj a,1},10;rw[Tg (by rfl)];refine Q4 ?_;refine{0,b,201,Qj a,Xt,2,Gi,Gx,1,.int _,Rh,Iw,Gi,1,Q4 ?_};exists 0,b,201,Qj a,Xt,3010;rw[Td (show¬((n:Int)<0) by ext)];refine Q4 ?_;exists 0,b,201,Qj a,Xt,030,.inl {_,Qk l,1},3010;rw[Td (show¬((n:Int)>=((⇑c:Nat):Int)) by ext)];refine Q4 ?_;exists 00,b,201,Qj a,Xt,j,c,301,Qk l,Zk e,d,201,Qj A,Z6,10;rw[Tg (by rfl)];refine Q4 ?_;refine{00,b,201,Qj a,Xt,j,c,301,Qk l,Zk e,0,d,0,Qj A,Wj _ _,λk W=>?_};rw[iD];have s4:=Qf W (.tup [C,D]);refine{00,b,201,Qj (s4 _ _ a),R4,0,k,201,Qj Qb,Z6,0,k,201,Qj Qb,Xt,00,Yy,λH X=>?_};have M:=Qf X (.tup [h,i]);have f:=s4.trans M;exact{j,Q,c,ab,C,D,↑H,m,Ga (s,t),ls,x,y,ac,1,f _ _ l,o.Qv (Q6.of f),tg,by ext,V.same f,Y,{H,h,i,1,Qb,J.same f,L.same f,gs,gt},G.same f,I.same f,aa,λr z=>q r (f.trans z)}
 .subst_vars;have(R1,am,L1,rfl,ap,aM,af):=vL aA W1;have(R2,an,ak,rfl,aq,aN,ag):=vL aB W2;intros;refine{032,Gi,1,.tup a,Iv,Gi,1,Q4 ?_};exists 030,.inr {_,Qj a,1},3010;rw[Td (by show¬((3:Int)<2);decide)];refine Q4 ?_;refine{0,b,201,Qj a,Z6,32,Gi,1,.str _,Rf,Gi,1,Q4 ?_};exists 0,b,201,Qj a,Z6,10;rw[Zh,ZR];refine Q4 ?_;exists 0,b,201,Qj a,Z6,10;rw[Zh,KU];refine Q4 ?_;exists 0,b,201,Qj a,Z6,10;rw[Zh,ZN];refine Q4 ?_;exists 030,.inr {_,Qj a,1},10;rw[Tg (by rfl)];refine Q4 ?_;refine{00,Vk,λk W=>?_};have s4:=Qf W (.tup [.str "unlike",h,i]);refine{Wx,λH X=>?_};have M:=Qf X (.lst [↑k]);have f:=s4.trans M;refine{0,b,201,Qj (f _ _ a),Xt,00,j,H,c,01,f _ _ l,Qb,small (by show _+1<=_;ext),λc6 au=>?_};have s6:=Qf au (.lst (c++[↑k]));have C:=f.trans s6;have ae:∀p∈m,p.2.1∈S/\p.2.2∈S:=λp A=>hS p.1 p.2.1 p.2.2 A;refine{R1,c6,am,c++[↑k],aC,S,L1,m++[(Gx,s,t)],1,ap.same C,aM,Qb,Zs (o.Qv (Q6.of C)) (.cons {k,h,i,1,(M.trans s6) _ _ Qb,J.same C,L.same C} .nil),?_,λH2 g2=>{Gi,1,Q4 ?_}}
  .intro p A;rcases Gh.mp A with e|e
   .obtain⟨E,G⟩:=ae p e;exists E,G;rw[af _ E _ G];have(R,x,y):=p;cases R with
    |true=>exact{λ_=>rfl,λ_=>.told e}
    |false=>exact{λu=>absurd ⟨x,y,e,u⟩ nb,λv=>by cases v}
   .rw[GV]at e;subst e;exists N,O;rw[af _ N _ O];exact{λu=>absurd u ah,λv=>by cases v}
  have ad:=C.trans g2;refine{0,b,201,Qj (ad _ _ a),R4,000,Vk,λI av=>?_};have s8:=Qf av (.tup [.str "same",h,i]);refine{Wx,λc9 aw=>?_};have s9:=Qf aw (.lst [↑I]);have aj:=s8.trans s9;refine{j,c9,c,01,(ad.trans aj) _ _ l,Qb,small (by show _+1<=_;ext),λal ar=>?_};have ai:=Qf ar (.lst (c++[↑I]));have D:=(ad.trans aj).trans ai;refine{R2,al,an,c++[↑I],aD,S,ak,m++[(Gi,s,t)],1,aq.same D,aN,Qb,Zs (o.Qv (Q6.of D)) (.cons {I,h,i,1,(s9.trans ai) _ _ Qb,J.same D,L.same D} .nil),?_,λr z=>q r (D.trans z)};intro p A;rcases Gh.mp A with e|e
  .obtain⟨E,G⟩:=ae p e;exists E,G;rw[ag _ E _ G];have(R,x,y):=p;cases R with
   |true=>exact{λ_=>rfl,λ_=>.told (Gu _ e)}
   |false=>exact{λu=>absurd u (ay x y e),λv=>by cases v}
  .rw[GV]at e;subst e;exists N,O;rw[ag _ N _ O];exact{λ_=>rfl,λ_=>.told (TJ _ Tc)}
inductive zQ(vs:List V)(H:Hp)(Q:VK):Prop
 |mk (a:Ge) (e:Ge) (us:List V) (f:V) (tl:Tl) (d:Dd) (h0:vs=[↑a,↑e,f]) (h1:H a/.lst us) (h2:Uk H us tl) (h3:iu tl) (h4:⇑tl<=10) (h5:¬Xq tl) (h6:iF H ↑e d) (h7:d.good) (h8:Vs H ir tl d f) (h9:∀H':Hp,Za H H'->Q (.bl Gi) H'):zQ vs H Q
def zO:Sp:=λa H Q _=>zQ a H Q
theorem OZ{X:Ge->Prop}{b:Bool}{x y:Th}{f:V}(h:Vs H X tl (.tell b x y) f):(¬Xq (tl++[(b,x,y)])/\f=.int ((⇑tl:Int)+1))\/(Xq (tl++[(b,x,y)])/\∃d a c,f=.ref d/\H d/.tup [.str "clash",a,c]):=by
 rcases h with⟨e,g⟩|⟨d,n,a,c,k,j,e,g,i,_⟩
 .exact .inl ⟨e,g⟩
 .exact .inr {{a,c,Gc i.1,i.2.1},d,2,e,g}
theorem xf:Q7 ["_law_told","_law_deed","_law_found"] ["_law_told","_law_deed","_law_found"] (Qo Rm):=by eq_refl
theorem Qv0{H I:Ge}{W X:Dn}(F:Wd K "_law_answered_so" "_law_answered_so" Rm f0 fd)(m:hO mg)
  (GI:Q3 P w K mg base Ya 4 H W ["_law_told","_law_one","_law_other","_law_found"] sU)(kI:KI K H)(bI:zk K W ["_law_told","_law_one","_law_other","_law_found"] [])(mI:MG mg "_law_is_right" H)
  (u:Q3 P w K mg base Ya 1 fS dS ["_law_found","_law_due"] p6)(C:KI K fS)(v:zk K dS ["_law_found","_law_due"] [])(E:MG mg "_law_so" fS)
  (GZ:Q3 P w K mg base Ya 2 I X ["_law_told","_law_deed"] qf)(kZ:KI K I)(bZ:zk K X ["_law_told","_law_deed"] [])(mZ:MG mg "_law_barred" I):
  Q3 P w K mg base Ya 5 f0 fd ["_law_told","_law_deed","_law_found"] zO:=by
 refine F.ok xf (λs h k g j=>?_) (λL J O Z h s k g N j=>?_)
 .obtain⟨G,c,l,o,f,d,rfl,_⟩:=j;rfl
 have(G,c,l,o,f,d,rfl,r,Q,tg,ak,nb,M,z,ok,q):=j;have nd:=xf.nd;have ad:Yj 2 _:=N.mono ∅;have B:Yj 1 _:=N.mono ∅;show∃t,Xu ?my _ t/\_;let af:Subtype (Xu ?my (sub [2,0] (Q9 Rm))):={_,Qg (Qt (lO (Qm Zy rfl m.isinstance Ta (Qa {2} (Qa (Z8 (v:=.ty "tuple") rfl m.tuple Dg Xb) Qd))) (jR (Zb u B rfl E C v .nil Q5 (Qa (Z3 V2 {2} Yv (Yd Qi)) (Qa (Zf (Qa Zi Qd)) Qd))))))}
 let ag:Vq ?my Rm 2:={_,Qc (Zc (Zz (Zb GZ ad rfl mZ kZ bZ .nil Q5 (Qa {0} (Qa {1} Qd)))) af.2 Qw) (Qg (Qt (Zb u B rfl E C v .nil Q5 (Qa {2} (Qa (Zg Vf (Qm Zd rfl m.len GY (Qa {0} Qd)) Qi) Qd)))))}
 let ah:Subtype (Xu ?my (sub [1,0,0,0] (Q9 Rm))):={_,Qg (Qt (Zb u B rfl E C v .nil Q5 (Qa {2} (Qa (Zg Ru (Qm Zd rfl m.len GY (Qa {0} Qd)) (Qn Qs {1} Qi)) Qd))))}
 let ai:Subtype (Xu ?my (sub [1,0] (Q9 Rm))):={_,Qc (Zc (uM j7 j7 Qi (Qn Qs {1} Qi) (Qm Zd rfl m.len GY (Qa {0} Qd))) ah.2 Qw) (Qg (Qt (Zb u B rfl E C v .nil Q5 (Qa {2} (Qa Zi Qd)))))}
 let aj:Subtype (Xu ?my (sub [0,0] (Q9 Rm))):={_,Qg (Qt (Zb GI (N.mono ∅) rfl mI kI bI .nil Q5 (Qa {0} (Qa (Qn Qs {1} Qi) (Qa (Qn Qs {1} Qi) (Qa {2} Qd))))))}
 exists _,Qc (Zc (Qp Xs (Qn Qs {1} Qi) Zi (Qu _)) aj.2 Qw) (Qc (Zc (Qp Xs (Qn Qs {1} Qi) Zi (Qu _)) ai.2 Qw) ag.2);have D:⇑l=⇑f:=GJ Q;have sz:=vw tg;have ae:∀p∈f,(p.2.1.ok=Gi/\p.2.1.depth<=8)/\p.2.2.ok=Gi/\p.2.2.depth<=8:=λp A=>{{(tg p A).1.1,(tg p A).1.2.1},(tg p A).2.1,(tg p A).2.2.1};cases d with
 |ask x y=>have(Y,T,U,n,a,R,S):=M;cases n;exists 0,c,201,Qj a,Z6,10;rw[Zh,wY];refine Yo ?_;exact{00,c,201,Qj a,Xt,0,c,201,Qj a,R4,0,G,l,T,U,o,f,x,y,1,r,Q,tg,by ext,nb,R,S,z.1,z.2,ok,λb e=>q b e}
 |back i=>
  have(Y,n,a):=M;cases n;exists 0,c,201,Qj a,Z6,10;rw[Zh,PN];refine Q4 ?_;exists 0,c,201,Qj a,Z6,10;rw[Zh,Av];refine Yo ?_;have ok:o=(Uo f (.back i)).2:=ok;have J:¬(0<=i/\i<=(⇑f:Int))->o=.str "no moment":=λj=>by rw[ok];simp only[Uo];rw[Gs j]
  have L:(0<=i/\i<=(⇑f:Int))->o=.int ((⇑f:Int) - i):=λj=>by rw[ok];simp only[Uo];rw[GX j]
  exists 0,c,201,Qj a,Xt,3010;refine Us (λg=>?_) (λg=>?_)
  .have g:0<=i:=Do g;exists 030,.inl {_,Qk r,1},3010;refine Us (λh=>?_) (λh=>?_)
   .have h:i<=(⇑l:Int):=Do h;have s:=L {g,by rw[<-D];exact h};subst s;exists 0030,.inl {_,Qk r,1},0,c,201,Qj a,Xt,301;rw[D];exact{2,.int ((⇑f:Int) - i),1,.int _,.int _,by simp[Tu],by simp[W0],by simp[Dp],λb e=>q b e}
   .have h:¬i<=(⇑l:Int):=λk=>h (Tg k);have s:=J λk=>h (by rw[D];exact k.2);subst s;exact{02,.str "no moment",1,.str _,.str _,by simp only[Tu];decide+kernel,by simp[W0],by simp[Dp],λb e=>q b e}
  .have g:¬0<=i:=λk=>g (Tg k);have s:=J λk=>g k.1;subst s;refine{Gx,1,Q4 ?_};exact{02,.str "no moment",1,.str _,.str _,by simp only[Tu];decide+kernel,by simp[W0],by simp[Dp],λb e=>q b e}
 |tell aa x y=>
  have(Y,T,U,n,a,R,S):=M;cases n;have k:=z.1;have s:=z.2;have zx:=k.2.2;have zy:=s.2.2;exists 0,c,201,Qj a,Z6,10;rw[Zh,yi];refine Q4 ?_;exists 0,c,201,Qj a,Z6,10;rw[Zh,FB];refine Q4 ?_;refine{00,G,c,l,f,T,U,aa,x,y,1,r,Q,a,R,S,{k.1,k.2.1},{s.1,s.2.1},ae,by ext,λg H1 h hb=>{g,1,?_}};rcases OZ ok with⟨J,L⟩|⟨J,cc,z1,z2,L,h3⟩
  .have O:g=Gx:=by
    cases g
    .rfl
    .exact absurd (hb.mp Xb) J
   subst O L;refine Q4 ?_;exists 0030,.inl {_,Qk (h _ _ r),1},301;rw[D];exact{2,.int ((⇑f:Int)+1),1,.int _,.int _,by simp[Tu],by simp[W0],by simp[Dp],λb e=>q b (h.trans e)}
  .have O:g=Gi:=hb.mpr J;subst O L;refine Yo ?_;have Z:=h _ _ h3;refine{032,Gi,1,.tup Z,Iv,Gi,1,Yo ?_};refine{00,cc,0,Qj Z,vA _ 1 ⋯,λc3 ab=>?_};rw[show U2 [V.str "clash",z1,z2] Gq (Ga 1)=[V.str "clash"]from Oe _ 1];have s3:=Qf ab (.tup [.str "clash"]);refine{Wx,λc4 ac=>?_};have s4:=Qf ac (.tup [.str "clash"]);exact{2,.tuple [.str "clash"],1,.tup (s4 _ _ Qb) (.cons (.str _) .nil),.tup Qb (.cons (.str _) .nil),by simp only[Tu,Gw,SE];decide+kernel,by simp[W0,Z0],by simp[Dp,TW],λb e=>q b ((h.trans (s3.trans s4)).trans e)}
noncomputable abbrev lN:List TM:=["_law_script","_law_things","_law_deeds","_law_told","_law_moment","_law_more","_law_seed","_law_one","_law_first","_law_second","_law_k","_law_left","_law_right","_law_here","_law_due","_law_again"]
theorem sx:Q7 lN ["_law_script"] (Qo jC):=by eq_refl
theorem qo(a:List Int)(j k:Nat):∃b:List Int,U2 (a.map V.int) (Ga (j:Int)) (Ga (k:Int))=b.map V.int/\⇑b<=k - j/\(⇑a<=j->b=[]):=by
 refine{(a.drop (min j ⇑a)).take (min k ⇑a - min j ⇑a),?_,?_,λh=>?_}
 .unfold U2;rw[HT.Im,HT.Im,Gv,MA,CF]
 .rw[Db];ext
 .rw[Nat.min_eq_right h,Nat.sub_eq_zero_of_le (RV _ _)];simp
theorem Qzp{b:List Th}{m:Nat}(D:Drawn b m)(a:m<=4):∀t∈b,t.good:=λt ht=>by have(j,a):=Dj.mp ht;have f:j<⇑b:=(Gg.mp a).1;have c:=D.any j t a;have d:=D.dep j t a;have e:=D.len;exact{D.ok t ht,by lia,by lia}
theorem AQ{a ml:List Dd}{b:Nat}(h:b<=⇑(after [] a)):after [] (a++[.back (b:Int)]++ml)=after ((after [] a).take b) ml:=by
 rw[Vn,Vn];have:after (after [] a) [.back (b:Int)]=(after [] a).take b:=by simp only[after,Uo];rw[GX {by ext,by ext}];rfl
 rw[this]
theorem P6{b:List Dd}(c:¬Xq tl)(a:Nat):after [] ((tl.take a).map Ww++b)=after (tl.take a) b:=by rw[Vn];have:=(xw (tl.take a) [] (by rw[LQ];exactλz=>c (Ig (qu a) z))).1;rw[LQ]at this;rw[this]
theorem zE{c:Type}(A B:List c)(k:Nat):(A++B).take (⇑A+k)=A++B.take k:=by
 induction A with
 |nil=>simp
 |cons a A b=>rw[TQ,DG,Nat.add_right_comm,Ly,b,DG]
theorem uE{a:Type}(A B:List a)(k:Nat):(A++B)[⇑A+k]?=B[k]?:=by rw[TU ∅,Nat.add_sub_cancel_left]
theorem UT{b:List V}{a:List Dd}(n:Nat)(h:Vt H b a):Vt H (b.take n) (a.take n):=Rg h n
theorem Q5e(g:iu tl)(a:⇑tl<=100):(Fq (tl.map tlD)).canLay0=Gi/\W0 (Fq (tl.map tlD))<=1000000/\(Fq (tl.map tlD)).depth<=60:=UB (OM g) (by rw[Gv];exact a)
theorem Q21{M nW nT:Nat}{fD fE fF fA fW fT fO:Ge}{dD dE dF dA dW dT dO:Dn}{pW pT:TM}(F:Wd K "law" "law" jC f0 fd)(g:hO mg)(hM:5<=M)(hW:nW<=M)(hT:nT<=M)
  (GD:Q3 P w K mg base Ya 2 fD dD ["_law_cells"] (Ac K))(kD:KI K fD)(bD:zk K dD ["_law_cells"] [])(mD:MG mg "_law_drawn_things" fD)
  (GE:Q3 P w K mg base Ya 2 fE dE ["_law_cells","_law_things"] (xT K))(kE:KI K fE)(bE:zk K dE ["_law_cells","_law_things"] [])(mE:MG mg "_law_drawn_deeds" fE)
  (GF:Q3 P w K mg base Ya 3 fF dF ["_law_deeds"] sY)(kF:KI K fF)(bF:zk K dF ["_law_deeds"] [])(mF:MG mg "_law_after" fF)
  (GA:Q3 P w K mg base Ya 1 fA dA ["_law_script","_law_k"] (va K))(kA:KI K fA)(bA:zk K dA ["_law_script","_law_k"] [])(mA:MG mg "_law_at" fA)
  (GW:Q3 P w K mg base Ya nW fW dW [pW] yx)(kW:KI K fW)(bW:zk K dW [pW] [])(mW:MG mg "answers" fW)
  (GT:Q3 P w K mg base Ya nT fT dT [pT] ua)(kT:KI K fT)(bT:zk K dT [pT] [])(mT:MG mg "told_after" fT)
  (GH:Q3 P w K mg base Ya 1 fH dH ["_law_found"] (lR K))(kH:KI K fH)(bH:zk K dH ["_law_found"] [])(mH:MG mg "_law_whole" fH)
  (GO:Q3 P w K mg base Ya 5 fO dO ["_law_told","_law_deed","_law_found"] zO)(kO:KI K fO)(bO:zk K dO ["_law_told","_law_deed","_law_found"] [])(mO:MG mg "_law_answered_so" fO)
  (GS:Q3 P w K mg base Ya 1 fS dS ["_law_found","_law_due"] p6)(kS:KI K fS)(bS:zk K dS ["_law_found","_law_due"] [])(mS:MG mg "_law_so" fS):
  Q3 P w K mg base Ya (M+1) f0 fd ["_law_script"] (nZ K):=by
 refine F.ok sx (λE C D z e=>?_) (λS G aN s C E D z hr e=>?_)
 .obtain⟨a,Q,rfl,_⟩:=e;rfl
 have(a,Q,rfl,hS,cz,q):=e;have o:=sx.nd;have cr:Yj 5 _:=hr.mono hM;have a5:Yj 3 _:=hr.mono (by lia);have a4:Yj 2 _:=hr.mono (by lia);have al:Yj 1 _:=hr.mono (by lia);have bL:Yj nW _:=hr.mono hW;have bK:Yj nT _:=hr.mono hT;exists _,(Qc (Qz 1 o (Zb GD a4 rfl mD kD bD .nil Q5 (Qa (Z3 Wn {0} (Yd Qi) (Yd Qi)) Qd)))
  (Qc (Qz 2 o (Zb GE a4 rfl mE kE bE .nil Q5 (Qa (Z3 Wn {0} (Yd Qi) (Yd Qi)) (Qa {1} Qd))))
  (Qc (Qz 3 o (Zb GF a5 rfl mF kF bF .nil Q5 (Qa {2} Qd)))
  (Qc (Qz 4 o (Zg Wm (Zb GA al rfl mA kA bA .nil Q5 (Qa {0} (Qa Qi Qd))) (Zg Vf (Qm Zd rfl g.len GY (Qa {3} Qd)) Qi)))
  (Qc (Qz 5 o (Zb GE a4 rfl mE kE bE .nil Q5 (Qa (Z3 Wn {0} (Yd Qi) (Yd Qi)) (Qa {1} Qd))))
  (Qc (Qz 6 o (Zg Wo (Zb GA al rfl mA kA bA .nil Q5 (Qa {0} (Qa Qi Qd))) Qi))
  (Qc (Qz 7 o (Qn Ze {1} (Zg Wm {6} (Qm Zd rfl g.len GY (Qa {1} Qd)))))
  (Qc (Zn (X0 Te Tv Tz Z4 {5} (Qa (Zf (Qa Zi (Qa {7} (Qa (Qn Ze {1} (Zg Wm (Zg Wo {6} Qi) (Qm Zd rfl g.len GY (Qa {1} Qd)))) Qd)))) Qd)))
  (Qc (Qz 8 o (Zb GW bL rfl mW kW bW .nil Q5 (Qa (Zg X5 (Zg X5 {2} (Zu (Qa (Zf (Qa Zi (Qa {4} Qd))) Qd))) {5}) Qd)))
  (Qc (Qz 9 o (Zb GW bL rfl mW kW bW .nil Q5 (Qa (Zg X5 (Z3 Wn {3} Yv (Yd {4})) {5}) Qd)))
  (Qc (Zc (PW.pt (Yu (Yi (Zz (Qm Zy rfl g.isinstance Ta (Qa {8} (Qa (Z8 (v:=.ty "list") rfl g.list T9 Xb) Qd))))) (Xe (Yi (Zz (Qm Zy rfl g.isinstance Ta (Qa {9} (Qa (Z8 (v:=.ty "list") rfl g.list T9 Xb) Qd))))))))
  (Qg (Qt Z9)) Qw)
  (Qc (Zc (PW.pt (Yu (Qp Wf (Qm Zd rfl g.len GY (Qa {8} Qd)) (Zg Vf (Zg Vf (Qm Zd rfl g.len GY (Qa {2} Qd)) Qi) (Qm Zd rfl g.len GY (Qa {5} Qd))) (Qu _)) (Xe (Qp Wf (Qm Zd rfl g.len GY (Qa {9} Qd)) (Zg Vf {4} (Qm Zd rfl g.len GY (Qa {5} Qd))) (Qu _)))))
  (Qg (Qt Z9)) Qw)
  (Qc (Zc (PW.pt (Yu (Yi (Zz (Zb GH al rfl mH kH bH .nil Q5 (Qa (Qn Ze {8} (Qm Zd rfl g.len GY (Qa {2} Qd))) Qd)))) (Xe (Qp Wf (Qn Ze {8} (Qm Zd rfl g.len GY (Qa {2} Qd))) (Zg Ru (Qm Zd rfl g.len GY (Qa {3} Qd)) {4}) (Qu _)))))
  (Qg (Qt Z9)) Qw)
  (Qc (Yb Tj rfl (Vw rfl g.range (Qa (Qm Zd rfl g.len GY (Qa {5} Qd)) Qd)) (Z7 10 o)
  (Qc (Qz 11 o (Qn Ze {8} (Zg Vf (Zg Vf (Qm Zd rfl g.len GY (Qa {2} Qd)) Qi) {10})))
  (Qc (Qz 12 o (Qn Ze {9} (Zg Vf {4} {10})))
  (Qc (Qz 13 o (Zb GF a5 rfl mF kF bF .nil Q5 (Qa (Zg X5 (Z3 Wn {3} Yv (Yd {4})) (Z3 Wn {5} Yv (Yd {10}))) Qd)))
  (Qg (Yb Tj rfl (Yh (Zu (Qa {11} (Qa {12} Qd)))) (Z7 7 o)
  (Qg (Zc (Yi (Zz (Zb GO cr rfl mO kO bO .nil Q5 (Qa {13} (Qa (Qn Ze {5} {10}) (Qa {7} Qd))))))
  (Qg (Qt Z9)) Qw))))))))
  (Qc (Qz 14 o (Zb GF a5 rfl mF kF bF .nil Q5 (Qa (Zg X5 (Z3 Wn {3} Yv (Yd {4})) {5}) Qd)))
  (Qc (Qz 15 o (Zb GT bK rfl mT kT bT .nil Q5 (Qa (Zg X5 (Zg X5 {2} (Zu (Qa (Zf (Qa Zi (Qa {4} Qd))) Qd))) {5}) Qd)))
  (Qg (Qt (lO (Zb GS al rfl mS kS bS .nil Q5 (Qa {15} (Qa {14} Qd))) (jR (Zb GS al rfl mS kS bS .nil Q5 (Qa (Zb GT bK rfl mT kT bT .nil Q5 (Qa (Zg X5 (Z3 Wn {3} Yv (Yd {4})) {5}) Qd)) (Qa {14} Qd)))))))))))))))))))))))
 ac_nf;have(a7,aP,cC,_):=qo Q 1 5;have(a8,aQ,cD,_):=qo Q 5 9;have(a9,aR,cE,_):=qo Q 9 11;intros;have aP:U2 (Q.map V.int) (Ga 1) (Ga 5)=a7.map V.int:=aP;have aQ:U2 (Q.map V.int) (Ga 5) (Ga 9)=a8.map V.int:=aQ;have aR:U2 (Q.map V.int) (Ga 9) (Ga 11)=a9.map V.int:=aR;refine{000,a,0,hS,λp1 cm=>?_};rw[aP];have s1:=Qf cm (.lst (a7.map V.int));refine{p1,a7,1,Qk Qb,by lia,λae H u H1 g1 _ gl ga aO=>?_};have sA:=s1.trans g1;have cH:=aO.len;have gd:=Qzp aO (by lia);have cI:=⇑ga;have U:jE u:={WX aO.cl,gd,by lia};refine{000,a,0,sA.seq hS,λp4 cn=>?_};rw[aQ];have s4:=Qf cn (.lst (a8.map V.int));refine{0,p4,ae,a8,H,u,1,Qk Qb,by lia,s4 _ _ gl,ga.same s4,by lia,by lia,λq0 B c H2 g2 _ gq aU ld aS=>?_};have cg:∀d∈c,d.good:=λd m=>U.oy (aS d m);have cs:⇑B=⇑c:=GJ aU;refine{0,q0,B,c,1,gq,aU,cg,by lia,λqt r H3 g3 _ gt bN=>?_};have nb:¬Xq (after [] c):=Io K8;have b8:∀p∈after [] c,p.2.1∈u/\p.2.2∈u:=yD (λp hp=>nomatch hp) aS;have cG:⇑(after [] c)<=4:=by have:=Jy (ds:=c) (tl:=[]);simp only[S8]at this;lia
 have bs:∀(b:Nat)(ml:List Dd),b<=⇑(after [] c)->after [] (c++[.back (b:Int)]++ml)=after ((after [] c).take b) ml:=λb ml e=>AQ e;have aw:∀(b:Nat)(ml:List Dd),after [] (((after [] c).take b).map Ww++ml)=after ((after [] c).take b) ml:=λb ml=>P6 nb b;have cy:∀b:Nat,b<=⇑(after [] c)->Vs=Vs/\after [] (c++[.back (b:Int)])=(after [] c).take b:=λb e=>{1,by have:=AQ (ml:=[]) e;rw[DU]at this;exact this};have ct:⇑r=⇑(after [] c):=GJ bN;have bb:=((sA.trans s4).trans g2).trans g3;have bX:=(s4.trans g2).trans g3;have bC:=bX _ _ gl;have bw:=ga.same bX;have ci:=g3 _ _ gq;have cf:=aU.same g3;refine{0,a,Q,(0),1,bb.seq hS,λmm=>?_};exists 030,.inl {_,Qk gt,1},301301,(by lia);obtain⟨b,cc,bJ⟩:∃b:Nat,mm % ((⇑r:Int)+1)=(b:Int)/\b<=⇑(after [] c):=by have z:=DJ mm (show((⇑r:Int)+1)≠0 by lia);have C:=Ds mm (show(0:Int)<(⇑r:Int)+1 by lia);exact{(mm % ((⇑r:Int)+1)).toNat,by lia,by lia}
 show Ui 4 (V.int (mm % ((⇑r:Int)+1))) _ _ _;rw[cc];refine{000,a,0,bb.seq hS,λp5 co=>?_};rw[aR];have s5:=Qf co (.lst (a9.map V.int));refine{0,p5,ae,a9,H,u,1,Qk Qb,by lia,s5 _ _ bC,bw.same s5,by lia,by lia,λl A ad Y g5 cp bI bB cA ah=>?_};have cB:⇑A=⇑ad:=GJ bB;have aD:=s5.trans g5;have cv:=bb.trans aD;have ay:=aD _ _ bC;have bx:=bw.same aD;have cq:H3 l=Gq:=s5.free cp;refine{0,a,Q,(0),1,cv.seq hS,λn0=>{301,{by decide,by decide},?_}};have aB:(0:Int)<⇑H:=by lia
 ac_nf;have(N,b9,cd):=Je H (n0 / 7 % ⇑H) (DJ _ (by lia)) (Ds _ aB);have(x,ex,i1):=bx.get cd;have mx:=Gc ex;have(O,ca,ce):=Je H (n0 / 7 / 5 % ⇑H) (DJ _ (by lia)) (Ds _ aB);have(y,ey,i2):=bx.get ce;intros;have my:=Gc ey;exists 00030,.inl {H,Qk ay,1},301,aB,ae,H,_,N,11,Qk ay,b9;refine{0,.inl {13,Qk bI},000301,{by decide,by decide},030,.inl {H,Qk ay,1},301,aB,ae,H,_,O,11,Qk ay,ca,Vk,λh cj=>?_};have s6:=Qf cj (.tup [.str "ask",N,O]);have az:=s6 _ _ bI;exists l,A,01,az,(by rw[TH];lia);have bf:Q6 Y (zj (zj Y h (.tup [.str "ask",N,O])) l (.lst (A++[↑h]))):=(Q6.of s6).trans (Z2 λxs f=>by rw[az]at f;cases f);have aE:Za H3 (zj (zj Y h (.tup [.str "ask",N,O])) l (.lst (A++[↑h]))):=λbt cJ I=>by rw[Qh (Qe I cq)];exact s6 _ _ (aD _ _ I)
 have cb:(zj (zj Y h (.tup [.str "ask",N,O])) l (.lst (A++[↑h]))) h/.tup [.str "ask",N,O]:=by rw[Qh (λf=>by rw[<-f,Qb]at az;cases az)];exact Qb
 have J:(zj (zj Y h (.tup [.str "ask",N,O])) l (.lst (A++[↑h]))) l/.lst (A++[↑h]):=Qb;have T:Vt (zj (zj Y h (.tup [.str "ask",N,O])) l (.lst (A++[↑h]))) (A++[↑h]) (ad++[.ask x y]):=Zs (bB.Qv bf) (.cons {h,N,O,1,cb,i1.Qv bf,i2.Qv bf} .nil);generalize zj (zj Y h (.tup [.str "ask",N,O])) l (.lst (A++[↑h]))=H7 at*;have lm:⇑(A++[V.ref h])=⇑(ad++[Dd.ask x y]):=GJ T;have ah:∀d∈ad++[.ask x y],d.fits u:=λd m=>by
  rcases Gh.mp m with f|f
  .exact ah d f
  .rw[GV]at f;subst f;exact⟨mx,my⟩
 have cF:⇑(ad++[Dd.ask x y])<=3:=by rw[Gk,GQ];lia
 generalize A++[V.ref h]=ev at*;generalize ad++[Dd.ask x y]=ml at*;have bG:∀d∈ml,d.good:=λd m=>U.oy (ah d m);have ak:=aE _ _ gt;have aA:=bN.Qv (Q6.of aE);have ac:=aE _ _ ci;have bz:=cf.same aE;have bu:∀d∈c++[.back (b:Int)]++ml,d.fits u:=λd m=>by
  rcases Gh.mp m with f|f
  .rcases Gh.mp f with f|f
   .exact aS d f
   .rw[GV]at f;subst f;exact Ea
  .exact ah d f
 have bv:∀k,∀d∈((after [] c).take b).map Ww++ml.take k,d.fits u:=λk d m=>by
  rcases Gh.mp m with f|f
  .obtain⟨p,hp,rfl⟩:=Tx.mp f;exact b8 p (Dm hp)
  .exact ah d (Dm f)
 have aT:∀d∈((after [] c).take b).map Ww++ml,d.fits u:=λd m=>bv ⇑ml d (by rw[Tw];exact m);have am:⇑((after [] c).take b)=b:=by rw[Db];lia
 refine{00,Yy,λt aY=>?_};have s8:=Qf aY (.tup [.str "back",.int (b:Int)]);refine{Wx,λc3 aZ=>?_};have s9:=Qf aZ (.lst [↑t]);have b7:=s8.trans s9;refine{q0,c3,301,b7 _ _ ac,Qb,small (by show _+1<=_;lia),λc4 a0=>?_};have bR:=Qf a0 (.lst (B++[↑t]));have bZ:=b7.trans bR;refine{0,c4,l,301,Qb,bZ _ _ J,small (by rw[Gk];show _+1+_<=_;lia),λc5 a3=>?_};have bU:=Qf a3 (.lst (B++[↑t]++ev));have bc:=bZ.trans bU;refine{c5,B++[↑t]++ev,c++[.back (b:Int)]++ml,u,1,Qb,Zs (Zs (bz.same bc) (.cons (show iF _ ↑t (.back (b:Int))from{t,1,((s9.trans bR).trans bU) _ _ Qb}) .nil)) (T.same bc),U,bu,by simp only[Gk,GQ];lia,λf1 R H8 g8 _ ch a6 bQ=>?_};have b6:=bc.trans g8;refine{000,qt,0,Qk (b6 _ _ ak),λc6 ck=>?_};rw[Oe];have bV:=Qf ck (.lst (r.take b));have b0:=b6.trans bV;refine{0,c6,l,301,Qb,b0 _ _ J,small (by rw[Db];lia),λc7 cl=>?_};have bY:=Qf cl (.lst (r.take b++ev));have bd:=b0.trans bY;refine{c7,r.take b++ev,((after [] c).take b).map Ww++ml,u,1,Qb,Zs ((J0 b (aA.Qv (Q6.of bd))).dds) (T.same bd),U,aT,by rw[Gk,Gv,am];lia,λf2 aC H9 g9 _ aV bP cu=>?_};have L:=bd.trans g9;have be:=(bV.trans bY).trans g9;have aj:=be _ _ ch;refine{032,Gi,1,.lst aj,Ou,Gi,1,Q4 ?_};refine{032,Gi,1,.lst aV,Ou,Gi,1,Q4 ?_};exists 030,.inl {_,Qk aj,1},030,.inl {_,Qk (L _ _ ac),1},301030,.inl {_,Qk (L _ _ J),1},30110;rw[Tg (show V.int ((⇑R:Nat):Int)=V.int (((⇑B:Nat):Int)+1+((ev.length:Nat):Int)) by rw[a6];simp only[Gk,GQ];congr 1;lia)];refine Q4 ?_;exists 030,.inl {_,Qk aV,1},0030,.inl {_,Qk (L _ _ J),1},30110;rw[Tg (show V.int ((⇑aC:Nat):Int)=V.int ((b:Int)+((ev.length:Nat):Int)) by rw[bP,Gk,Gv,am];congr 1;lia)];refine Q4 ?_;have e1:R[⇑c]?/.int ((⇑(after [] c):Int) - (b:Int)):=by
  obtain⟨v,z⟩:∃v,R[⇑c]?/v:={_,Gf (by rw[a6];simp only[Gk,GQ];lia)};have ed:(c++[.back (b:Int)]++ml)[⇑c]?/.back (b:Int):=by rw[Dq,TU (Gz _),Hc];rfl
  have e:=bQ _ _ _ ed z;rw[Dq,SU (Gz _),Tw]at e;have e:v=(Uo (after [] c) (.back (b:Int))).2:=e;rw[z,e];simp only[Uo];rw[GX {by lia,by lia}]
 have ai:R8 R ((⇑B:Nat):Int)/.int ((⇑(after [] c):Int) - (b:Int)):=by rw[cs];exact Zk e1
 refine{0030,.inl {_,Qk (L _ _ ac),1},f1,R,301,Qk aj,ai,2,Gi,Gx,1,.int _,Rh,Iw,Gi,1,Q4 ?_};exists 0030,.inl {_,Qk (L _ _ ac),1},f1,R,301,Qk aj,ai,030,.inl {_,Qk (L _ _ ak),1},030110;rw[Tg (show V.int ((⇑(after [] c):Int) - (b:Int))=V.int (((⇑r:Nat):Int) - (b:Int)) by rw[ct])];refine Q4 ?_;have bM:∀k,iu (after ((after [] c).take b) (ml.take k))/\¬Xq (after ((after [] c).take b) (ml.take k))/\⇑(after ((after [] c).take b) (ml.take k))<=10:=λk=>by
  exists O5 (λp hp=>?_) λd m=>bG d (Dm m),Io λf=>nb (Ig (qu b) f)
  .have:=b8 p (Dm hp);exact{gd _ this.1,gd _ this.2}
  .have:=Jy (ds:=ml.take k) (tl:=(after [] c).take b);rw[am,Db]at this;lia
 refine⟨_,Xb,_,_,Xb,.inl {_,Qk (L _ _ J),1},_,Xb,by lia,by lia,V1 (lo:=0) (n:=((ev.length:Int)).toNat) (λk X HA=>∃x7 bg bh bi bj:Option V,X=[Ga ↑a,Ga ↑ae,Ga ↑q0,Ga ↑qt,Ga (.int (b:Int)),Ga ↑l,Ga (.int (n0 / 7)),x7,Ga ↑f1,Ga ↑f2,bg,bh,bi,bj,Gq,Gq]/\Za H9 HA)
  {220,λ_ _ e=>e} ?_ ?_⟩
 .rintro k X HA hk ⟨x7,bg,bh,bi,bj,rfl,sm⟩;have hk:k<⇑ml:=by lia
  have W:=L.trans sm;ac_nf;obtain⟨vd,aJ⟩:∃vd,ev[k]?/vd:={_,Gf (by lia)};have(d,ed,ab):=Qy T aJ;obtain⟨I,rfl⟩:∃I,vd=V.ref I:=by
   cases d with
   |tell aM x y=>have(a,_,_,e,_):=ab;exact⟨a,e⟩
   |ask x y=>have(a,_,_,e,_):=ab;exact⟨a,e⟩
   |back i=>have(a,e,_):=ab;exact⟨a,e⟩
  have l1:⇑(c++[Dd.back (b:Int)])=⇑c+1:=by rw[Gk,GQ]
  have Z:⇑(((after [] c).take b).map Ww)=b:=by rw[Gv,am]
  obtain⟨E,aH⟩:∃v,R[⇑c+1+k]?/v:={_,Gf (by rw[a6,Gk,l1];lia)};obtain⟨G,aI⟩:∃v,aC[b+k]?/v:={_,Gf (by rw[bP,Gk,Z];lia)};intros;have o1:=bQ (⇑c+1+k) d E (by rw[<-l1,uE];exact ed) aH;have o2:=cu (b+k) d G (by have:=uE (((after [] c).take b).map Ww) ml k;rw[Z]at this;rw[this];exact ed) aI;rw[show(c++[Dd.back (b:Int)]++ml).take (⇑c+1+k)=c++[Dd.back (b:Int)]++ml.take k by rw[<-l1,zE],bs b _ bJ]at o1;rw[show(((after [] c).take b).map Ww++ml).take (b+k)=((after [] c).take b).map Ww++ml.take k by have:=zE (((after [] c).take b).map Ww) ml k;rw[Z]at this;exact this,aw b]at o2;have(aG,ba,lk):=bM k;have a1:R8 R (((⇑B:Nat):Int)+1+(0+(k:Int)))/E:=by rw[show((⇑B:Nat):Int)+1+(0+(k:Int))=((⇑c+1+k:Nat):Int) by lia];exact Zk aH
  have a2:R8 aC ((b:Int)+(0+(k:Int)))/G:=by rw[show(b:Int)+(0+(k:Int))=((b+k:Nat):Int) by lia];exact Zk aI
  exists 0030,.inl {_,Qk (W _ _ ac),1},3010301,f1,R,301,Qk (sm _ _ aj),a1;exists 000301,f2,aC,301,Qk (sm _ _ aV),a2;refine{000,qt,0,Qk (W _ _ ak),λb1 aW=>?_};rw[Oe];have t1:=Qf aW (.lst (r.take b));refine{000,l,0,Qk (t1 _ _ (W _ _ J)),λb2 bq=>?_};rw[show(0+(k:Int))=((k:Nat):Int) by lia,Oe];have t2:=Qf bq (.lst (ev.take k));refine{b1,b2,301,t2 _ _ Qb,Qb,small (by rw[Db,Db];lia),λb3 aX=>?_};have t3:=Qf aX (.lst (r.take b++ev.take k));have aL:=(t1.trans t2).trans t3;have aa:=W.trans aL;refine{b3,_,((after [] c).take b).map Ww++ml.take k,1,Qb,Zs ((J0 b (aA.Qv (Q6.of aa))).dds) (UT k (T.same aa)),λd m=>U.oy (bv k d m),by rw[Gk,Z,Db];lia,λb4 hv HB gB _ ax th=>?_};rw[aw b]at th;have aK:=(sm.trans aL).trans gB;have aF:=aa.trans gB;refine{00,Yy,λb5 br=>?_};have t5:=Qf br (.lst [E,G]);refine⟨b5,Xb,{_,Qk Qb},Yw (K:=K) (a:=b5) (xs:=[E,G]) (λj X C=>∃x7:Option V,X=[Ga ↑a,Ga ↑ae,Ga ↑q0,Ga ↑qt,Ga (.int (b:Int)),Ga ↑l,Ga (.int (n0 / 7)),x7,Ga ↑f1,Ga ↑f2,Ga (.int (k:Int)),Ga E,Ga G,Ga ↑b4,Gq,Gq]/\Za (zj HB b5 (.lst [E,G])) C)
   {0,λ_ _ e=>e} (by rintro j X C _ ⟨_,_,z⟩;exact Qk (z _ _ Qb)) ?_ (by rintro X C ⟨x7,e,z⟩;subst e;exact{220,(aK.trans t5).trans z})⟩
  rintro j v X C D ⟨x7,rfl,z⟩;have S:=(aK.trans t5).trans z;have af:=L.trans S;have bp:Vs C ir (after ((after [] c).take b) (ml.take k)) d v:=by
   have z1:Vs C ir (after ((after [] c).take b) (ml.take k)) d E:=(o1.ex (Y:=ir) λbt ys _ _ e=>e).kp (Q6.of (be.trans S)) (λI _=>(be.trans S) _ _ I);have z2:Vs C ir (after ((after [] c).take b) (ml.take k)) d G:=(o2.ex (Y:=ir) λbt ys _ _ e=>e).kp (Q6.of S) (λI _=>S _ _ I)
   match j,D with
   |0,D=>cases D;exact z1
   |1,D=>cases D;exact z2
   |n+2,D=>simp at D
  refine{000,l,ev,301,Qk (af _ _ J),Zk aJ,0,b4,I,hv,v,_,d,1,(t5.trans z) _ _ ax,th.Qv (Q6.of (t5.trans z)),aG,lk,ba,ab.Qv (Q6.of af),bG d (Gc ed),bp,λHD sd=>{Gi,1,Q4 ?_}};exact{0,z.trans sd}
 .rintro X HA ⟨x7,bg,bh,bi,bj,rfl,sm⟩;have W:=L.trans sm;have(aG,ba,lk):=bM ⇑ml;rw[Tw]at aG ba lk;refine{000,qt,0,Qk (W _ _ ak),λb1 aW=>?_};rw[Oe];have t1:=Qf aW (.lst (r.take b));refine{0,b1,l,301,Qb,t1 _ _ (W _ _ J),small (by rw[Db];lia),λb3 aX=>?_};have t3:=Qf aX (.lst (r.take b++ev));have aa:=W.trans (t1.trans t3);have Z:⇑(((after [] c).take b).map Ww)=b:=by rw[Gv,am]
  refine{b3,_,((after [] c).take b).map Ww++ml,1,Qb,Zs ((J0 b (aA.Qv (Q6.of aa))).dds) (T.same aa),λd m=>U.oy (aT d m),by rw[Gk,Z];lia,λb4 hv HB gB _ ax th=>?_};rw[aw b]at th;have aF:=aa.trans gB;refine{00,Yy,λt aY=>?_};have u1:=Qf aY (.tup [.str "back",.int (b:Int)]);refine{Wx,λc3 aZ=>?_};have u2:=Qf aZ (.lst [↑t]);have ao:=u1.trans u2;refine{q0,c3,301,ao _ _ (aF _ _ ac),Qb,small (by show _+1<=_;lia),λc4 a0=>?_};have u3:=Qf a0 (.lst (B++[↑t]));have ap:=ao.trans u3;refine{0,c4,l,301,Qb,ap _ _ (aF _ _ J),small (by rw[Gk];show _+1+_<=_;lia),λc5 a3=>?_};have u4:=Qf a3 (.lst (B++[↑t]++ev));have aq:=ap.trans u4;have af:=aF.trans aq;refine{c5,B++[↑t]++ev,c++[.back (b:Int)]++ml,u,1,Qb,Zs (Zs (bz.same af) (.cons (show iF _ ↑t (.back (b:Int))from{t,1,((u2.trans u3).trans u4) _ _ Qb}) .nil)) (T.same af),U,bu,by simp only[Gk,GQ];lia,λag av HE E bk S=>?_};rw[bs b ml bJ]at S;have z:=aq.trans E;have(y1,y2,y3):=Q5e aG (by lia);refine{002,.list (Fw tlD _),1,.lst bk S.dts,.lst (z _ _ ax) (th.Qv (Q6.of z)).dts,y1,y2,y3,λHF C=>{Gi,1,Yo ?_}};have D:=(af.trans E).trans C;refine{000,qt,0,Qk (D _ _ ak),λd1 bm=>?_};rw[Oe];have ar:=Qf bm (.lst (r.take b));refine{0,d1,l,301,Qb,ar _ _ (D _ _ J),small (by rw[Db];lia),λd3 bn=>?_};have bo:=Qf bn (.lst (r.take b++ev));have au:=ar.trans bo;have G:=D.trans au;refine{d3,_,((after [] c).take b).map Ww++ml,u,1,Qb,Zs ((J0 b (aA.Qv (Q6.of G))).dds) (T.same G),U,aT,by rw[Gk,Z];lia,λcw cx HI gI bl an=>?_};rw[aw b]at an;have wI:=au.trans gI;exact{02,.list (Fw tlD _),1,.lst bl an.dts,.lst ((C.trans wI) _ _ (z _ _ ax)) ((th.Qv (Q6.of z)).Qv (Q6.of (C.trans wI))).dts,y1,y2,y3,λHJ gJ=>q HJ}
end
end K06
namespace L2
open PySem PySem.Spec PyProof.Rows
variable{p0 p1 p2:TM}
section
variable{K:Gd}{x qual:TM}{st:DQ}{f:Ge}{fd:Dn}
theorem Wd.b1(F:Wd K x qual st f fd)(h:∀(kV k n:Gj)(l:Option Ge)(j ct:Gj)(i:Gj),bindArgs (Et x qual (Vm st) (Q9 st) (Qo st) .none kV k n l j ct) {[i],[]}=pure ([p0].zip [i])):zk K fd [p0] []:=
 F.binds λa b c d e g o m=>by rcases o with _|⟨i,_|_⟩<;>first|exact h a b c d e g i|cases m
theorem Wd.b2(F:Wd K x qual st f fd)(h:∀(kV l o:Gj)(m:Option Ge)(k ct:Gj)(i j:Gj),bindArgs (Et x qual (Vm st) (Q9 st) (Qo st) .none kV l o m k ct) {[i,j],[]}=pure ([p0,p1].zip [i,j])):zk K fd [p0,p1] []:=
 F.binds λa b c d e g p n=>by rcases p with _|⟨i,_|⟨j,_|_⟩⟩<;>first|exact h a b c d e g i j|cases n
theorem Wd.b3(F:Wd K x qual st f fd)(h:∀(kV m p:Gj)(n:Option Ge)(l ct:Gj)(i j k:Gj),bindArgs (Et x qual (Vm st) (Q9 st) (Qo st) .none kV m p n l ct) {[i,j,k],[]}=pure ([p0,p1,p2].zip [i,j,k])):zk K fd [p0,p1,p2] []:=
 F.binds λa b c d e g q o=>by rcases q with _|⟨i,_|⟨j,_|⟨k,_|_⟩⟩⟩<;>first|exact h a b c d e g i j k|cases o
theorem Wd.b4{p3:TM}(F:Wd K x qual st f fd)(h:∀(kV n q:Gj)(o:Option Ge)(m ct:Gj)(i j k l:Gj),bindArgs (Et x qual (Vm st) (Q9 st) (Qo st) .none kV n q o m ct) {[i,j,k,l],[]}=pure ([p0,p1,p2,p3].zip [i,j,k,l])):zk K fd [p0,p1,p2,p3] []:=
 F.binds λa b c d e g r p=>by rcases r with _|⟨i,_|⟨j,_|⟨k,_|⟨l,_|_⟩⟩⟩⟩<;>first|exact h a b c d e g i j k l|cases p
theorem Wd.b5{p3 p4:TM}(F:Wd K x qual st f fd)(h:∀(kV o r:Gj)(p:Option Ge)(n ct:Gj)(i j k l m:Gj),bindArgs (Et x qual (Vm st) (Q9 st) (Qo st) .none kV o r p n ct) {[i,j,k,l,m],[]}=pure ([p0,p1,p2,p3,p4].zip [i,j,k,l,m])):zk K fd [p0,p1,p2,p3,p4] []:=
 F.binds λa b c d e g s q=>by rcases s with _|⟨i,_|⟨j,_|⟨k,_|⟨l,_|⟨m,_|_⟩⟩⟩⟩⟩<;>first|exact h a b c d e g i j k l m|cases q
end
theorem Z1{K:Gd}{x q:TM}{a:DQ}{f:Ge}(h:Sb.Yx K x q a f):∃b,Wd K x q a f b/\DX K ↑f=Gi:=by have(_,_,_,_,_,_,_,_,_,l,c,k):=h;exact{_,An l c k,k}
end L2
namespace K06
open PySem L2 Sb
section
variable{K:Gd}
theorem VQ{a:M9}{w:Tf}{bm:Heap}{mg:TM->Option Gj}{fa:Ge}(X:K.In bm)(h:bm.Ns D4 mg)(eQ:mg "law"/↑fa)(x:Fx K)
  :∃fd:Dn,(∀(s:Gy)(L:Gj),RD s fd {[L],[]} [("_law_script",L)])/\∀base:Heap,K.In base->base.Ns D4 mg->Q3 a.prog w K mg base Ya 67 fa fd ["_law_script"] (nZ K):=by
 obtain@⟨CP,r,e,j,i,f0,f1,f2,f3,f4,f5,f6,f7,f8,f9,dI,dJ,dK,dL,dM,dO,dQ,dR,dT,dU,gC,gD,gE,dV,dX,dY,dZ,gF,d0,d1,d2,d3,d4,d5,gG,gH,gI,gJ,gK,gL,gM,gN,gO,gP,gQ,gR,gS,gT,gU,gV,gW,gX,gY,gZ,g0,g1,g5,g4,g7,g6,aP,pP,dP,oP,sP,mP,cP,gm,gk,gl,aW,pW,dW,oW,sW,mW,cW,gr,gs,aN,pN,dN,oN,sN,mN,cN,gd,ge,gh,gj,gi,gg,gf,gc,aS,pS,dS,oS,sS,mS,cS,gq,go,gn,gp,aB,pB,dB,oB,sB,mB,cB,ga,gb,fZ,dE,dG,dF,c6,a0,h0,a1,i1,h1,a2,i2,h2,a3,i3,h3,a4,h4,a5,h5,a6,i6,h6,a7,i7,h7,a8,h8,a9,i9,h9,cl,eR,d6,cm,eS,d7,cn,eT,d8,co,eU,d9,cp,eV,ea,cq,eW,eb,cr,eX,ec,cs,eY,ed,cu,eZ,ee,cv,e0,ef,cw,eg,cx,eh,aZ,ei,cy,e1,ej,cz,e2,ek,cA,e3,el,cC,e4,em,cD,en,cE,e5,eo,cF,e6,ep,cG,e7,eq,cH,e8,er,cI,e9,es,cJ,fb,et,ba,eu,cK,ev,cL,ew,cM,ex,bb,ey,cO,ez,cQ,eA,cR,eB,cT,eC,bc,eD,m,eE,cU,eF,cV,eG,cX,eH,cY,eI,cZ,eJ,c0,eK,c1,eL,c2,eM,c3,eN,c4,eO,c5,eP,bv,gy,gt,bw,bA,gA,gu,gw,gx,bx,bz,gv,gB,gz⟩:=x;have k:=eQ.symm.trans (Lf X h c5);cases k;have g:=λ{x:TM}{dH:Ge}(k:Ra K x dH)=>Lf X h k;have y:=λ{x:TM}(k:ie K x)=>IG X h k;have TP:iK K mg CP:={⟨pP,dP,oP,sP⟩,gm,gk,gl,g aP};have B:lq K mg r:={⟨pW,dW,oW,sW⟩,gr,gs,g aW,{_,Lf X h dE,{40}},{_,Lf X h dG,{40}},{_,Lf X h dF,{40}}};have b:Jj K mg e:={⟨pN,dN,oN,sN⟩,gd,ge,gh,gj,gi,gg,gf,gc,g aN};have TS:kJ K j:={⟨pS,dS,oS,sS⟩,gq,go,gn,gp};have f:iJ K mg i:={⟨pB,dB,oB,sB⟩,ga,gb,fZ,g aB,{_,Lf X h c6,{40}}};have c:hO mg:={y bv,y gy,y gt,y bw,y bA,y gA,y gu,y gw,y gx,y bx,y bz};have d:I0 mg:={y bv,y bw,y bA,y bx,y bz,y gv,y gB,y gz};have(_,M,k0):=Z1 h0;have b0:=M.b1 (p0:="thing") λ_ _ _ _ _ _ _=>rfl;have(_,N,k1):=Z1 h1;have b1:=N.b1 (p0:="self") λ_ _ _ _ _ _ _=>rfl;have(_,Y,k2):=Z1 h2;have b2:=Y.b2 (p0:="self") (p1:="thing") λ_ _ _ _ _ _ _ _=>rfl;have m2:Yp K CP "place_of" f2:=⟨a2,i2,k2⟩;have(_,F3,k3):=Z1 h3;have b3:=F3.b2 (p0:="self") (p1:="places") λ_ _ _ _ _ _ _ _=>rfl;have(_,F4,k4):=Z1 h4;have b4:=F4.b2 (p0:="met") (p1:="thing") λ_ _ _ _ _ _ _ _=>rfl;have(_,F5,k5):=Z1 h5;have b5:=F5.b2 (p0:="spare") (p1:="inner") λ_ _ _ _ _ _ _ _=>rfl;have(_,F6,k6):=Z1 h6;have b6:=F6.b4 (p0:="self") (p1:="thing") (p2:="near") (p3:="spare") λ_ _ _ _ _ _ _ _ _ _=>rfl;have m6:Yp K r "place_within" f6:=⟨a6,i6,k6⟩;have(_,F7,k7):=Z1 h7;have b7:=F7.b3 (p0:="self") (p1:="thing") (p2:="form") λ_ _ _ _ _ _ _ _ _=>rfl;have m7:Yp K CP "place_by_form" f7:=⟨a7,i7,k7⟩;have(_,F8,k8):=Z1 h8;have b8:=F8.b2 (p0:="forms") (p1:="told") λ_ _ _ _ _ _ _ _=>rfl;have(_,F9,k9):=Z1 h9;have b9:=F9.b2 (p0:="self") (p1:="forms") λ_ _ _ _ _ _ _ _=>rfl;have(_,O,fc):=Z1 d6;have bd:=O.b2 (p0:="self") (p1:="place") λ_ _ _ _ _ _ _ _=>rfl;have br:Yp K e "take_in" dI:=⟨cl,eR,fc⟩;have(_,t,fe):=Z1 d7;have C:=t.b2 (p0:="self") (p1:="place") λ_ _ _ _ _ _ _ _=>rfl;have G:Yp K e "key_of" dJ:=⟨cm,eS,fe⟩;have(_,P,ff):=Z1 d8;have D:=P.b3 (p0:="self") (p1:="one") (p2:="other") λ_ _ _ _ _ _ _ _ _=>rfl;have H:Yp K e "equal" dK:=⟨cn,eT,ff⟩;have(_,Q,fg):=Z1 d9;have be:=Q.b4 (p0:="self") (p1:="one") (p2:="other") (p3:="reason") λ_ _ _ _ _ _ _ _ _ _=>rfl;have bs:Yp K e "merge" dL:=⟨co,eU,fg⟩;have(_,R,fh):=Z1 ea;have c7:=R.b2 (p0:="self") (p1:="link") λ_ _ _ _ _ _ _ _=>rfl;have fQ:Yp K e "merge_link" dM:=⟨cp,eV,fh⟩;have(_,S,fi):=Z1 eb;have c8:=S.b3 (p0:="self") (p1:="low") (p2:="high") λ_ _ _ _ _ _ _ _ _=>rfl;have fR:Yp K e "hang" dO:=⟨cq,eW,fi⟩;have(_,T,fj):=Z1 ec;have c9:=T.b3 (p0:="self") (p1:="gone") (p2:="kept") λ_ _ _ _ _ _ _ _ _=>rfl;have fS:Yp K e "give_over" dQ:=⟨cr,eX,fj⟩;have(_,U,fk):=Z1 ed;have E:=U.b3 (p0:="self") (p1:="one") (p2:="other") λ_ _ _ _ _ _ _ _ _=>rfl;have I:Yp K e "way" dR:=⟨cs,eY,fk⟩;have(_,V,fl):=Z1 ee;have da:=V.b2 (p0:="self") (p1:="place") λ_ _ _ _ _ _ _ _=>rfl;have fT:Yp K e "way_up" dT:=⟨cu,eZ,fl⟩;have(_,W,fm):=Z1 ef;have db:=W.b1 (p0:="self") λ_ _ _ _ _ _ _=>rfl;have fU:Yp K e "rows" dU:=⟨cv,e0,fm⟩;have(_,Z,fn):=Z1 eg;have dd:=Z.b4 (p0:="things") (p1:="net") (p2:="one") (p3:="other") λ_ _ _ _ _ _ _ _ _ _=>rfl;have(_,aa,fo):=Z1 eh;have de:=aa.b3 (p0:="net") (p1:="one") (p2:="other") λ_ _ _ _ _ _ _ _ _=>rfl;have(_,ab,bn):=Z1 ei;have bf:=ab.b2 (p0:="net") (p1:="link") λ_ _ _ _ _ _ _ _=>rfl;have(_,ac,g2):=Z1 ej;have df:=ac.b3 (p0:="self") (p1:="things") (p2:="net") λ_ _ _ _ _ _ _ _ _=>rfl;have(_,ad,fp):=Z1 ek;have F:=ad.b4 (p0:="self") (p1:="one") (p2:="other") (p3:="reason") λ_ _ _ _ _ _ _ _ _ _=>rfl;have J:Yp K j "write" dX:=⟨cz,e2,fp⟩;have(_,ae,fq):=Z1 el;have dg:=ae.b2 (p0:="self") (p1:="link") λ_ _ _ _ _ _ _ _=>rfl;have fV:Yp K j "write_link" dY:=⟨cA,e3,fq⟩;have(_,u,fr):=Z1 em;have n:=u.b3 (p0:="self") (p1:="one") (p2:="other") λ_ _ _ _ _ _ _ _ _=>rfl;have q:Yp K j "line_for" dZ:=⟨cC,e4,fr⟩;have(_,af,fs):=Z1 en;have dh:=af.b1 (p0:="deeds") λ_ _ _ _ _ _ _=>rfl;have(_,ag,g3):=Z1 eo;have bg:=ag.b1 (p0:="self") λ_ _ _ _ _ _ _=>rfl;have(_,ah,ft):=Z1 ep;have bh:=ah.b2 (p0:="self") (p1:="deed") λ_ _ _ _ _ _ _ _=>rfl;have bt:Yp K i "answer" d1:=⟨cF,e6,ft⟩;have(_,ai,fu):=Z1 eq;have di:=ai.b2 (p0:="self") (p1:="moment") λ_ _ _ _ _ _ _ _=>rfl;have fW:Yp K i "go_back" d2:=⟨cG,e7,fu⟩;have(_,aj,fv):=Z1 er;have dj:=aj.b3 (p0:="self") (p1:="deed") (p2:="entry") λ_ _ _ _ _ _ _ _ _=>rfl;have fX:Yp K i "tell" d3:=⟨cH,e8,fv⟩;have(_,ak,fw):=Z1 es;have dk:=ak.b2 (p0:="self") (p1:="entry") λ_ _ _ _ _ _ _ _=>rfl;have fY:Yp K i "ask" d4:=⟨cI,e9,fw⟩;have(_,al,fx):=Z1 et;have bi:=al.b3 (p0:="self") (p1:="net") (p2:="entry") λ_ _ _ _ _ _ _ _ _=>rfl;have bu:Yp K i "lines_for" d5:=⟨cJ,fb,fx⟩;have(_,am,bo):=Z1 eu;have bj:=am.b2 (p0:="net") (p1:="entries") λ_ _ _ _ _ _ _ _=>rfl;have(_,ao,fy):=Z1 ev;have dl:=ao.b1 (p0:="deeds") λ_ _ _ _ _ _ _=>rfl;have(_,ap,fz):=Z1 ew;have dm:=ap.b1 (p0:="deeds") λ_ _ _ _ _ _ _=>rfl;have(_,aq,fA):=Z1 ex;have dn:=aq.b1 (p0:="_law_cell") λ_ _ _ _ _ _ _=>rfl;have(_,ar,bp):=Z1 ey;have bk:=ar.b2 (p0:="_law_found") (p1:="_law_due") λ_ _ _ _ _ _ _ _=>rfl;have(_,au,fB):=Z1 ez;have dp:=au.b1 (p0:="_law_cells") λ_ _ _ _ _ _ _=>rfl;have(_,av,fC):=Z1 eA;have dq:=av.b2 (p0:="_law_cells") (p1:="_law_things") λ_ _ _ _ _ _ _ _=>rfl;have(_,aw,fD):=Z1 eB;have dr:=aw.b1 (p0:="_law_cell") λ_ _ _ _ _ _ _=>rfl;have(_,ax,fE):=Z1 eC;have ds:=ax.b2 (p0:="_law_told") (p1:="_law_things") λ_ _ _ _ _ _ _ _=>rfl;have(_,ay,bq):=Z1 eD;have bl:=ay.b2 (p0:="_law_told") (p1:="_law_deed") λ_ _ _ _ _ _ _ _=>rfl;have(_,az,p):=Z1 eE;have o:=az.b1 (p0:="_law_found") λ_ _ _ _ _ _ _=>rfl;have(_,aA,fF):=Z1 eF;have dt:=aA.b1 (p0:="_law_deeds") λ_ _ _ _ _ _ _=>rfl;have(_,aC,fG):=Z1 eG;have du:=aC.b2 (p0:="_law_script") (p1:="_law_k") λ_ _ _ _ _ _ _ _=>rfl;have(_,aD,fH):=Z1 eH;have dv:=aD.b1 (p0:="_law_found") λ_ _ _ _ _ _ _=>rfl;have(_,aE,fI):=Z1 eI;have dw:=aE.b4 (p0:="_law_told") (p1:="_law_lines") (p2:="_law_k") (p3:="_law_pair") λ_ _ _ _ _ _ _ _ _ _=>rfl;have(_,aF,fJ):=Z1 eJ;have dx:=aF.b5 (p0:="_law_told") (p1:="_law_lines") (p2:="_law_one") (p3:="_law_other") (p4:="_law_pair") λ_ _ _ _ _ _ _ _ _ _ _=>rfl;have(_,aG,fK):=Z1 eK;have dy:=aG.b2 (p0:="_law_rows") (p1:="_law_thing") λ_ _ _ _ _ _ _ _=>rfl;have(_,aH,fL):=Z1 eL;have dz:=aH.b1 (p0:="_law_rows") λ_ _ _ _ _ _ _=>rfl;have(_,aI,fM):=Z1 eM;have dA:=aI.b2 (p0:="_law_rows") (p1:="_law_told") λ_ _ _ _ _ _ _ _=>rfl;have(_,aJ,fN):=Z1 eN;have dC:=aJ.b4 (p0:="_law_told") (p1:="_law_one") (p2:="_law_other") (p3:="_law_found") λ_ _ _ _ _ _ _ _ _ _=>rfl;have(_,aK,fO):=Z1 eO;have dD:=aK.b3 (p0:="_law_told") (p1:="_law_deed") (p2:="_law_found") λ_ _ _ _ _ _ _ _ _=>rfl;have(oc,od,an,sl,kV,dc,pm,cd,ct,ll,cc,fP):=eP;have bB:=An (st:=jC) ll cc fP;have MP:Mk K CP f1:=⟨mP,a1,i1,cP⟩;have MW:Mk K r f3:=⟨mW,a3,i3,cW⟩;have MN:Mk K e f9:=⟨mN,a9,i9,cN⟩;have MS:Mk K j dV:=⟨mS,cy,e1,cS⟩;have MB:Mk K i d0:=⟨mB,cE,e5,cB⟩;refine{Et "law" "law" (Vm jC) (Q9 jC) (Qo jC) .none kV dc pm an cd ct,λs L=>.of_eq Xb,λbase _ _=>?_};have G0:=Q30 (P:=a.prog) (w:=w) (mg:=mg) (base:=base) M d;have G7:=Pq (P:=a.prog) (w:=w) (mg:=mg) (base:=base) F7 TP d;have G4:=Qvp (P:=a.prog) (w:=w) (mg:=mg) (base:=base) F4 d;have G5:=Qte (P:=a.prog) (w:=w) (mg:=mg) (base:=base) F5;have G3:=KS (P:=a.prog) (w:=w) (mg:=mg) (base:=base) F3 B;have G6:=si (P:=a.prog) (w:=w) (mg:=mg) (base:=base) F6 TP B d m6 b6 G0 k0 b0 (g a0) G4 k4 b4 (g a4) G5 k5 b5 (g a5) m7 G7 b7 50;have G2:=OT Y B MW G3 b3 m6 b6 G6;have G1:=Qsh (P:=a.prog) (w:=w) (mg:=mg) (base:=base) N TP;have v:=XP (P:=a.prog) (w:=w) (mg:=mg) (base:=base) P b;have aL:=Pn (P:=a.prog) (w:=w) (mg:=mg) (base:=base) t b d;have cj:=Qr0 (P:=a.prog) (w:=w) (mg:=mg) (base:=base) t b d;have bG:=KN (P:=a.prog) (w:=w) (mg:=mg) (base:=base) V b;have bE:=OP (P:=a.prog) (w:=w) (mg:=mg) (base:=base) S b;have bF:=OX T b G aL C;have bD:=P9 R b d fR bE c8 fS bF c9;have aM:=Qto Q b H v D fQ bD c7;have G9:=VM (P:=a.prog) (w:=w) (mg:=mg) (base:=base) F9 b;have bC:=sH O b br bd G aL C 59;have G8:=PJ F8 b d MN G9 b9 br bC bd bs aM be;have aV:=OO am b d H v D;have z:=ZM U b d fT bG da;have bH:=Y3 W b d G cj C;have aO:=K3 (P:=a.prog) (w:=w) (mg:=mg) (base:=base) ab b d;have bJ:=QA aa b d I z E aO bn bf (g aZ);have A:=VI (P:=a.prog) (w:=w) (mg:=mg) (base:=base) (C:=e) ad TS d;have ck:=yh (g:=Gx) (k:=2) (by decide) u TS b q n Pw I z E J A F;have aQ:=yh (g:=Gi) (k:=3) (by decide) u TS b q n ck I z E J A F;have bL:=ZF ae TS q n aQ aO bn bf (g aZ) J A F;have bK:=Qrb (P:=a.prog) (w:=w) (mg:=mg) (base:=base) (C:=e) ac TS;have bI:=Qqk Z TS b (Lf X h aS) MS bK df bJ fo de (g cx) q n aQ fV dg bL;have aU:=Qit al f TP bI fn dd (g cw);have bP:=Q20 ak f TP b G8 k8 b8 (g a8) H v D fU bH db bs aM be aV bo bj (g ba) bu aU bi;have bO:=ZK aj f TP d G8 k8 b8 (g a8) aV bo bj (g ba) bu aU bi;have bN:=Qsd (P:=a.prog) (w:=w) (mg:=mg) (base:=base) (CP:=CP) ai f d;have aR:=OD ag f TP MP G1 b1;have aT:=QW ah f TP fW bN di m2 G2 b2 fY bP dk fX bO dj;have bM:=Qnt af f MB aR bg bt aT bh;have bQ:=KO ao f MB aR bg bt aT bh;have bR:=Qh3 ap f bQ fy dl (g cK);have bS:=OS (P:=a.prog) (w:=w) (mg:=mg) (base:=base) aq c.abs;have bT:=WB au c bS fA dn (g cM);have bV:=Q4i (P:=a.prog) (w:=w) (mg:=mg) (base:=base) aw;have bU:=Qvr av c bV fD dr (g cR);have aX:=KJ (P:=a.prog) (w:=w) (mg:=mg) (base:=base) ar c;have bW:=Qnr (P:=a.prog) (w:=w) (mg:=mg) (base:=base) ax c;have aY:=Po ay bW fE ds (g cT);have bX:=ZO aA c aY bq bl (g bc);have bY:=Pe (P:=a.prog) (w:=w) (mg:=mg) (base:=base) aC c;have l:=VC (P:=a.prog) (w:=w) (mg:=mg) (base:=base) az c;have bZ:=Kq (P:=a.prog) (w:=w) (mg:=mg) (base:=base) aD c;have ca:=Qnv aE c l p o (g m);have cb:=Qyw aF c bZ fH dv (g cX) ca fI dw (g cY);have ce:=Kv (P:=a.prog) (w:=w) (mg:=mg) (base:=base) aG c;have cf:=Qmq aH c l p o (g m);have cg:=Qzf aI cf fL dz (g c1) ce fK dy (g c0);have ch:=Qs7 aJ c cb fJ dx (g cZ) l p o (g m) cg fM dA (g c2);have ci:=Qv0 aK c ch fN dC (g c3) aX bp bk (g bb) aY bq bl (g bc);exact Q21 (M:=66) bB c (by decide) (by decide) (by decide) bT fB dp (g cO) bU fC dq (g cQ) bX fF dt (g cU) bY fG du (g cV) bM fs dh (g cD) bR fz dm (g cL) l p o (g m) ci fO dD (g c4) aX bp bk (g bb)
end
theorem UV{l:M9}{q:Gn}{b:List TM}{k:(TM->Option Gj)->Heap->Prop}{g:Tf->Heap->Prop}{d:CU}{K:CV->Gd}(n:l.most/63)(e:d.params.defaults=[])
  (m:∀(w:Tf)(h:Heap),g w h->(K w.params).In h)
  (F:∀(w:Tf)(c:TM->Option Gj)(i:Ge)(h:Heap),(K w.params).In h->h.Ns D4 c->c d.name/↑i->
   ∃j:Dn,(∀(s:Gy)(u:Gj),RD s j {[u],[]} [("_law_script",u)])/\∀a:Heap,(K w.params).In a->a.Ns D4 c->Q3 l.prog w (K w.params) c a Ya 67 i j ["_law_script"] (nZ (K w.params))):
  Cv q b k g l.row.toRowW d [] (λf a=>ML f a):=
 L2.QU (n:=63) (k:=67) (x:="_law_script") (CX:=λ_=>Ya) (sp:=λw=>nZ (K w.params)) n (by decide) e {1,by decide,by decide} m F (λ_ _ a j i _ c=>{a,j,1,c,i,λ_=>rfl}) λ_ _ _ _ _ z=>z
end K06
theorem PySem.Challenge.cw_samebook_k06_whole_back_is_back_holds : PySem.Challenge.rw_samebook_k06_whole_back_is_back.Holds := by
  exact K06.head λ K g d c e b f => K06.UV (l := PySem.Challenge.rw_samebook_k06_whole_back_is_back) rfl e b λ w j i h KX G a => K06.VQ KX G (by rw [c] at a; exact a) (f w)
