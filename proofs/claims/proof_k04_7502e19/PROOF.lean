import PyProof.Rows.All
import KE.BytesK
import KE.KBytesAny
import KE.KDictLaws
import KE.KDictList
import KE.KDictOf
import KE.KDictSum
import KE.KIsAll
import KE.KItem
import KE.KItemsList
import KE.KRevIter
import KE.KxBytes
import Lean
import OpenK.KLine
import PyProof.EqAt
import PyProof.EqKinds
import PyProof.P3Eq
import PyProof.P3In
import PyProof.TupleCall
import PyProof.ZipIter
import Wide.FinOn
import PySem.Challenge.RW_samebook_k04_whole_tellings_shown
set_option maxHeartbeats 16000000
abbrev Gu:=@if_neg
abbrev GY:=@if_pos
abbrev Tj:=@decide_eq_false
abbrev Tk:=@decide_eq_true
abbrev Dp:=@of_decide_eq_true
abbrev EN:=@if_false
abbrev EW:=@beq_eq_false_iff_ne
abbrev LJ:=@beq_self_eq_true
abbrev LW:=@or_false
abbrev Fz:=@if_true
abbrev Me:=@beq_iff_eq
abbrev BU:=@and_true
open Option renaming some->Ga,none->Gp,map_some->Eh,map_eq_some_iff->Ew,isSome_map->SG,ne_none_iff_exists'->Mr,isSome_iff_exists->MF,isSome_some->RC,getD_none->Bn,none->HI
open PySem renaming wpAny_bind->Gb,Addr->Ge,Value->Gh,wpAny_pure->Gj,Program->Gn,Shared->Gw,World->Ti,boot_len->Tp,sizeLine_eq->TD,sizeLine->TF,Str->TQ,model->TV,starEach->T8,Paired->Dm,wpAny_field->Do,FuncData->Du,wpAny_call_entry->Dy,wpAny_callSpecial?_slot->Dz,wpAny_seqItems->DD,wpAny_newObj_type->DE,PyData->DN,wpAny_setField_rec->DS,Around->DW,Stmt->DX,Expr->Ea,wpAny_holding->Ej,mainGlobals->El,compareOp->Ep,sysModules->Er,wpAny_Call_Name_kw->Et,mem_of_lookup->EB,wpAny_truthy_bool->ET,wpAny_dictEntries->EU,wpAny_mono->E1,cLine->E3,wpAny_typeNameOfWhole_keyiter->E6,IsPair->E7,wpAny_typeNameOfWhole_valiter->E8,backTo->Se,wpAny_specialOf->Sf,wpAny_passesOwn->SD,wpAny_typeNameOf_keyiter->SO,wpAny_onRaise->SQ,wpAny_typeNameOf_valiter->SR,wpAny_isInstance->S0,Obj->Lc,tupleKind_room_in1->Lj,wpAny_nextOf_list_item->Ll,wpAny_dictEpoch->Lo,wpAny_attempt->Lv,builtinLookup_eq_fast->Lz,wpAny_rule->LD,wpAny_letGo->LF,wpAny_setField->LG,DictEntry->LI,ReadsAll->LV,wpAny_updateSeq->L6,IsZip->Fe,wpAny_pyIter_list->Fh,wpAny_notOrdered_dict->Fo,wpAny_isOneOf_valiter->Fq,NameKind->FD,wpAny_pyIter_revIter->FF,wpAny_updateSeq_pair->FJ,wpAny_execs_nil->FL,wpAny_ite_split->FP,typeLookup_type->FR,sizeLine->FZ,wpAny_pyIter_tuple->Mb,Reads->Mj,wpAny_fieldsOf->Ml,isSubtype_stop->Mm,wpAny_pyIter_slot->MA,wpAny_comprehension_free->MI,Pos->MQ,wpAny_Call_method0_late->MV,wpAny_Dict_empty->MX,wpAny_pyIter_zip->M1,call->M4,wpAny_pyNext_range_end->M9,wpAny_pyIter_rangeiter->Nb,codeAny_mono->Nf,wpAny_Call_method_late->Nh,call_meetsIn->Nj,Scope->Nl,wpAny_isTrue_Compare1->Nr,wpAny_isOneOf_keyiter->Nu,wpAny_pyNext_rev_item->Nw,wpAny_nextOf_list_end->Nx,IsRangeIter->ND,wpAny_pyIter_keyiter->NH,wpAny_pyNext_rev_end->NI,wpAny_newTuple->NN,evalArgs_none->NQ,wpAny_standAt->NU,wpAny_handled->NW,plainId_quiet->NX,wpAny_pyIter_range->Rs,IsPart->RA,call_meets->RB,wpAny_getItem_heap->RD,wpAny_setItem_heap->RE,call_reversed_list->RF,Within->RL,wpAny_assign_Name->RM,BindsTo->RS,Keyword->RU,list_append->RV,eqIsQuiet_byValue->RX,wpAny_pyIter_enum->Bb,wpAny_pyHash_int->Bf,wpAny_pyHash_str->Bg,Env->Bh,wpAny_execs_cons->Bi,wpAny_forIn_list->Bq,wpAny_of_eq->Bx,wpAny_throw->By,wpAny_ret_mkInt->BE,codeAny_builtin->BF,wpAny_Name->BL,ZipApart->BW,intBits_le_64->Cr,evalPart_none->CH,call_list_seq->CJ,wpAny_in_heap->CK,DefRec->C9,Params->Ha,Result->He,wpAny_typeOf->Hg,seqIndex_neg->Hh,callType_new->Ho,seqIndex_of->HH,HeapKind->HJ,wpAny_call->ID,typeIs_str->IG,PlainAttrs->IH,Tok->Ad,Sem->Ae
open List renaming mem_of_getElem?->Gc,getElem?_eq_getElem->Gf,getElem?_eq_some_iff->Gg,mem_append->Gi,length_map->Gq,mem_cons_of_mem->Gr,length_append->Gs,mem_append_left->Gv,mem_cons_self->G8,getElem?_map->Ta,mem_cons->Td,mem_singleton->Tf,length_singleton->Tg,size_toArray->Ts,take_add_one->Tt,take_length->Tu,mem_map->Tv,getElem?_append_left->Tz,map_cons->TC,mem_append_right->TL,length_cons->TW,map_append->T3,getElem?_append_right->Dc,map_congr_left->De,mem_iff_getElem?->Dh,getElem?_eq_none->Dl,length_take->Dq,map_map->Ds,nodup_cons->Dw,getElem?_take_of_lt->Dx,append_assoc->DF,mem_of_mem_take->DL,nodup_append->DO,getD_eq_getElem?_getD->DR,lookup_cons->DY,append_nil->D2,replicate->D4,cons_append->D9,find?_cons->Eg,not_mem_nil->Ek,mem_flatMap->Ey,getLast?_eq_some_getLast->EF,getElem?_reverse->EY,all_eq_true->E2,length_range->Sa,filter_cons_of_pos->Sc,idxOf_lt_length_of_mem->Si,length->Sk,drop_eq_getElem?_toList_append->Sm,range->So,mem_range->Sq,append_of_mem->Su,length_replicate->Sw,eq_nil_or_concat->Sx,mem_of_find?_eq_some->Sz,length_nil->SE,forIn_cons->SF,getLast?_append->SI,getLast?_concat->SK,dropLast_concat->SM,take_succ_cons->SU,length_reverse->SW,nodup_nil->SY,mem_reverse->S8,getElem?_cons_succ->La,filter_cons_of_neg->Lb,filter_append->Lm,dropLast_concat_getLast->Ls,reverse_cons->LA,forIn_nil->LH,getLastD_eq_getLast?->LL,getElem?_zip_eq_some->LM,length_pos_iff->LN,length_erase_of_mem->L3,length_zip->L8,find?_eq_none->Fa,lookup->Fc,ext_getElem?->Fk,length_pos_of_mem->Fl,countP_cons->Fu,getElem_mem->Fv,zipIdx_cons->Fw,sum_cons->FC,take_append_of_le_length->FG,map_id->FH,mem_erase_of_ne->FI,mem_filter->FK,find?_some->FM,zipIdx_nil->FQ,filterMap_cons->FS,map_nil->FX,mem_filterMap->Mc,getElem_idxOf->Mn,take_take->Mo,map->Mq,pairwise_iff_getElem->Mv,any_eq_false->My,flatMap_cons->MD,append_cancel_right->MJ,map_take->MM,getElem?_replicate->MU,dropLast_cons_cons->MY,getElem?_set_self->M8,of_mem_zip->No,nil_append->Nq,length_filter_le->Ny,take_append_drop->NB,getElem?_set_ne->NC,take_zero->NJ,count_le_length->NL,flatMap_append->NR,any_cons->NV,getElem?_take->RG,mem_replicate->RH,idxOf_append->RZ,find?_append->Ba,pairwise_map->Bd,length_drop->Bm,getLast_mem->Bs,append_inj'->Bu,map_drop->CV,Nodup->IK
open PySem.W renaming Frag->Gd,findIn->TM,kitOne->TX,isFn->Dk,keepIn->Ee,emptyDict->ED,fnOf->EK,plainGet->EM,hasDictIn->ES,plainOver->E9,instObj->Sd,kitAny->Sr,makesIn->SA,mg_of->Lx,nsIn->Fg,methodCall_KW->Fn,plainGet_of->FT,codeIn->F0,lookIn->Md,callWith_K->Mg,methodObj->Mw,cellsFrom_some->Ng,takerIn->Nm,OpenLaw->Np,callWith_K0->NP,kitx_list->RN,kitx_dict->RO,handedIn->Bj,kdl_call->Br,KdlSrc->BS,WalkO->CL,kdl_hint_values->C6,OpenLaw->C8,kdl_hint_dict->Hs,hideAll_size->Hx,hideAll_none->Hy,truthy_bytes->HE,looks_findIn->HF,hideAll_get->HL,findObj_own->HM,looks_clsIn->HN,kdu_collect->HR,XL->HS,of_hideAll->HW,kitx_float->IB,kitx_tuple->IC,codeRec_of->IE,pre_splitW->II,mg_none_of->IL,len_bytes->IN,get_value->IP,method_fn->IQ,set_plain->IR,make_core->IT,specialIn->IV,kitx_none->IW,kitx_bool->IX,kdx_alive->I3,eq_bytes->JC,ne_bytes->JD,osa_open->JF,any_some->JG,InitBack->JH,makes_of->JI,kitx_int->JJ,kitx_str->JK,kitx_own->JL,kdl_dict->JR,hideAll->JS,bind_fn->JT,takesIn->JU,kia_one->JV,kia_tup->JX,kIn_of->JY,InstAt->JZ,typeIn->J4,mroIn->Ab,KitX->Af
open Bool renaming true->Gk,false->Gx,false_ne_true->TH,and_eq_true->Df,false_eq_true->DQ,and_eq_true_iff->E4,and_true->Lw,and_self->LX,eq_iff_iff->L4,eq_false_iff->Mz,and_false->BM,or_false->CI,not_true->CO
open PySem.Heap renaming get?_push_of_some->Gm,get?_push_size->Tc,lt_size->Tn,get?_update_self->DU,SameBut->Eb,size_push->Ef,get?_update_other->Sh,ExtBut->NG,get?_push_cases->NK,IsList->BA,IsTuple->Hn
open Nat renaming le_refl->Gy,zero_le->Tw,lt_of_lt_of_le->TZ,ne_of_lt->T9,le_trans->Dj,lt_or_ge->Dn,ne_of_gt->DC,le_add_right->DM,lt_irrefl->ER,lt_succ_self->EZ,lt_of_le_of_lt->Sn,mul_le_mul_right->SJ,add_lt_add_left->SV,add_mul->Le,le_succ->Fd,le_of_eq->Ff,min_eq_left->FN,le_of_lt->FU,succ_le_succ->MO,lt_add_of_pos_right->MZ,not_lt->RI,le_succ_of_le->RJ,add_zero->RY,lt_succ_of_lt->Bc,lt_trichotomy->Be,min_le_right->Bl,le_of_not_lt->Bp,succ_ne_self->Bt,one_mul->Bz,le_add_left->BB,mul_le_mul->BV,add_assoc->CM,lt_trans->Hk,succ->Aa
open PySem.PyData renaming canLayAll0->Gz,canLay0->TJ,eqv->T5,depthAll->Db,eqvAll->DB,strOk->DK,depth->DV,int->Eu,list->FE
open PySem.Paired renaming length->GJ,snoc->E5
open Ne renaming symm->GQ
open PyProof.Rows renaming boot_isinstance->GX,boot_list->TY,boot_tuple->Di,callWith_type1->Eo,boot_str->EI,boot_bool->Sj,slot_tuple_getitem->SS,subscriptTail_builtinR->Fj,boot_int->Fs,AllBare->Mx,IntsAre->Ni,Constant_none->NT,callWith_builtin1->Bk,wpAny_notIn_heap->Bo,isnot_none_gen->BN,slicePart_none->BO,Subscript_->BP,zipApart_new->Ck,boot_reversed->CQ,boot_sorted->C2,isTrue_plain->Hc,boot_abs->Ht,boot_min->Hu,is_none_gen->Hz,isTrue_and->HX,boot_range->HY,Call_->IM
open PySem.F renaming plainAttrs_list->Te,slot_list_append->Tx,type_list_append->TB,slot_list_pop->EG,type_list_pop->EH,plain_extend_loop->EX,plainAttrs_dict->S9,slot_dict_setdefault->Lp,type_dict_setdefault->Lq,slot_list_extend->LZ,type_list_extend->L1,slot_dict_getitem->Ms,entry_extend_loop->Mu,slot_dict_values->ML,slot_dict_get->Nz,type_dict_get->NA,args_list_append_2->BQ,args_dict_values_1->BX,entry_list_append->Cd,entry_dict_values->Co,args_list_init_2->CU,args_list_sort_1->CY,type_dict_values->CZ,typeCall_list_1->C3,entry_list_init->C4,entry_list_sort->C7,slot_list_sort->Hq,called_list->HP
open PySem.PassesOwn renaming never->To
open PySem.Value renaming ref->Tq,none->DJ,type->Lf,bool->LC,int->MR,str->MT,isInt_shape->RK,float->Bw,isStrOf->Cq,isInt->Hv,bytes->Hw
open PySem.Builtin.SmallTypes renaming nextOf->TR,ownedTupleIsFree->TU,ownedTupleHandOut->EC
open Option.some renaming inj->T1,injEq->IZ
open Array renaming getElem?_eq_getElem->Dg,length_toList->DI,getElem?_eq_none->Ed,getElem?_toList->Em,toArray_toList->SH,forIn_toList->L9,append_assoc->NZ,size_push->BG,toList->Hd
open PySem.NameKind renaming free->DA,cell->MH
open Or renaming inl->DG,inr->Ez
open List.cons renaming injEq->DP,inj->LY
open Int renaming emod_lt_of_pos->DT,toNat->DZ,emod_nonneg->Ei,toNat_natCast->EE,zero_add->EV,mul_le_mul_of_nonneg_right->Fy,ediv_one->Hf,le_of_lt->Hr,pow_pos->HK
open PySem.Heap.SameBut renaming update->D0,refl->I6
open True renaming intro->Es
open PySem.Str renaming ofString->Ev,empty->Lu
open PySem.Builtin.Tuple renaming tupleHashOf->EA,tupleExact->SN,tupleItemsOf->Mi
open Prod.mk renaming injEq->EJ
open PySem.Builtin.Dict_items renaming ownsTuple->EL,newIterator->Bv,dictOf->Cm
open PySem.Builtin.List renaming listLengthHint->EO,listExtendWith->LB,listTooLong->LU,listSameRef->MK,listItems->Nk,listUpdate->C5
open ForInStep renaming yield->Sg
open PySem.Obj renaming data_mapFields->Ss,mapSeq->Lh,isFreed_of_fields->Fp,mapFields->FA,cls_mapFields->MC,data_mapDictKeys->NF
open PySem.Builtin.Slice renaming slicePlaces->Sy,sliceAdjust->LK,sliceApplied->Mh,slicePartIndex->BC,sliceFields->Cc
open PySem.Builtin.Range renaming rangeSize->SX,small->NS,rangeFitsLong->BJ
open PySem.Calls renaming callWith_builtin->Lg,spliced_nil->Fi,Name_function_global->Ma,spliced_cons->Mf,call_function_entry->Mt,evalArgs_plain->NE,call_len_list->NO
open PySem.Builtin.Dict renaming showsAll->Ly,keyAndDefault->BR,pendingCount->Cf,dictSlotNone->Ci,noArgs->HQ
open PySem.W.Fast renaming te14364793385576792824->LO,te10274390034422433532->LP,te14082659384304107361->LQ,te14289696077712309145->LR,te4187177175401517315->NY
open Classical renaming choose->Ft,choose_spec->Nv,byContradiction->Cp
open Sum renaming inl->FW,inr->M7
open PySem.Shared renaming heap->ME,TypeIs->CT
open PySem.Heap.IsList renaming push->M3
open PyProof renaming noPylong_small->Nc
open PySem.Around renaming under_plainId->NM,under->RP
open PySem.Code renaming isFrame->RQ,frames->HG
open Prod renaming ext->RT
open PySem.AutoSeq1 renaming list_extend_list_list_0->RW
open PySem.SeqAt renaming notIn_list_reads->BD,compareEq_reads->BH,compareNe_reads->BI,in_list_reads->Ce,eqAt_reads->Hl
open PySem.EqNone renaming eq_none_none->BY,eq_none_bool->BZ,eq_bool_none->B4,ne_none_none->B7,ne_none_bool->B8,ne_bool_none->B9,eq_none_int->Cs,eq_none_str->Ct,eq_int_none->Cu,eq_str_none->Cw,ne_none_int->Cz,ne_none_str->CA,ne_int_none->CC,ne_str_none->CF
open PySem.EqMixed renaming eq_bool_str->B5,eq_str_bool->B6,ne_bool_str->Ca,ne_str_bool->Cb,eq_int_str->Cv,eq_str_int->Cy,ne_int_str->CD,ne_str_int->CG
open List.Pairwise renaming imp_of_mem->C0,nil->IY
open PySem.MeetsSeq renaming list_pop_last->Hj
open Nat.succ renaming inj->Hm
open PySem.Data renaming fields->HB,cell->JB,seq->J8
open PySem.Walks renaming range->HC
open PySem.IsRange renaming new->HD
open PySem.SeqAt.EqAt renaming int_str->HU,str_int->HV
open PySem.P renaming truthy_int->HZ,truthy_str->Ix,add_list->JO
open PySem.W.Looks renaming here->IA
open PySem.Heap.IsSliceOf renaming new->IF
open PySem.W.WShape renaming has->IJ
open PySem.Within renaming cons->IS
open PySem.Heap.Ns1 renaming of_empty->IU
open PySem.Heap.IsTuple renaming push->I7
open PySem.W.XL renaming keeps->JA
open PySem.DictEntry renaming refKey->JE
open PyProof.Rows.IsTup renaming new->JM
open PySem.IsL renaming update->JN
open PySem.W.WData renaming int->JP
open PySem.Expr renaming Call->JQ
open PySem.Heap.DictOf renaming new->JW
open Function renaming comp->Ac
open Iff renaming rfl->Ag
open Sum.inl renaming inj->Ah
open Sum.inr renaming inj->Ai
open PySem.W.OpenLaw renaming pre->Aj
abbrev Xb:=@rfl
set_option Elab.async false
set_option linter.all false
set_option maxRecDepth 100000
set_option genSizeOf false
set_option bootstrap.genMatcherCode false
set_option hygiene false
open Lean in def sQ(a:Array (TSyntax `term)):MacroM (Array (TSyntax `term)):=a.flatMapM fun x=>do let h<-`(_);let r<-`(Xb);if x.raw.isOfKind `num then return x.raw[0].getAtomVal.toList.toArray.flatMap fun|'0'=>#[h,r]|'1'=>#[r]|'2'=>#[h,h]|'3'=>#[h]|_=>#[] else return#[x]
open Lean in def sQp(n:Nat)(x:TSyntax `term):MacroM (TSyntax `rcasesPat):=match n with|0=>`(rcasesPat|_)|n+1=>match x with
 |`(($x,$y,*))=>do let r<-(#[x]++y.getElems).mapM (sQp n);`(rcasesPat|⟨$[$r:rcasesPat],*⟩)
 |`($x:ident)=>`(rcasesPat|$x:ident)
 |_=>`(rcasesPat|_)
local macro_rules|`(⇑$x)=>`(($x).length)
local macro_rules|`(↑$x)=>`(.ref $x)
local macro_rules|`($a/%$t$b)=>if t.getTrailingSize>0 then Lean.Macro.throwUnsupported else`($a=some $b)
local macro_rules|`(∅)=>`(by ext)
local macro_rules|`(⋯)=>`(by simp)
local macro_rules|`(tactic|have($x,$y,*):=$e)=>do let r<-sQp 9 (<-`(($x,$y,*)));`(tactic|obtain $r:rcasesPat:=$e)
local macro_rules|`(«term{_}»|{$a,*})=>do let v:=a.getElems[0]!.raw[0].getAtomVal;if a.getElems.size=1&&(v.length=1|| !v.startsWith "4")then`(pv $(a.getElems[0]!))else let r<-sQ a;`(⟨$r,*⟩)
local macro_rules|`(tactic|ac_nf)=>`(tactic|refine _root_.Sb.hid fun g_ h_=>?_)
local macro_rules|`(tactic|intros)=>`(tactic|(refine h_ ?_;clear h_))
set_option hygiene true
local macro_rules|`(tactic|ext)=>`(tactic|omega)
local macro_rules|`(tactic|exists $a,*)=>do let r<-sQ a;`(tactic|refine ⟨$r,*, ?_⟩)
local macro_rules|`(tactic|ac_rfl)=>`(tactic|first|with_reducible assumption|exact Gy _|exact Tw _|decide|exact MO (Tw _)|exact DM _ _|exact BB _ _|exact EZ _|exact FU ‹_›|exact Dj ‹_› (by decide)|exact Sn ‹_› (by decide)|exact Dj ‹_› ‹_›|exact TZ ‹_› ‹_›|exact Sn ‹_› ‹_›|exact Dj (Ff ‹_›) (Dj ‹_› (by decide))|exact Sn (Dj (Ff ‹_›) ‹_›) (by decide)|exact RJ ‹_›|exact ER _ ‹_›|exact absurd ‹_› (ER _)|fail)
local macro_rules|`(tactic|omega)=>`(tactic|(ac_rfl;done))
local macro_rules|`(tactic|lia)=>`(tactic|(ac_rfl;done))
local macro_rules|`(tactic|infer_instance)=>`(tactic|first|exact .inl rfl|exact .inr rfl|exact .inr (.inl Xb)|exact .inr (.inr Xb)|assumption|exactλ_ _=>rfl)
local macro_rules
 |`(tactic|eq_refl)=>`(tactic|first
  |exact⟨Xb,Xb,Xb,by decide+kernel,Xb,by decide+kernel,by decide+kernel⟩
  |exact⟨by rfl,by decide+kernel,by decide+kernel,by decide+kernel⟩|fail)
theorem Uu:1<=FZ:=by decide
theorem Yz:2<=FZ:=by decide
theorem Vb:3<=FZ:=by decide
theorem oO:4<=FZ:=by decide
noncomputable section
namespace L2
open PySem PySem.Spec PyProof.Rows
noncomputable def Yj(s:DX)(j:Nat):DX:=match s with
 |.ClassDef _ _ _ a _ _ _ _ _ _ _=>a.getD j (.Pass {(0),(0),(0),(0)})
 |_=>.Pass {(0),(0),(0),(0)}
noncomputable def Vj(s:DX):Arguments:=match s with
 |.FunctionDef _ a _ _ _ _ _ _ _ _=>a
 |_=>{posonlyargs:=[],args:=[],vararg:=Gp,kwonlyargs:=[],kw_defaults:=[],kwarg:=Gp,defaults:=[]}
def Zd(s:DX):List DX:=match s with
 |.FunctionDef _ _ b _ _ _ _ _ _ _=>b
 |_=>[]
def Qm(s:DX):Nl:=match s with
 |.FunctionDef _ _ _ _ _ _ a _ _ _=>a
 |_=>{kind:=.function,names:=[],isGenerator:=Gx,isCoroutine:=Gx}
end L2
section
namespace Sb
open PySem L2
inductive Yt(K:Gd)(x q:TQ)(st:DX)(f:Ge):Prop
 |mk (oc:_) (od:_) (an:_) (sl:_) (kV:_) (dc:_) (pm:_) (cd:_) (ct:_) (h0:K.lookup f=Ga ⟨oc,od,.func (EK x q (Vj st) (Zd st) (Qm st) .none kV dc pm an cd ct),sl⟩) (h1:F0 K cd q=Gk) (h2:Ee K ↑f=Gk):Yt K x q st f
abbrev Iy(K:Gd)(x:TQ)(f:Ge):Prop:=Fg K El x=Ga (Ga ↑f)
abbrev hE(K:Gd)(c:Ge)(x:TQ)(f:Ge):Prop:=TM K ↑c x=Ga (Ga ↑f)
abbrev ig(K:Gd)(x:TQ):Prop:=Fg K El x=Ga Gp
end Sb
end
section
namespace K04
open PySem L2 Sb
noncomputable def top(i:Nat):DX:=PySem.Challenge.pw_samebook_k04_whole_tellings_shown.main.body.getD i (.Pass {(0),(0),(0),(0)})
abbrev lb:DX:=top 1
abbrev oG:DX:=Yj (top 2) 0
abbrev Im:DX:=Yj (top 2) 1
abbrev jJ:DX:=Yj (top 2) 2
abbrev qo:DX:=Yj (top 2) 3
abbrev pH:DX:=Yj (top 2) 4
abbrev Wo:DX:=Yj (top 2) 5
abbrev nJ:DX:=Yj (top 2) 6
abbrev Vd:DX:=Yj (top 2) 7
abbrev lK:DX:=Yj (top 2) 8
abbrev nI:DX:=Yj (top 2) 9
abbrev js:DX:=Yj (top 2) 10
abbrev ou:DX:=top 4
abbrev Ir:DX:=top 5
abbrev nD:DX:=top 6
abbrev qV:DX:=Yj (top 7) 0
abbrev rC:DX:=Yj (top 7) 1
abbrev V5:DX:=Yj (top 7) 2
abbrev nL:DX:=Yj (top 7) 3
abbrev qA:DX:=Yj (top 12) 0
abbrev sd:DX:=Yj (top 12) 1
abbrev nG:DX:=Yj (top 12) 2
abbrev rg:DX:=Yj (top 13) 0
abbrev Wg:DX:=Yj (top 13) 1
abbrev nq:DX:=top 14
abbrev sC:DX:=top 15
abbrev rq:DX:=top 16
abbrev nH:DX:=top 19
abbrev Oo:DX:=top 20
abbrev rH:DX:=top 21
abbrev U4:DX:=top 22
abbrev pZ:DX:=Yj (top 23) 0
abbrev lC:DX:=Yj (top 23) 1
abbrev oM:DX:=Yj (top 23) 2
abbrev kq:DX:=Yj (top 23) 3
abbrev jZ:DX:=Yj (top 23) 4
abbrev pD:DX:=Yj (top 23) 5
abbrev oH:DX:=top 24
abbrev Rk:DX:=top 29
abbrev Wq:DX:=top 30
abbrev rP:DX:=top 31
abbrev rB:DX:=top 32
abbrev r9:DX:=top 34
abbrev mI:DX:=top 35
abbrev sk:DX:=top 36
abbrev Rf:DX:=top 37
abbrev oI:DX:=top 38
abbrev jh:DX:=top 39
abbrev V3:DX:=top 40
abbrev pL:DX:=top 41
abbrev qa:DX:=top 42
abbrev sg:DX:=top 43
abbrev Uh:DX:=top 44
abbrev kK:DX:=top 45
abbrev pU:DX:=top 46
abbrev rz:DX:=top 47
abbrev sSo:DX:=top 48
abbrev jd:DX:=top 49
end K04
end
section
namespace K04
open PySem L2 Sb
inductive Fx(K:Gd):Prop
 |mk {CP CW CN CS CB f0 f1 f2 f3 f4 f5 f6 f7 f8 f9 f10 f11 f12 f13 f14 f15 f16 f17 f18 f19 f20 f21 f22 f23 f24 f25 f26 f27 f28 f29 f30 f31 f32 f33 f34 f35 f36 f37 f38 f39 f40 f41 f42 f43 f44 f45 f46 f47 f48 f49 f50 f51 f52 f53 f54 f55 f56 f57:Ge} {tkn tfew twal tste:Ad}
  (aP:Iy K "Places" CP) (pP:EM K CP Lu=Gk) (dP:ES K CP=Gk) (oP:E9 K CP=Gk) (sP:TM K ↑CP "__setattr__"/Ga (.builtin "object.__setattr__")) (mP:SA K CP=Gk) (cP:Ee K ↑CP=Gk)
  (nPthings:TM K ↑CP "things"/Gp) (nPforms:TM K ↑CP "forms"/Gp) (nPknown:TM K ↑CP "known"/Gp) (aW:Iy K "Walk" CW) (pW:EM K CW Lu=Gk) (dW:ES K CW=Gk) (oW:E9 K CW=Gk)
  (sW:TM K ↑CW "__setattr__"/Ga (.builtin "object.__setattr__")) (mW:SA K CW=Gk) (cW:Ee K ↑CW=Gk) (nWplaces:TM K ↑CW "places"/Gp) (nWsteps:TM K ↑CW "steps"/Gp) (aN:Iy K "Net" CN)
  (pN:EM K CN Lu=Gk) (dN:ES K CN=Gk) (oN:E9 K CN=Gk) (sN:TM K ↑CN "__setattr__"/Ga (.builtin "object.__setattr__")) (mN:SA K CN=Gk) (cN:Ee K ↑CN=Gk) (nNforms:TM K ↑CN "forms"/Gp)
  (nNleads:TM K ↑CN "leads"/Gp) (nNmembers:TM K ↑CN "members"/Gp) (nNusers:TM K ↑CN "users"/Gp) (nNtable:TM K ↑CN "table"/Gp) (nNlinks:TM K ↑CN "links"/Gp) (nNlinkat:TM K ↑CN "link_at"/Gp)
  (nNabove:TM K ↑CN "above"/Gp) (aS:Iy K "Showing" CS) (pS:EM K CS Lu=Gk) (dS:ES K CS=Gk) (oS:E9 K CS=Gk) (sS:TM K ↑CS "__setattr__"/Ga (.builtin "object.__setattr__")) (mS:SA K CS=Gk)
  (cS:Ee K ↑CS=Gk) (nSthings:TM K ↑CS "things"/Gp) (nSnet:TM K ↑CS "net"/Gp) (nSlines:TM K ↑CS "lines"/Gp) (nSnumbers:TM K ↑CS "numbers"/Gp) (aB:Iy K "Book" CB) (pB:EM K CB Lu=Gk)
  (dB:ES K CB=Gk) (oB:E9 K CB=Gk) (sB:TM K ↑CB "__setattr__"/Ga (.builtin "object.__setattr__")) (mB:SA K CB=Gk) (cB:Ee K ↑CB=Gk) (nBplaces:TM K ↑CB "places"/Gp) (nBtold:TM K ↑CB "told"/Gp)
  (nBentries:TM K ↑CB "entries"/Gp) (cfew:Fg K El "FEW_PARTS"/Ga (.int 4 tfew)) (cwal:Fg K El "WALKS_ANEW"/Ga (.int 1024 twal)) (cste:Fg K El "STEPS_ANEW"/Ga (.int 40000 tste)) (anm:Fg K El "NO_MOMENT"/Ga (.str "no moment" tkn))
  (a0:Iy K "top_words" f0) (h0:Yt K "top_words" "top_words" nq f0) (a1:hE K CP "__init__" f1) (i1:Dk K ↑f1=Gk) (h1:Yt K "__init__" "Places.__init__" qA f1) (a2:hE K CP "place_of" f2) (i2:Dk K ↑f2=Gk)
  (h2:Yt K "place_of" "Places.place_of" sd f2) (a3:hE K CW "__init__" f3) (i3:Dk K ↑f3=Gk) (h3:Yt K "__init__" "Walk.__init__" rg f3) (a4:Iy K "place_among" f4) (h4:Yt K "place_among" "place_among" sC f4)
  (a5:Iy K "share_of" f5) (h5:Yt K "share_of" "share_of" rq f5) (a6:hE K CW "place_within" f6) (i6:Dk K ↑f6=Gk) (h6:Yt K "place_within" "Walk.place_within" Wg f6) (a7:hE K CP "place_by_form" f7)
  (i7:Dk K ↑f7=Gk) (h7:Yt K "place_by_form" "Places.place_by_form" nG f7) (a8:Iy K "net_of" f8) (h8:Yt K "net_of" "net_of" lb f8) (a9:hE K CN "__init__" f9) (i9:Dk K ↑f9=Gk) (h9:Yt K "__init__" "Net.__init__" oG f9)
  (a10:hE K CN "take_in" f10) (i10:Dk K ↑f10=Gk) (h10:Yt K "take_in" "Net.take_in" Im f10) (a11:hE K CN "key_of" f11) (i11:Dk K ↑f11=Gk) (h11:Yt K "key_of" "Net.key_of" jJ f11) (a12:hE K CN "equal" f12)
  (i12:Dk K ↑f12=Gk) (h12:Yt K "equal" "Net.equal" qo f12) (a13:hE K CN "merge" f13) (i13:Dk K ↑f13=Gk) (h13:Yt K "merge" "Net.merge" pH f13) (a14:hE K CN "merge_link" f14) (i14:Dk K ↑f14=Gk)
  (h14:Yt K "merge_link" "Net.merge_link" Wo f14) (a15:hE K CN "hang" f15) (i15:Dk K ↑f15=Gk) (h15:Yt K "hang" "Net.hang" nJ f15) (a16:hE K CN "give_over" f16) (i16:Dk K ↑f16=Gk) (h16:Yt K "give_over" "Net.give_over" Vd f16)
  (a17:hE K CN "way" f17) (i17:Dk K ↑f17=Gk) (h17:Yt K "way" "Net.way" lK f17) (a18:hE K CN "way_up" f18) (i18:Dk K ↑f18=Gk) (h18:Yt K "way_up" "Net.way_up" nI f18) (a19:hE K CN "rows" f19) (i19:Dk K ↑f19=Gk)
  (h19:Yt K "rows" "Net.rows" js f19) (a20:Iy K "lines_between" f20) (h20:Yt K "lines_between" "lines_between" ou f20) (a21:Iy K "links_needed" f21) (h21:Yt K "links_needed" "links_needed" Ir f21) (a22:Iy K "pairs_below" f22)
  (h22:Yt K "pairs_below" "pairs_below" nD f22) (a23:hE K CS "__init__" f23) (i23:Dk K ↑f23=Gk) (h23:Yt K "__init__" "Showing.__init__" qV f23) (a24:hE K CS "write" f24) (i24:Dk K ↑f24=Gk) (h24:Yt K "write" "Showing.write" rC f24)
  (a25:hE K CS "write_link" f25) (i25:Dk K ↑f25=Gk) (h25:Yt K "write_link" "Showing.write_link" V5 f25) (a26:hE K CS "line_for" f26) (i26:Dk K ↑f26=Gk) (h26:Yt K "line_for" "Showing.line_for" nL f26)
  (a27:Iy K "answers" f27) (h27:Yt K "answers" "answers" nH f27) (a28:hE K CB "__init__" f28) (i28:Dk K ↑f28=Gk) (h28:Yt K "__init__" "Book.__init__" pZ f28) (a29:hE K CB "answer" f29) (i29:Dk K ↑f29=Gk)
  (h29:Yt K "answer" "Book.answer" lC f29) (a30:hE K CB "go_back" f30) (i30:Dk K ↑f30=Gk) (h30:Yt K "go_back" "Book.go_back" oM f30) (a31:hE K CB "tell" f31) (i31:Dk K ↑f31=Gk) (h31:Yt K "tell" "Book.tell" kq f31)
  (a32:hE K CB "ask" f32) (i32:Dk K ↑f32=Gk) (h32:Yt K "ask" "Book.ask" jZ f32) (a33:hE K CB "lines_for" f33) (i33:Dk K ↑f33=Gk) (h33:Yt K "lines_for" "Book.lines_for" pD f33) (a34:Iy K "least_clash" f34)
  (h34:Yt K "least_clash" "least_clash" oH f34) (a35:Iy K "book_after" f35) (h35:Yt K "book_after" "book_after" U4 f35) (a36:Iy K "told_after" f36) (h36:Yt K "told_after" "told_after" Oo f36) (a37:Iy K "world" f37)
  (h37:Yt K "world" "world" rH f37) (a38:Iy K "holds" f38) (h38:Yt K "holds" "holds" Rk f38) (a39:Iy K "numbers_of" f39) (h39:Yt K "numbers_of" "numbers_of" Wq f39) (a40:Iy K "row_table" f40) (h40:Yt K "row_table" "row_table" rP f40)
  (a41:Iy K "number_in" f41) (h41:Yt K "number_in" "number_in" rB f41) (a42:Iy K "_law_any_word" f42) (h42:Yt K "_law_any_word" "_law_any_word" kK f42) (a43:Iy K "_law_so" f43) (h43:Yt K "_law_so" "_law_so" sSo f43) (a44:Iy K "_law_drawn_things" f44)
  (h44:Yt K "_law_drawn_things" "_law_drawn_things" mI f44) (a45:Iy K "_law_drawn_deeds" f45) (h45:Yt K "_law_drawn_deeds" "_law_drawn_deeds" sk f45) (a46:Iy K "_law_room" f46) (h46:Yt K "_law_room" "_law_room" pU f46) (a47:Iy K "_law_any" f47)
  (h47:Yt K "_law_any" "_law_any" rz f47) (a48:Iy K "_law_classes" f48) (h48:Yt K "_law_classes" "_law_classes" Uh f48) (a49:Iy K "_law_whole" f49) (h49:Yt K "_law_whole" "_law_whole" r9 f49) (a50:Iy K "_law_is_thing" f50)
  (h50:Yt K "_law_is_thing" "_law_is_thing" Rf f50) (a51:Iy K "_law_line_follows" f51) (h51:Yt K "_law_line_follows" "_law_line_follows" oI f51) (a52:Iy K "_law_lines_show" f52) (h52:Yt K "_law_lines_show" "_law_lines_show" jh f52)
  (a53:Iy K "_law_number_in" f53) (h53:Yt K "_law_number_in" "_law_number_in" V3 f53) (a54:Iy K "_law_is_world" f54) (h54:Yt K "_law_is_world" "_law_is_world" pL f54) (a55:Iy K "_law_world_fits" f55) (h55:Yt K "_law_world_fits" "_law_world_fits" qa f55)
  (a56:Iy K "_law_clash_shown" f56) (h56:Yt K "_law_clash_shown" "_law_clash_shown" sg f56) (a57:Iy K "law" f57) (h57:Yt K "law" "law" jd f57) (z_len:ig K "len") (z_min:ig K "min") (z_abs:ig K "abs") (z_list:ig K "list") (z_tuple:ig K "tuple") (z_str:ig K "str")
  (z_bool:ig K "bool") (z_int:ig K "int") (z_isinstance:ig K "isinstance") (z_range:ig K "range") (z_reversed:ig K "reversed") (z_enumerate:ig K "enumerate") (z_zip:ig K "zip") (z_sorted:ig K "sorted"):Fx K
end K04
open PySem PySem.W PyProof.Rows
namespace K04
abbrev pw:Gn:=PySem.Challenge.pw_samebook_k04_whole_tellings_shown
noncomputable abbrev qv:Gn:=view pw [1,2,4,5,6,7,9,10,11,12,13,14,15,16,18,19,20,21,22,23,24,26,27,29,30,31,32,34,35,36,37,38,39,40,41,42,43,44,45,46,47,48,49]
theorem once{l:C8}{q:Gn}{d:C9}{a:List (TQ×PySem.Expr)}{N:Nat}(H:Hook)(left:LeftO l.row.prog q [] (λs=>xlAt q [] s&&recOk l.row.toRowW.records s) H.obs H.val N)(b:defOf q l.row.name/(d,a))(i:l.row.prog.theDef l.row.name/(d.params,d.body,d.scope))(h:kwWritten? d.params.kwonlyargs d.params.kw_defaults/a)
  (c:(!l.row.writes||l.row.records.isEmpty)=Gk)(j:l.row.wellSaid=Gk)(ok:(chainsOk q&&opensWell l.row.prog&&(frees l.row.toRowW&&l.row.within.isEmpty))=Gk)(g:l.row.prog.bare)(hw:l.row.toRowW.promised)(call:WalkO q [] (HS q []) H.says l.row.toRowW d a λf k=>M4 f k):l.row.Holds:=
 holds_open left H.of H.keeps (λs e=>xl_of s (E4.mp e).1) JA b i h (λs e=>recFacts_of (E4.mp e).2) c j ok g hw call
end K04
def PySem.W.Fast.tw1919455023078718950:Gn:=K04.pw
theorem PySem.W.Fast.te1919455023078718950:PySem.Challenge.pw_samebook_k04_whole_tellings_shown=PySem.W.Fast.tw1919455023078718950:=rfl
local macro_rules|`(tactic|o_head $H:term)=>`(tactic|refine K04.once (q:=K04.qv) (N:=6756) $H ?hl (by rfl) (by rfl) (by rfl) (by rfl) (by assumption) (by decide+kernel) ⟨Xb,Xb,Xb,Xb,Xb,by decide+kernel⟩ ?hw ?hc)
theorem K04.mp{b d e:Type}{o:Option b}{f:b->d}{g:b->e}{x:d}{y:e}(c:o.map f/x)(h:o.map g/y):o.map (λs=>(f s,g s))/(x,y):=by
 cases o with
 |none=>cases c
 |some a=>cases c;cases h;rfl
set_option maxHeartbeats 0 in
theorem K04.Q6z(w:Ti):(openEnds treeTable K04.pw w 6756).map (λs=>openSeen K04.qv [] (importedModules K04.pw.main.body) (λs=>xlAt K04.qv [] s&&recOk PySem.Challenge.rw_samebook_k04_whole_tellings_shown.row.toRowW.records s) Gk s)/openGood K04.qv []:=by unfold openEnds fencedOpening topFrom K04.pw;rw[LO,LP,LQ,LR,NY,PySem.W.Fast.te1919455023078718950];kernel_rfl
set_option maxHeartbeats 0 in
theorem K04.head(W:∀(K:Ha->Frag)(a:Ti->Heap->Prop)(d:C9),d.name="law"->d.params.defaults=[]->(∀(w:Ti)(h:Heap),a w h->(K w.params).In h)->(∀w:Ti,K04.Fx (K w.params))->WalkO K04.qv [] (HS K04.qv []) a PySem.Challenge.rw_samebook_k04_whole_tellings_shown.row.toRowW d [] λf b=>M4 f b):PySem.Challenge.rw_samebook_k04_whole_tellings_shown.Holds:=by
 w_on;o_law;k_head;(case hw=>w_witness2)
 case hl=>
  (show LeftO K04.pw (view K04.pw _) _ _ _ _ _)
  intro w;refine K04.mp (K04.Q6z w) ?_;unfold openEnds fencedOpening topFrom K04.pw;rw[LO,LP,LQ,LR,PySem.W.Fast.te1919455023078718950];kernel_rfl
 case hc=>
  k_fill
  refine W _ _ _ rfl rfl (λw h Y=>JY Y) λw=>?_;apply K04.Fx.mk;all_goals first|exact⟨_,_,_,_,_,_,_,_,_,by k_is,by k_is,by k_is⟩|(show _=_;k_is)|skip
end
namespace L2
open PySem PySem.Spec PyProof.Rows
variable{us:List Gh}{i t' k n:Nat}{a b C:Ge}{α:Type}{P:Gn}{w:Ti}{o:Lc}{N ps:List TQ}{x:TQ}{M:Model}{A:DW}{E Q:Gh->Gw->Prop}{u:Gh}{e c tg:Ea}{s:Gw}{zq:List (Ge×Lc)}{pos:MQ}{op:CmpOp}{body:List DX}{fp:List Ge}{pl:Ae Bool}{f:Gh->Gh->Ae Gh}{kw:List (TQ×Gh)}{mg:TQ->Option Gh}
abbrev Wl:=Sum Int TQ
def jP:Wl->Gh->Bool
 |.inl k,v=>Hv k v
 |.inr x,v=>Cq x v
def WZ(w:Ti):Wl->Int
 |.inl k=>hashInt k
 |.inr x=>hashStr w x
theorem Xp:∀{k:Wl}{v:Gh},jP k v=Gk->(∃i t,k=FW i/\v=MR i t)\/(∃x t,k=M7 x/\v=MT x t)
 |.inl i,v,h=>by have(t,e):=RK (k:=i) (v:=v) h;exact .inl ⟨i,t,Xb,e⟩
 |.inr x,v,h=>by have(t,e):=Value.isStrOf_shape (x:=x) (v:=v) h;exact .inr ⟨x,t,Xb,e⟩
theorem Qr1(i:Int)(t:Ad):jP (.inl i) (.int i t)=Gk:=by simp[jP,Hv]
theorem Qs0(x:TQ)(t:Ad):jP (.inr x) (.str x t)=Gk:=by simp[jP,Cq]
theorem ZP(a b:Int):decide ((FW a:Wl)=FW b)=(a==b):=by
 by_cases e:a=b
 .subst e;simp
 .have h:¬(FW a:Wl)=FW b:=λq=>e (Ah q);rw[Tj h];exact(EW.mpr e).symm
theorem ZN(a b:TQ):decide ((M7 a:Wl)=M7 b)=decide (a=b):=by
 by_cases e:a=b
 .subst e;simp
 .have h:¬(M7 a:Wl)=M7 b:=λq=>e (Ai q);rw[Tj h,Tj e]
theorem Py(a:Int)(b:TQ):decide ((FW a:Wl)=M7 b)=Gx:=Tj (λq=>nomatch q)
theorem Q3b(a:TQ)(b:Int):decide ((M7 a:Wl)=FW b)=Gx:=Tj (λq=>nomatch q)
noncomputable def Y9(prog:Gn)(w:Ti):PySem.KeyKind prog w Wl where
 is:=jP
 hash:=WZ w
 inj:=λv a b g f=>by
  rcases Xp g with⟨i,t,rfl,rfl⟩|⟨x,t,rfl,rfl⟩
  .rcases Xp f with⟨j,u,rfl,e⟩|⟨y,u,rfl,e⟩
   .injection e with c _;rw[c]
   .exact nomatch e
  .rcases Xp f with⟨j,u,rfl,e⟩|⟨y,u,rfl,e⟩
   .exact nomatch e
   .injection e with c _;rw[c]
 byValue:=λk v h=>by rcases Xp h with⟨i,t,rfl,rfl⟩|⟨x,t,rfl,rfl⟩<;>rfl
 pyHash:=λd h=>by
  rcases Xp d with⟨i,t,rfl,rfl⟩|⟨x,t,rfl,rfl⟩
  .exact Bf h
  .exact Bg h
 eqBool:=λl d h=>by
  rcases Xp l with⟨i,t,rfl,rfl⟩|⟨x,t,rfl,rfl⟩
  .rcases Xp d with⟨j,u,rfl,rfl⟩|⟨y,u,rfl,rfl⟩
   .rw[ZP]at h;exact wpAny_eqBool_int h
   .rw[Py]at h;exact HU i t y u _ _ _ _ h
  .rcases Xp d with⟨j,u,rfl,rfl⟩|⟨y,u,rfl,rfl⟩
   .rw[Q3b]at h;exact HV x t j u _ _ _ _ h
   .rw[ZN]at h;exact wpAny_eqBool_str h
 «strs»:=λk x t v h=>by
  rcases Xp h with⟨i,u,rfl,e⟩|⟨y,u,rfl,e⟩
  .exact nomatch e
  .injection e with c _;subst c;cases v<;>rfl
theorem Qjv(a:Gn)(w:Ti)(i:Int)(t:Ad):(Y9 a w).is (.inl i) (.int i t)=Gk:=Qr1 i t
theorem UV(a:Gn)(w:Ti)(x:TQ)(t:Ad):(Y9 a w).is (.inr x) (.str x t)=Gk:=Qs0 x t
inductive V where
 |non|bl (b:Bool)|int (i:Int)|str (x:TQ)|byt (b:Array UInt8)|flt (b:UInt64)|ref (a:Ge)|ty (n:String)
 deriving DecidableEq
variable{xs vs:List V}{v:V}
def zv:V->Gh->Prop
 |.non,u=>u=DJ
 |.bl b,u=>u=LC b
 |.int i,u=>∃t,u=MR i t
 |.str x,u=>∃t,u=MT x t
 |.byt b,u=>∃t,u=Hw b t
 |.flt b,u=>∃t,u=Bw b t
 |↑a,u=>u=Tq a
 |.ty n,u=>u=Lf n
abbrev Yh:List V->List Gh->Prop:=Dm zv
theorem Yh.length{b:List V}{a:List Gh}(r:Yh b a):⇑b=⇑a:=GJ r
theorem Yh.get{x:V}(h:Yh xs us)(e:xs[i]?/x):∃u,us[i]?/u/\zv x u:=by
 induction h generalizing i with
 |nil=>cases e
 |cons r _ a=>cases i with
  |zero=>cases e;exact{0,r}
  |succ=>exact a e
theorem Yh.append{b:List V}{a:List Gh}(h:Yh xs us)(s:Yh b a):Yh (xs++b) (us++a):=by
 induction h with
 |nil=>exact s
 |cons r _ c=>exact .cons r c
theorem Yh.take{b:List V}{a:List Gh}(n:Nat)(h:Yh b a):Yh (b.take n) (a.take n):=by
 induction h generalizing n with
 |nil=>cases n<;>exact .nil
 |cons r _ c=>cases n with
  |zero=>exact .nil
  |succ=>exact .cons r (c _)
theorem Yh.drop{b:List V}{a:List Gh}(n:Nat)(h:Yh b a):Yh (b.drop n) (a.drop n):=by
 induction h generalizing n with
 |nil=>cases n<;>exact .nil
 |cons r t c=>cases n with
  |zero=>exact .cons r t
  |succ=>exact c _
def R1:Option V->Option Gh->Prop
 |some v,Ga u=>zv v u
 |none,Gp=>True
 |_,_=>False
def KV{κ:Type}:List (κ×V)->List (κ×Gh)->Prop:=Dm λ(p:κ×V)(q:κ×Gh)=>p.1=q.1/\zv p.2 q.2
def kV:Wl->V
 |.inl i=>.int i
 |.inr x=>.str x
inductive HO where
 |lst (xs:List V)
 |tup (xs:List V)
 |dK (zw:List (Wl×V))|dT (zw:List (List Wl×V))
 |set (S:Int->Bool) (n:Nat)
 |ins (C dx:Ge) (fs:List (TQ×V))
 |own (x:Ge)
 |xd (fs:List (TQ×V))
 |met (f x:Ge)
 |rng (lo hi:Int)
 |frz (o:Lc) (u:HO)
 |tbl (ps:Array Gh)
 |ext (φ:Heap->Prop)
abbrev Hp:=Ge->Option HO
variable{H:Hp}
def zj(H:Hp)(a:Ge)(o:HO):Hp:=λb=>if b=a then Ga o else H b
theorem Qb{H:Hp}{a:Ge}{o:HO}:zj H a o a/o:=by unfold zj;rw[GY rfl]
theorem Qh{o:HO}(h:b≠a):zj H a o b=H b:=by unfold zj;rw[Gu h]
theorem X9{o u:HO}:zj (zj H a o) a u=zj H a u:=by
 funext b;unfold zj;split<;>rfl
theorem Zr{o u:HO}(h:H a/o)(c:H b/u)(d:o≠u):a≠b:=by intro e;subst e;rw[h]at c;exact d (T1 c)
theorem Qd{o:HO}(h:H a/o)(c:H b=Gp):a≠b:=by intro e;subst e;rw[h]at c;cases c
section
variable(P:Gn)(w:Ti)
def Yr(H:Hp)(h:Heap)(a:Ge):HO->Prop
 |.lst xs=>⇑xs<=TF/\∃(b:List Gh)(n:Nat),Yh xs b/\h.get? a=Ga {cls:=.type "list",data:=.seq b.toArray n}
 |.tup xs=>⇑xs<=TF/\∃b:List Gh,Yh xs b/\IsTup h a b.toArray
 |.dK zw=>⇑zw<=TF/\(a==Er)=Gx/\∃c,KV zw c/\h.DictOf (Y9 P w) a c
 |.dT zw=>⇑zw<=TF/\(a==Er)=Gx/\∃xs:List (List Wl×Ge×Gh),
   Dm (λ(p:List Wl×V)(q:List Wl×Ge×Gh)=>p.1=q.1/\H q.2.1/.tup (p.1.map kV)/\zv p.2 q.2.2) zw xs/\
   ∃o es ep,h.get? a/o/\o.ExactDict/\o.data=.dict es ep/\es.toList=xs.map (entryOfKey (tupleKind (Y9 P w)))/\(xs.map (·.1)).Nodup
 |.set S n=>h.SetOf (intKind P w) a S n
 |.ins C dx fs=>H dx/.own a/\⇑fs<=1000/\dx≠a/\h.get? a/Sd C dx/\
   ∃mA,h.Ns1 dx mA/\(∀f,R1 (fs.lookup f) (mA f))/\RL mA (fs.map (·.1))
 |.own _=>∃o,h.get? a/o
 |.xd fs=>∃mA,h.Ns1 a mA/\∀f,R1 (fs.lookup f) (mA f)
 |.rng lo hi=>∃t u v,h.get? a=Ga {cls:=.type "range",data:=.fields #[.int lo t,.int hi u,.int 1 v]}
 |.frz o u=>h.get? a/o/\Yr H h a u
 |.tbl ps=>h.get? a=Ga {cls:=.none,data:=.fields ps}
 |.met f x=>h.get? a/Mw ↑f ↑x
 |.ext c=>c h/\(∃o,h.get? a/o)/\∀h1 h2:Heap,c h1->(∀o,h1.get? a/o->h2.get? a/o)->c h2
def Ox(H:Hp)(h:Heap):Prop:=∀a o,H a/o->Yr P w H h a o
end
section
variable{P:Gn}{w:Ti}{H H':Hp}{h h':Heap}{a:Ge}{o:HO}
theorem Yr.lt(x:Yr P w H h a o):a<h.objs.size:=by
 cases o with
 |lst d=>have(_,_,_,_,e):=x;exact Tn e
 |tup d=>have(_,_,_,p):=x;exact p.lt
 |dK b=>have(_,_,_,_,o,_,_,e,_):=x;exact Tn e
 |dT b=>have(_,_,_,_,o,_,_,e,_):=x;exact Tn e
 |set S n=>have(o,_,_,_,e,_):=x;exact Tn e
 |ins C f c=>have(_,_,_,e,_):=x;exact Tn e
 |own y=>have(_,e):=x;exact Tn e
 |xd c=>have(_,(_,_,_,e,_),_):=x;exact Tn e
 |rng f hi=>have(_,_,_,e):=x;exact Tn e
 |frz f u=>have(e,_):=x;exact Tn e
 |tbl f=>exact Tn (show h.get? a/_ from x)
 |met f y=>exact Tn (show h.get? a/_ from x)
 |ext f=>have(_,(_,e),_):=x;exact Tn e
theorem Qr{e:Type}{F G:α->e->Prop}{c:List α}{d:List e}(h:Dm F c d)(f:∀a b,F a b->G a b):Dm G c d:=by
 induction h with
 |nil=>exact .nil
 |cons r _ a=>exact .cons (f _ _ r) a
theorem Yr.jE(x:Yr P w H h a o)(k:∀b u,(b=a\/H b/.own a)->h.get? b/u->h'.get? b/u)
  (E:∀b,H b/.own a->H' b/.own a)(ht:∀b m,H b/.tup m->H' b/.tup m):Yr P w H' h' a o:=by
 induction o with
 |lst m=>have(z,l,n,r,e):=x;exact{z,l,n,r,k _ _ (.inl Xb) e}
 |tup m=>have(z,l,r,g,e,c):=x;exact{z,l,r,g,k _ _ (.inl Xb) e,c}
 |dK s=>have(z,y,f,r,g,j,i,e,c):=x;exact{z,y,f,r,g,j,i,k _ _ (.inl Xb) e,c}
 |dT s=>have(z,y,m,r,g,j,i,e,c):=x;exact{z,y,m,Qr r λp q z=>{z.1,ht _ _ z.2.1,z.2.2},g,j,i,k _ _ (.inl Xb) e,c}
 |set S n=>have(g,j,i,t,e,c):=x;exact{g,j,i,t,k _ _ (.inl Xb) e,c}
 |ins C F D=>have(d,z,v,e,A,(B,j,i,f,c),r):=x;exact{E _ d,z,v,k _ _ (.inl Xb) e,A,{B,j,i,k _ _ (.inr d) f,c},r}
 |own y=>have(g,e):=x;exact{g,k _ _ (.inl Xb) e}
 |xd D=>have(A,(B,j,i,e,c),r):=x;exact{A,{B,j,i,k _ _ (.inl Xb) e,c},r}
 |rng f hi=>have(t,u,v,e):=x;exact{t,u,v,k _ _ (.inl Xb) e}
 |frz g u f=>have(e,q):=x;exact{k _ _ (.inl Xb) e,f q}
 |tbl f=>have e:h.get? a=Ga {cls:=.none,data:=.fields f}:=x;show h'.get? a=Ga {cls:=.none,data:=.fields f};exact k a _ (.inl Xb) e
 |met f y=>have e:h.get? a/Mw ↑f ↑y:=x;show h'.get? a/Mw ↑f ↑y;exact k a _ (.inl Xb) e
 |ext v=>have(p,(o,e),f):=x;exact{f _ _ p λo q=>k _ _ (.inl Xb) q,{o,k _ _ (.inl Xb) e},f}
theorem Ox.lt(x:Ox P w H h)(e:H a/o):a<h.objs.size:=(x a o e).lt
theorem Ox.fresh(x:Ox P w H h)(e:h.objs.size<=a):H a=Gp:=by
 cases q:H a with
 |none=>rfl
 |some u=>exact absurd (TZ (x.lt q) e) (ER _)
theorem Ox.kept(x:Ox P w H h)(k:∀b u,h.get? b/u->h'.get? b/u):Ox P w H h':=λa o e=>(x a o e).jE (λb u _ q=>k b u q) (λ_ q=>q) λ_ _ q=>q
theorem Ox.laid(x:Ox P w H h)(k:∀b u,h.get? b/u->h'.get? b/u)(i:h.objs.size<=a)(d:Yr P w (zj H a o) h' a o):Ox P w (zj H a o) h':=λb u e=>by
 have g:=x.fresh i;by_cases f:b=a
 .subst f;rw[Qb]at e;cases e;exact d
 .rw[Qh f]at e;exact(x b u e).jE (λc v _ q=>k c v q) (λc q=>by rw[Qh (Qd q g)];exact q) λc j q=>by rw[Qh (Qd q g)];exact q
end
def Rd(H:Hp)(a:Ge)(u:HO):Prop:=H a=Ga u\/∃o,H a/.frz o u
theorem Rd.ok{h:Heap}{u:HO}(r:Rd H a u)(x:Ox P w H h):Yr P w H h a u:=by
 rcases r with r|⟨o,r⟩
 .exact x a u r
 .obtain⟨_,q⟩:=x a _ r;exact q
def lI:Option HO->Prop
 |some (.lst _)=>True
 |some (.dK _)=>True
 |some (.dT _)=>True
 |some (.set _ _)=>True
 |some (.ins _ _ _)=>True
 |some (.ext _)=>True
 |_=>False
section
variable{P:Gn}{w:Ti}{H:Hp}{h h':Heap}{x e:Ge}{o':HO}
theorem Ox.write(ok:Ox P w H h)(j:lI (H x))(o:e=x\/H e/.own x)(k:∀b u,b≠e->h.get? b/u->h'.get? b/u)(m:∃u,h'.get? e/u)
  (n:Yr P w (zj H x o') h' x o'):Ox P w (zj H x o') h':=λb u q=>by
 have d:∀c y,H c/.own y->c≠x:=λc y r z=>by subst z;rw[r]at j;exact j
 have f:∀c l,H c/.tup l->c≠x:=λc l r z=>by subst z;rw[r]at j;exact j
 by_cases g:b=x
 .subst g;rw[Qb]at q;cases q;exact n
 .rw[Qh g]at q;by_cases a:b=e
  .have i:H b/.own x:=by
    rcases o with z|z
    .exact absurd (a.trans z) g
    .rw[a];exact z
   rw[q]at i;cases i;have(v,p):=m;exact{v,by rw[a];exact p}
  .refine(ok b u q).jE (λc v i r=>k c v ?_ r) (λc r=>by rw[Qh (d c b r)];exact r) λc l r=>by rw[Qh (f c l r)];exact r
   rcases i with rfl|i
   .exact a
   .rintro rfl;rcases o with z|z
    .exact d c b i z
    .rw[i]at z;cases z;exact g rfl
end
structure Un(fs ex:List Ge)(H H':Hp)(h h':Heap):Prop where
 keep:∀b o,h.get? b/o->H b=Gp->b∉fs->b∉ex->h'.get? b/o
 slot:∀b o,h.get? b/o->H b=Gp->b∈fs->b∉ex->∃sl,h'.get? b=Ga {o with slots:=sl}
 free:∀b o,h.get? b/o->H b=Gp->b∉ex->H' b=Gp
 there:∀b o,h.get? b/o->b∉ex->∃o',h'.get? b/o'
 Qv:∀b xs,H b/.tup xs->H' b/.tup xs
 Qbe:∀b o u,H b/.frz o u->H' b/.frz o u
 Qde:∀b ps,H b/.tbl ps->∃more,H' b/.tbl (ps++more)
section
variable{fs fs' ex ex':List Ge}{H H1 H2:Hp}{h h1 h2 h':Heap}{a x e:Ge}{o:HO}
theorem Un.any(u:Un fs ex H H1 h h1){a:Lc}(q:h.get? b/a)(n:H b=Gp)(d:b∉ex):∃e,h1.get? b=Ga {a with slots:=e}:=by
 by_cases c:b∈fs
 .exact u.slot b a q n c d
 .exact{a.slots,u.keep b a q n c d}
theorem Un.trans(a:Un fs ex H H1 h h1)(b:Un fs ex H1 H2 h1 h2):Un fs ex H H2 h h2 where
 keep:=λc e q n g d=>b.keep c e (a.keep c e q n g d) (a.free c e q n d) g d
 slot:=λc e q n g d=>by have(m,f):=a.slot c e q n g d;have(l,j):=b.slot c _ f (a.free c e q n d) g d;exact⟨l,j⟩
 free:=λc e q n d=>by have(k,f):=a.there c e q d;exact b.free c k f (a.free c e q n d) d
 there:=λc e q d=>by have(k,f):=a.there c e q d;exact b.there c k f d
 Qv:=λc i q=>b.Qv c i (a.Qv c i q)
 Qbe:=λc e i q=>b.Qbe c e i (a.Qbe c e i q)
 Qde:=λc o q=>by have(l,f):=a.Qde c o q;have(m,j):=b.Qde c _ f;exact{l++m,by rw[j,NZ]}
theorem Un.kept(k:∀b u,h.get? b/u->h'.get? b/u):Un fs ex H H h h':=
 {λb a q _ _ _=>k b a q,λb a q _ _ _=>{a.slots,k b a q},λ_ _ _ n _=>n,λb a q _=>{a,k b a q},λ_ _ q=>q,λ_ _ _ q=>q,λ_ c q=>{#[],by rw[q];simp}}
theorem Un.refl:Un fs ex H H h h:=Un.kept λ_ _ q=>q
theorem Un.laid(k:∀b u,h.get? b/u->h'.get? b/u)(d:h.objs.size<=a)(c:H a=Gp):Un fs ex H (zj H a o) h h' where
 keep:=λb u q _ _ _=>k b u q
 slot:=λb u q _ _ _=>{u.slots,k b u q}
 free:=λb u q n _=>by rw[Qh (T9 (TZ (Tn q) d))];exact n
 there:=λb u q _=>{u,k b u q}
 Qv:=λb e q=>by rw[Qh (Qd q c)];exact q
 Qbe:=λb u e q=>by rw[Qh (Qd q c)];exact q
 Qde:=λb f q=>{#[],by rw[Qh (Qd q c),q];simp}
theorem Un.write(c:lI (H x))(j:e=x\/H e/.own x)(k:∀b u,b≠e->h.get? b/u->h'.get? b/u)(d:∃u,h'.get? e/u):Un fs ex H (zj H x o) h h':=by
 have i:∀b,H b=Gp->b≠x:=λb n z=>by subst z;rw[n]at c;exact c
 have g:∀b,H b=Gp->b≠e:=λb n z=>by
  subst z;rcases j with r|r
  .exact i b n r
  .rw[n]at r;cases r
 have f:∀b u,H b/u->¬lI (Ga u)->b≠x:=λb u q l z=>by subst z;rw[q]at c;exact l c
 refine⟨λb u q n _ _=>k b u (g b n) q,λb u q n _ _=>{u.slots,k b u (g b n) q},λb u q n _=>by rw[Qh (i b n)];exact n,λb u q _=>?_,
  λb m q=>by rw[Qh (f b _ q λz=>z)];exact q,λb u m q=>by rw[Qh (f b _ q λz=>z)];exact q,λb p q=>{#[],by rw[Qh (f b _ q λz=>z),q];simp}⟩
 by_cases a:b=e
 .subst a;exact d
 .exact{u,k b u a q}
end
noncomputable def trk(h:Heap)(H:Hp):List Ge:=(So h.objs.size).filter λa=>(H a).isSome
def jn(h:Heap)(H:Hp):Heap:=JS h (trk h H)
theorem QG(h:Heap)(H:Hp):(jn h H).objs.size=h.objs.size:=Hx _ _
theorem Qxl{h:Heap}(e:h.get? b/o)(n:H b=Gp):(jn h H).get? b/o:=
 HL _ e λa=>by have q:(H b).isSome=Gk:=(FK.mp a).2;rw[n]at q;simp at q
theorem ZZ{h:Heap}(e:(jn h H).get? b/o):h.get? b/o/\H b=Gp:=by
 have a:h.get? b/o:=HW (trk h H) e;exists a;cases q:H b with
 |none=>rfl
 |some x=>have c:b∈trk h H:=FK.mpr {Sq.mpr (Tn a),by simp[q]};have z:(jn h H).get? b=Gp:=Hy (trk h H) c;rw[z]at e;cases e
noncomputable def Q0m(g h:Heap)(L:Ge):List (Ge×Lc):=(So h.objs.size).filterMap λa=>if a=L\/(g.get? a).isSome=Gk then Gp else(h.get? a).map λo=>(a,o)
noncomputable def Wa(g h:Heap)(L d:Ge):List (Ge×Lc):=(Q0m g h L).filter λp=>decide (p.1≠d)
structure Mod(K:Gd)(mg:TQ->Option Gh)(base:Heap):Prop where
 kin:K.In base
 glob:base.Ns El mg
 blt:∃mb,base.Ns builtinsNs mb/\∀x:TQ,x≠"__name__"->mb x=bootBuiltins x
 nolimit:base.NoLimit
set_option genInjectivity false in
structure Cx where
 prog:Gn
 w:Ti
 K:Gd
 mg:TQ->Option Gh
 base:Heap
 A:DW
 N:List TQ
 s₀:Gw
 H₀:Hp
 env:Bh
 outer:List Bh
 stack:List Bh
 ex:List Ge
 fn:TQ->Bool
 calm:Bool
 pn:List (Ge×Lc)
 xe:Gh->Gw->Prop
variable{X:Cx}
noncomputable def frs(l:List Bh):List Ge:=l.filterMap (·.frame)
abbrev Cx.fs(X:Cx):List Ge:=frs X.outer
def su(a:Nl)(x:TQ):Prop:=a.names.lookup x=Ga .local\/a.names.lookup x/.cell\/a.names.lookup x/.free
def Loc(a:Nl)(x:TQ):Prop:=a.names.lookup x=Ga .local\/a.names.lookup x/.cell
def Look(a:Bh)(h:Heap)(m:TQ->Option Gh)(x:TQ)(u:Gh):Prop:=
 (a.kindOf x/.local/\m x/u)\/((a.kindOf x/.cell\/a.kindOf x/.free)/\∃c,a.cells.lookup x/c/\h.IsCell c (Ga u))
structure Cx.Ok(X:Cx):Prop where
 mod:Mod X.K X.mg X.base
 kind:X.env.scope.kind=.function
 glob:X.env.globals=El
 blt:X.env.builtins=builtinsNs
 above:X.s₀.heap.objs.size<=X.env.locals
 inj:∀x y c,X.env.cells.lookup x/c->X.env.cells.lookup y/c->x=y
 has:∀x,(X.env.kindOf x/.cell\/X.env.kindOf x/.free)->∃c,X.env.cells.lookup x/c
 cab:∀x c,X.fn x=Gk->X.env.cells.lookup x/c->X.s₀.heap.objs.size<=c
 hd:X.calm=Gk->X.A.handled=Gp
 frames:X.A.frames/X.stack
 stk:X.stack=X.outer\/(X.stack=X.env::X.outer/\X.env.frame/X.env.locals)
 exf:∀b∈X.ex,b≠X.env.locals/\∀x c,X.env.cells.lookup x/c->c≠b
 bs:∀b o,X.base.get? b/o->X.s₀.heap.get? b/o/\X.H₀ b=Gp
 bsz:X.base.objs.size<=X.s₀.heap.objs.size
 Qu9:∀b o,X.base.get? b/o->b∉X.ex
 Q00:∀b∈X.ex,b∉X.fs
 iF:X.s₀.heap.FunFrames X.base X.outer
 frf:∀b∈X.fs,X.H₀ b=Gp
structure zx(X:Cx)(zq:List (Ge×Lc))(σ:List (Option V))(H:Hp)(s:Gw):Prop where
 ok:X.Ok
 os:s.os=X.s₀.os
 bare:Mx s.gens
 base:Un X.fs X.ex X.H₀ H X.s₀.heap s.heap
 loc:∃m,s.heap.Ns X.env.locals m/\∀(i:Nat)(x:TQ)(v:V),X.N[i]?/x->σ[i]?/Ga v->su X.env.scope x->∃u,zv v u/\Look X.env s.heap m x u
 cell:∀x c,X.env.cells.lookup x/c->∃v,s.heap.IsCell c v
 free:H X.env.locals=Gp
 Iw:∀x c,X.env.cells.lookup x/c->H c=Gp
 pin:∀p∈X.pn++zq,s.heap.get? p.1/p.2/\H p.1=Gp/\p.1≠X.env.locals/\p.1∉X.fs/\∀v,p.2.data≠.cell v
 Yc:Ox X.prog X.w H s.heap
 len:⇑σ=⇑X.N
section
variable{X:Cx}{zq:List (Ge×Lc)}{σ:List (Option V)}{H H':Hp}{s:Gw}{h':Heap}
theorem Cx.Ok.Q9p(ok:X.Ok)(e:X.base.get? b/o):b∉X.fs:=λa=>by have:=(ok.iF.mem a).1;rw[e]at this;cases this
theorem zx.bs(I:zx X zq σ H s):∀b o,X.base.get? b/o->s.heap.get? b/o/\H b=Gp:=λb o e=>{I.base.keep b o (I.ok.bs b o e).1 (I.ok.bs b o e).2 (I.ok.Q9p e) (I.ok.Qu9 b o e),I.base.free b o (I.ok.bs b o e).1 (I.ok.bs b o e).2 (I.ok.Qu9 b o e)}
theorem zx.bk(I:zx X zq σ H s):∀b o,X.base.get? b/o->s.heap.get? b/o:=λb o e=>(I.bs b o e).1
theorem zx.mod(I:zx X zq σ H s):Mod X.K X.mg X.base:=I.ok.mod
theorem zx.kIn(I:zx X zq σ H s):X.K.In s.heap:=I.ok.mod.kin.keeps I.bk
theorem zx.lt(I:zx X zq σ H s):X.env.locals<s.heap.objs.size:=let⟨_,hn,_⟩:=I.loc;hn.lt
theorem zx.sz(I:zx X zq σ H s):X.s₀.heap.objs.size<=s.heap.objs.size:=Dj I.ok.above (FU I.lt)
theorem zx.K5(I:zx X zq σ H s)(h:s.heap.objs.size<=a):a∉X.fs:=λb=>by have(_,o,c,_):=I.ok.iF.mem b;exact absurd (TZ (Tn c) (Dj I.sz h)) (ER _)
theorem zx.cne(I:zx X zq σ H s):∀x c,X.env.cells.lookup x/c->c≠X.env.locals:=λx c e z=>by have(v,o,f,d):=I.cell x c e;have(m,(i,h,g,b,a,_),_):=I.loc;rw[z,b]at f;cases f;rw[a]at d;cases d
theorem zx.iF(I:zx X zq σ H s):s.heap.FunFrames X.base X.outer:=by
 have all:∀(l:List Bh),(∀b∈frs l,b∈X.fs)->X.s₀.heap.FunFrames X.base l->s.heap.FunFrames X.base l:=by
  intro l;induction l with
  |nil=>intro _ _;trivial
  |cons f r n=>intro hs i;have(h,(L,o,d,j,k,g),m):=i;have a:L∈X.fs:=hs L (by unfold frs;rw[FS,d];exact G8);have(p,e):=I.base.slot L o k (I.ok.frf L a) a λz=>I.ok.Q00 L z a;exact{h,{L,_,d,j,e,g},n (λb c=>hs b (by unfold frs;rw[FS,d];exact Gr _ c)) m}
 exact all X.outer (λ_ c=>c) I.ok.iF
theorem zx.stack(I:zx X zq σ H s):s.heap.FunFrames X.base X.stack:=by
 rcases I.ok.stk with e|⟨e,a⟩
 .rw[e];exact I.iF
 .rw[e];have(m,b,_):=I.loc;refine .cons (by rw[I.ok.kind];decide) a b ?_ I.iF;exact Heap.get?_none_of_le (Dj I.ok.bsz I.ok.above)
theorem zx.ox(I:zx X zq σ H s):∀b∈frs X.stack,b∈X.env.locals::X.fs:=λb a=>by
 rcases I.ok.stk with e|⟨e,c⟩
 .rw[e]at a;exact Gr _ a
 .rw[e]at a;unfold frs at a;rw[FS,c]at a;exact a
theorem zx.xB(I:zx X zq σ H s):∀b∈frs X.stack,H b=Gp:=λb a=>by
 rcases Td.mp (I.ox b a)with e|a
 .rw[e];exact I.free
 .obtain⟨_,o,c,_⟩:=I.ok.iF.mem a;exact I.base.free b o c (I.ok.frf b a) λz=>I.ok.Q00 b z a
theorem zx.step{g':Array GenState}{Q:Nat}{d':Drawn}{ch:List Ge}(I:zx X zq σ H s)
  (g:∀b∈ch,(b∈X.ex\/X.s₀.heap.objs.size<=b)/\b≠X.env.locals/\(∀x c,X.env.cells.lookup x/c->c≠b)/\∀p∈X.pn++zq,p.1≠b)
  (keep:∀b o,b≠X.env.locals->b∉X.fs->b∉ch->s.heap.get? b/o->H b=Gp->h'.get? b/o)
  (slot:∀b o,b≠X.env.locals->b∈X.fs->b∉ch->s.heap.get? b/o->H b=Gp->∃G,h'.get? b=Ga {o with slots:=G})(free:∀b o,b∉ch->s.heap.get? b/o->H b=Gp->H' b=Gp)
  (there:∀b o,b∉ch->s.heap.get? b/o->∃D,h'.get? b/D)
  (Qv:∀b w,H b/.tup w->H' b/.tup w)(Qbe:∀b o u,H b/.frz o u->H' b/.frz o u)(Qde:∀b E,H b/.tbl E->∃l,H' b/.tbl (E++l))
  (P:∀m,s.heap.Ns X.env.locals m->h'.Ns X.env.locals m)(K:Ox X.prog X.w H' h')(M:Mx g'):
  zx X zq σ H' {s with heap:=h',gens:=g',drawn:=d',toks:=Q}:=by
 have C:∀b o,X.s₀.heap.get? b/o->b≠X.env.locals:=λb o e=>T9 (TZ (Tn e) I.ok.above);have t:∀b o,X.s₀.heap.get? b/o->b∉X.ex->b∉ch:=λb o e a y=>by
  rcases(g b y).1 with z|z
  .exact a z
  .exact absurd (TZ (Tn e) z) (ER _)
 have f:∀x c,X.env.cells.lookup x/c->∀v,s.heap.IsCell c v->h'.IsCell c v:=λx c e v⟨o,A,F⟩=>by
  have h:c∉ch:=λz=>(g c z).2.2.1 x c e rfl;by_cases l:c∈X.fs
  .obtain⟨G,q⟩:=slot c o (I.cne x c e) l h A (I.Iw x c e);exact{_,q,F}
  .exact{o,keep c o (I.cne x c e) l h A (I.Iw x c e),F}
 refine{I.ok,I.os,M,{λb o e n y a=>?_,λb o e n y a=>?_,λb o e n a=>?_,λb o e a=>?_,λb w e=>Qv b w (I.base.Qv b w e),λb o w e=>Qbe b o w (I.base.Qbe b o w e),λb E e=>?_},?_,λx c e=>?_,?_,λx c e=>?_,λp J=>?_,K,I.len}
 .exact keep b o (C b o e) y (t b o e a) (I.base.keep b o e n y a) (I.base.free b o e n a)
 .obtain⟨G,j⟩:=I.base.slot b o e n y a;have(l,B):=slot b _ (C b o e) y (t b o e a) j (I.base.free b o e n a);exact⟨l,B⟩
 .obtain⟨D,j⟩:=I.base.there b o e a;exact free b D (t b o e a) j (I.base.free b o e n a)
 .obtain⟨D,j⟩:=I.base.there b o e a;exact there b D (t b o e a) j
 .obtain⟨l,j⟩:=I.base.Qde b E e;have(r,B):=Qde b _ j;exact{l++r,by rw[B,NZ]}
 .obtain⟨m,O,N⟩:=I.loc;refine{m,P m O,λi x v j B L=>?_};have(u,r,l):=N i x v j B L;exists u,r;rcases l with l|⟨k,c,e,z⟩
  .exact .inl l
  .exact .inr {k,c,e,f x c e _ z}
 .obtain⟨v,z⟩:=I.cell x c e;exact{v,f x c e v z}
 .obtain⟨m,⟨o,_,_,A,_⟩,_⟩:=I.loc;exact free _ o (λz=>(g _ z).2.1 Xb) A I.free
 .obtain⟨v,o,A,F⟩:=I.cell x c e;exact free c o (λz=>(g c z).2.2.1 x c e Xb) A (I.Iw x c e)
 .obtain⟨e,n,l,r,d⟩:=I.pin p J;have h:p.1∉ch:=λz=>(g p.1 z).2.2.2 p J rfl;exact{keep p.1 p.2 l r h e n,free p.1 p.2 h e n,l,r,d}
theorem zx.un(I:zx X zq σ H s)(u:Un X.fs [] H H' s.heap h')(h:Ox X.prog X.w H' h'):zx X zq σ H' {s with heap:=h',toks:=t'}:=by have(m,(o,p,l,g,r),_):=id I.loc;have(v,i):=u.any g I.free ⋯;exact I.step (g':=s.gens) (d':=s.drawn) (ch:=[]) (λ_ z=>nomatch z) (λb o _ f _ e n=>u.keep b o e n f ⋯) (λb o _ f _ e n=>u.slot b o e n f ⋯) (λb o _ e n=>u.free b o e n ⋯) (λb o _ e=>u.there b o e ⋯) u.Qv u.Qbe u.Qde (λq j=>by have(t,d,c,a,k):=j;rw[g]at a;cases a;exact{_,d,c,i,k}) h I.bare
theorem zx.call{g':Array GenState}{d':Drawn}{ch:List Ge}(I:zx X zq σ H s)(u:Un (frs X.stack) ch H H' s.heap h')(j:Ox X.prog X.w H' h')(k:Mx g')
  (d:∀b∈ch,(b∈X.ex\/X.s₀.heap.objs.size<=b)/\b≠X.env.locals/\(∀x c,X.env.cells.lookup x/c->c≠b)/\∀p∈X.pn++zq,p.1≠b):
  zx X zq σ H' {s with heap:=h',gens:=g',drawn:=d',toks:=t'}:=by
 have(m,(o,f,c,i,r),_):=id I.loc;have(t,h):=u.any i I.free λz=>(d _ z).2.1 rfl;exact I.step (ch:=ch) d (λb o h c a e n=>u.keep b o e n (λz=>(Td.mp (I.ox b z)).elim h c) a) (λb o _ _ a e n=>u.any e n a) (λb o a e n=>u.free b o e n a) (λb o a e=>u.there b o e a) u.Qv u.Qbe u.Qde (λq l=>by have(r,g,f,c,m):=l;rw[i]at c;cases c;exact{_,g,f,h,m}) j k
theorem zx.turned{a:Ge}(I:zx X zq σ H s)(k:∀b o,b≠a->s.heap.get? b/o->h'.get? b/o)(A:H a=Gp)(g:a≠X.env.locals)
  (j:a∈X.ex\/X.s₀.heap.objs.size<=a)(l:∀x c,X.env.cells.lookup x/c->c≠a)(t:∀p∈X.pn++zq,p.1≠a):zx X zq σ H {s with heap:=h',toks:=t'}:=by
 have f:∀b u,H b/u->b≠a:=λb u e z=>by rw[z,A]at e;cases e
 refine I.step (g':=s.gens) (d':=s.drawn) (ch:=[a]) (λb w=>?_) (λb o _ _ d e _=>k b o (λz=>d (by simp[z])) e) (λb o _ _ d e _=>{o.slots,k b o (λz=>d (by simp[z])) e}) (λ_ _ _ _ n=>n)
  (λb o d e=>{o,k b o (λz=>d (by simp[z])) e}) (λ_ _ e=>e) (λ_ _ _ e=>e) (λb h e=>{#[],by rw[e];simp}) (λm y=>?_) (λb u e=>?_) I.bare
 .have e:b=a:=by simpa using w
  subst e;exact⟨j,g,l,t⟩
 .obtain⟨o,i,h,v,r⟩:=y;exact{o,i,h,k _ o (GQ g) v,r}
 .refine(I.Yc b u e).jE (λc v d q=>k c v ?_ q) (λ_ q=>q) λ_ _ q=>q;rcases d with z|z
  .rw[z];exact f b u e
  .exact f c _ z
theorem zx.tok(I:zx X zq σ H s)(t:Nat):zx X zq σ H {s with toks:=t}:=I.un (h':=s.heap) (t':=t) Un.refl I.Yc
theorem zx.kept{t':Nat}(I:zx X zq σ H s)(k:∀b u,s.heap.get? b/u->h'.get? b/u):zx X zq σ H {s with heap:=h',toks:=t'}:=I.un (Un.kept k) (I.Yc.kept k)
theorem zx.laid{a:Ge}{o:HO}{t':Nat}(I:zx X zq σ H s)(k:∀b u,s.heap.get? b/u->h'.get? b/u)(c:s.heap.objs.size<=a)(d:Yr X.prog X.w (zj H a o) h' a o):
  zx X zq σ (zj H a o) {s with heap:=h',toks:=t'}:=I.un (Un.laid k c (I.Yc.fresh c)) (I.Yc.laid k c d)
theorem zx.write{x e:Ge}{o:HO}{g:Nat}(I:zx X zq σ H s)(f:lI (H x))(d:e=x\/H e/.own x)(k:∀b u,b≠e->s.heap.get? b/u->h'.get? b/u)(a:∃u,h'.get? e/u)
  (c:Yr X.prog X.w (zj H x o) h' x o):zx X zq σ (zj H x o) {s with heap:=h',toks:=g}:=I.un (Un.write f d k a) (I.Yc.write f d k a c)
theorem zx.Ar{a:List (Ge×Lc)}(I:zx X zq σ H s)(h:∀p∈a,s.heap.get? p.1/p.2/\H p.1=Gp/\p.1≠X.env.locals/\p.1∉X.fs/\∀v,p.2.data≠.cell v):zx X a σ H s:=
 {I.ok,I.os,I.bare,I.base,I.loc,I.cell,I.free,I.Iw,λp b=>(Gi.mp b).elim (λz=>I.pin p (Gv _ z)) (h p),I.Yc,I.len}
theorem KF(e:N.Nodup){j:Nat}(a:N[i]?/x)(b:N[j]?/x):i=j:=by have(f,c):=Gg.mp a;have(g,d):=Gg.mp b;exact(List.getElem_inj e).mp (c.trans d.symm)
theorem uj{V:Unit->Gw->Prop}(a:zx X zq σ H s)(Y:X.N.Nodup)(hi:X.N[i]?/x)(h:Loc X.env.scope x)(ae:zv v u)
  (W:∀R,zx X zq (σ.set i (Ga v)) H R->(∃r,Eb r s.heap R.heap/\(r=X.env.locals\/X.env.cells.lookup x/r))->V () R)(hf:X.fn x=Gk\/X.env.scope.names.lookup x/.local:=by infer_instance):wpAny M A (storeName X.env x u) V E s:=by
 have(ak,K,hl):=id a.loc;have ag:(X.env.scope.kind==.class||(X.env.scope.kind==.module&&X.env.locals !=X.env.globals))=Gx:=by rw[a.ok.kind];rfl
 have ac:i<⇑σ:=by rw[a.len];exact(Gg.mp hi).1
 have G:=a.cne;have af:∀{r:Ge}{B:Heap},(∃l,s.heap.get? r/l/\H r=Gp)->Eb r s.heap B->Ox X.prog X.w H B:=λ{r B}ha hs c ob b=>by
  have(_,_,ab):=ha;refine(a.Yc c ob b).jE (λe F g q=>(hs.2 e ?_).trans q) (λ_ q=>q) λ_ _ q=>q;rintro rfl;rcases g with rfl|g
  .rw[ab]at b;cases b
  .rw[ab]at g;cases g
 rcases h with t|t
 .refine wpAny_storeName_local t K (λB ah hs=>?_) ag;have(oL,_,_,ai,_):=id K;refine W _ {a.ok,a.os,a.bare,{λc l b n w h=>?_,λc l b n w h=>?_,a.base.free,λc l b h=>?_,a.base.Qv,a.base.Qbe,a.base.Qde},{_,ah,λj y U f o I=>?_},λy e b=>?_,a.free,a.Iw,λp L=>?_,af {oL,ai,a.free} hs,by simpa using a.len} {_,hs,.inl Xb}
  .exact(hs.2 c (T9 (TZ (Tn b) a.ok.above))).trans (a.base.keep c l b n w h)
  .obtain⟨S,f⟩:=a.base.slot c l b n w h;exact{S,(hs.2 c (T9 (TZ (Tn b) a.ok.above))).trans f}
  .obtain⟨P,f⟩:=a.base.there c l b h;exact{P,(hs.2 c (T9 (TZ (Tn b) a.ok.above))).trans f}
  .by_cases z:j=i
   .subst z;rw[hi]at f;cases f;rw[M8 ac]at o;cases o;exact{u,ae,.inl {t,by simp}}
   .rw[NC (GQ z)]at o;have(T,Q,q):=hl j y U f o I;exists T,Q;rcases q with⟨k,b⟩|⟨k,e,b,m⟩
    .refine .inl {k,?_};have:y≠x:=λb=>z (KF Y f (b▸hi));simp[this,b]
    .exact .inr {k,e,b,m.sameBut hs (G y e b)}
  .obtain⟨F,m⟩:=a.cell y e b;exact{F,m.sameBut hs (G y e b)}
  .obtain⟨b,n,D,O,d⟩:=a.pin p L;exact{(hs.2 p.1 D).trans b,n,D,O,d}
 .have J:X.fn x=Gk:=by
   rcases hf with m|m
   .exact m
   .rw[m]at t;cases t
  have(e,g):=a.ok.has x (.inl t);have(F,m):=a.cell x e g;refine wpAny_storeName_cell a.ok.kind t g m (λB Z hs=>?_);have(oc,ad,aj):=id m;refine W {s with heap:=B} {a.ok,a.os,a.bare,{λc l b n w h=>?_,λc l b n w h=>?_,a.base.free,λc l b h=>?_,a.base.Qv,a.base.Qbe,a.base.Qde},{ak,K.sameBut hs (GQ (G x e g)),λj y U f o I=>?_},λy C b=>?_,a.free,a.Iw,λp L=>?_,af {oc,ad,a.Iw x e g} hs,by simpa using a.len} {e,hs,.inr g}
  .exact(hs.2 c (T9 (TZ (Tn b) (a.ok.cab x e J g)))).trans (a.base.keep c l b n w h)
  .obtain⟨S,f⟩:=a.base.slot c l b n w h;exact{S,(hs.2 c (T9 (TZ (Tn b) (a.ok.cab x e J g)))).trans f}
  .obtain⟨P,f⟩:=a.base.there c l b h;exact{P,(hs.2 c (T9 (TZ (Tn b) (a.ok.cab x e J g)))).trans f}
  .by_cases z:j=i
   .subst z;rw[hi]at f;cases f;rw[M8 ac]at o;cases o;exact{u,ae,.inr {.inl t,e,g,Z}}
   .rw[NC (GQ z)]at o;have(T,Q,q):=hl j y U f o I;exists T,Q;rcases q with q|⟨k,C,b,z'⟩
    .exact .inl q
    .refine .inr {k,C,b,z'.sameBut hs ?_};rintro rfl;exact z (KF Y f (a.ok.inj _ _ _ b g▸hi))
  .by_cases aa:C=e
   .subst aa;exact{_,Z}
   .obtain⟨w2,z2⟩:=a.cell y C b;exact{w2,z2.sameBut hs aa}
  .obtain⟨b,n,D,O,d⟩:=a.pin p L;refine{(hs.2 p.1 ?_).trans b,n,D,O,d};intro q;rw[q,ad]at b;have q':oc=p.2:=T1 b;exact d F (by rw[<-q'];exact aj)
theorem yH{Q:Unit->Gw->Prop}(I:zx X zq σ H s)(c:X.N.Nodup)(hi:X.N[i]?/x)(e:Loc X.env.scope x)(r:zv v u)
  (h:∀a,zx X zq (σ.set i (Ga v)) H a->Q () a)(d:X.fn x=Gk\/X.env.scope.names.lookup x/.local:=by infer_instance):wpAny M A (storeName X.env x u) Q E s:=
 uj I c hi e r (λa b _=>h a b) d
theorem zx.UL{a:Gw}{ch:List Ge}(I:zx X zq σ H s)(h:a.os=s.os)(u:Un (frs X.stack) ch H H' s.heap a.heap)(f:Ox X.prog X.w H' a.heap)(g:Mx a.gens)
  (d:∀b∈ch,(b∈X.ex\/X.s₀.heap.objs.size<=b)/\b≠X.env.locals/\(∀x c,X.env.cells.lookup x/c->c≠b)/\∀p∈X.pn++zq,p.1≠b):zx X zq σ H' a:=by
 have(c,g',d',t',i):=a;have e:i=s.os:=h;subst e;exact I.call (g':=g') (t':=t') (d':=d') u f g d
end
abbrev XK:=Gh->Option Ge->Hp->Prop
abbrev St:=List (Option V)
variable{σ:St}
abbrev VK:=V->Hp->Prop
abbrev TE:=St->Hp->VK->Prop
variable{t te:TE}
abbrev TT:=St->Hp->(Bool->Hp->Prop)->Prop
abbrev TA:=St->Hp->(List V->Hp->Prop)->Prop
set_option genInjectivity false in
structure Ends where
 nx:St->Hp->Prop
 rt:VK
 bk:St->Hp->Prop:=λ_ _=>False
 ct:St->Hp->Prop:=λ_ _=>False
variable{D:Ends}
abbrev TS:=Ends->St->Hp->Prop
variable{tb:TS}
inductive EP(X:Cx)(zq:List (Ge×Lc))(σ:St)(Q:VK)(u:Gh)(s':Gw):Prop
 |mk (v:_) (H':_) (h0:zx X zq σ H' s') (h1:zv v u) (h2:Q v H'):EP X zq σ Q u s'
def TP(X:Cx)(zq:List (Ge×Lc))(σ:St)(Q:Bool->Hp->Prop)(b:Bool)(s':Gw):Prop:=∃H',zx X zq σ H' s'/\Q b H'
inductive AP(X:Cx)(zq:List (Ge×Lc))(σ:St)(Q:List V->Hp->Prop)(us:List Gh)(s':Gw):Prop
 |mk (vs:_) (H':_) (h0:zx X zq σ H' s') (h1:Yh vs us) (h2:Q vs H'):AP X zq σ Q us s'
def SP(X:Cx)(zq:List (Ge×Lc))(D:Ends)(f:Flow)(s':Gw):Prop:=
 match f with
 |.next=>∃a H',zx X zq a H' s'/\D.nx a H'
 |.brk=>∃a H',zx X zq a H' s'/\D.bk a H'
 |.cont=>∃a H',zx X zq a H' s'/\D.ct a H'
 |.ret u=>∃v a H',zx X zq a H' s'/\zv v u/\D.rt v H'
def PE(X:Cx)(e:Ea)(t:TE):Prop:=
 ∀(zq:List (Ge×Lc))(s:Gw)(σ:St)(H:Hp)(Q:VK),zx X zq σ H s->t σ H Q->wpAny (TV X.prog X.w) X.A (eval e X.env) (EP X zq σ Q) X.xe s
def PT(X:Cx)(e:Ea)(t:TT):Prop:=
 ∀(zq:List (Ge×Lc))(s:Gw)(σ:St)(H:Hp)(Q:Bool->Hp->Prop),zx X zq σ H s->t σ H Q->wpAny (TV X.prog X.w) X.A (isTrue e X.env (eval e X.env)) (TP X zq σ Q) X.xe s
def PW(X:Cx)(e:Ea)(t:TT):Prop:=
 ∀(a:Ae Gh)(zq:List (Ge×Lc))(s:Gw)(σ:St)(H:Hp)(Q:Bool->Hp->Prop),zx X zq σ H s->t σ H Q->wpAny (TV X.prog X.w) X.A (isTrue e X.env a) (TP X zq σ Q) X.xe s
theorem PW.pt{t:TT}(h:PW X e t):PT X e t:=h _
def PA(X:Cx)(es:List Ea)(t:TA):Prop:=
 ∀(pos:MQ)(zq:List (Ge×Lc))(s:Gw)(σ:St)(H:Hp)(Q:List V->Hp->Prop),zx X zq σ H s->t σ H Q->wpAny (TV X.prog X.w) X.A (spliced (Se pos (T8 es X.env))) (AP X zq σ Q) X.xe s
def PS(X:Cx)(st:DX)(t:TS):Prop:=
 ∀(zq:List (Ge×Lc))(s:Gw)(σ:St)(H:Hp)(D:Ends),zx X zq σ H s->t D σ H->wpAny (TV X.prog X.w) X.A (exec st X.env) (SP X zq D) X.xe s
def Wf(X:Cx)(st:List DX)(t:TS):Prop:=
 ∀(zq:List (Ge×Lc))(s:Gw)(σ:St)(H:Hp)(D:Ends),zx X zq σ H s->t D σ H->wpAny (TV X.prog X.w) X.A (execs st X.env) (SP X zq D) X.xe s
theorem Xf{t:Ae α}{Q b:α->Gw->Prop}(h:wpAny M A t Q E s)(c:∀a s,Q a s->b a s):wpAny M A t b E s:=E1 h c λ_ _ x=>x
section
variable{X:Cx}
theorem bin{a b:Ea}{g i:TE}(l:PE X a g)(m:PE X b i){R:V->V->Hp->Prop}(I:zx X zq σ H s)(h:g σ H λx H1=>i σ H1 λy H2=>R x y H2)
  {Q:α->Gw->Prop}{f:Gh->Gh->Ae α}
  (n:∀v u e x y H2,zx X zq σ H2 e->zv x v->zv y u->R x y H2->wpAny (TV X.prog X.w) X.A (f v u) Q X.xe e):
  wpAny (TV X.prog X.w) X.A (eval a X.env) (λv c=>wpAny (TV X.prog X.w) X.A (eval b X.env) (λu d=>wpAny (TV X.prog X.w) X.A (f v u) Q X.xe d) X.xe c) X.xe s:=by
 refine Xf (l zq s σ H _ I h) λv t⟨x,H1,j,q,o⟩=>?_;refine Xf (m zq t σ H1 _ j o) λu e⟨y,H2,k,r,p⟩=>?_;exact n v u e x y H2 k q r p
inductive Km(i:Nat)(σ:St)(H:Hp)(Q:VK):Prop
 |mk (v:_) (h0:σ[i]?/Ga v) (h1:Q v H):Km i σ H Q
def Vi(i:Nat):TE:=λσ H Q=>Km i σ H Q
def tC(v:V):TE:=λ_ H Q=>Q v H
theorem Pa(n:X.N[i]?/x)(t:su X.env.scope x)(j:(x==("__debug__":TQ))=Gx:=by decide)(g:(x==("__classdict__":TQ))=Gx:=by decide):PE X (.Name x pos) (Vi i):=by
 intro f s w H Q I h;have(v,e,h):=h;have(m,q,o):=I.loc;have(u,r,l):=o i x v n e t;have b:EP X f w Q u s:=⟨v,H,I,r,h⟩;rcases l with⟨d,p⟩|⟨d,c,k,a⟩
 .exact BL (wpAny_loadName_local I.ok.kind d q p b) j
 .rcases d with d|d
  .exact BL (wpAny_loadName_cell I.ok.kind d k a b) j
  .exact BL (wpAny_loadName_free I.ok.kind d k a b g) j
theorem Qj{i j pos}:PE X (.Constant (.int i) j pos) (tC (.int i)):=λ_ _ _ H _ I h=>wpAny_Constant_int {.int i,H,I.tok _,{40},h}
theorem Z7{b j pos}:PE X (.Constant (.bool b) j pos) (tC (.bl b)):=λ_ _ _ H _ I h=>Constant_bool {.bl b,H,I,1,h}
theorem Jk{j pos}:PE X (.Constant .none j pos) (tC .non):=λ_ _ _ H _ I h=>NT {.non,H,I,1,h}
theorem Zo{x j pos}:PE X (.Constant (.str x) j pos) (tC (.str x)):=λ_ _ _ H _ I h=>Calls.Constant_str {.str x,H,I.tok _,{40},h}
def Gl(X:Cx)(x:TQ):Prop:=X.env.kindOf x=Ga .globalImplicit
theorem pb(I:zx X zq σ H s)(b:Gl X x)(c:X.mg x/u)(h:Q u s)
  (a:(x==("__debug__":TQ))=Gx:=by decide):wpAny (TV X.prog X.w) X.A (eval (.Name x pos) X.env) Q E s:=
 Ma I.ok.kind b (Calls.loadGlobal_global (by rw[I.ok.glob];exact I.mod.glob.keeps I.bk) c h) a
theorem Uk(I:zx X zq σ H s)(d:Gl X x)(e:X.mg x=Gp)(g:bootBuiltins x/u)(h:Q u s)
  (f:x≠"__name__":=by decide)(c:(x==("__debug__":TQ))=Gx:=by decide):wpAny (TV X.prog X.w) X.A (eval (.Name x pos) X.env) Q E s:=by
 have(i,a,b):=I.mod.blt;exact Ma I.ok.kind d (Calls.loadGlobal_builtin (by rw[I.ok.glob];exact I.mod.glob.keeps I.bk) e (by rw[I.ok.blt];exact a.keeps I.bk) ((b x f).trans g) h) c
theorem mj(b:Gl X x)(c:X.mg x/u)(r:zv v u)(a:(x==("__debug__":TQ))=Gx:=by decide):PE X (.Name x pos) (tC v):=
 λ_ _ _ H _ I h=>pb I b c ⟨v,H,I,r,h⟩ a
theorem Ya(b:Gl X x)(c:X.mg x=Gp)(e:bootBuiltins x/u)(r:zv v u)(d:x≠"__name__":=by decide)(a:(x==("__debug__":TQ))=Gx:=by decide):PE X (.Name x pos) (tC v):=
 λ_ _ _ H _ I h=>Uk I b c e ⟨v,H,I,r,h⟩ d a
variable{a b:Ea}{ta tb:TE}{pos:MQ}
def PC(X:Cx)(e:CmpOp)(a b:Ea)(t:TE):Prop:=
 ∀(zq:List (Ge×Lc))(s:Gw)(σ:St)(H:Hp)(Q:VK),zx X zq σ H s->t σ H Q->
  wpAny (TV X.prog X.w) X.A (eval a X.env) (λv c=>wpAny (TV X.prog X.w) X.A (eval b X.env) (λu d=>wpAny (TV X.prog X.w) X.A (Ep e v u) (EP X zq σ Q) X.xe d) X.xe c) X.xe s
theorem vT(b:Ea)(h:op≠.In)(d:op≠.NotIn):behindInMarks op b=Gx:=by
 have a:(op==CmpOp.In)=Gx:=by cases op<;>first|rfl|exact absurd rfl h
 have c:(op==CmpOp.NotIn)=Gx:=by cases op<;>first|rfl|exact absurd rfl d
 cases b<;>first|rfl|(show(_&&(op==.In||op==.NotIn)&&_)=Gx;rw[a,c,Bool.or_self,BM];rfl)
def Zag(ta:TE):TE:=λσ H Q=>ta σ H λx H1=>Q (.bl (decide (x=.non))) H1
def ZU(ta:TE):TE:=λσ H Q=>ta σ H λx H1=>Q (.bl (!decide (x=.non))) H1
theorem zv.uM{x:V}{v:Gh}(r:zv x v):(v==DJ)=decide (x=.non):=by
 cases x with
 |non=>cases r;rfl
 |bl _=>cases r;rfl
 |int _=>have(t,rfl):=r;rfl
 |str _=>have(t,rfl):=r;rfl
 |byt _=>have(t,rfl):=r;rfl
 |flt _=>have(t,rfl):=r;rfl
 |ref _=>cases r;rfl
 |ty _=>cases r;rfl
theorem Q36{j pos'}(e:PE X a ta):PC X .Is a (.Constant .none j pos') (Zag ta):=by intro b s i H Q I h;refine Xf (e b s i H _ I h) λv k⟨x,c,d,g,f⟩=>?_;exact NT (Hz {.bl _,c,d,by rw[g.uM];rfl,f})
theorem yF{j pos'}(e:PE X a ta):PC X .IsNot a (.Constant .none j pos') (ZU ta):=by intro b s i H Q I h;refine Xf (e b s i H _ I h) λv k⟨x,c,d,g,f⟩=>?_;exact NT (BN {.bl _,c,d,by rw[g.uM];rfl,f})
inductive iTB(Q:Bool->Hp->Prop)(x:V)(H1:Hp):Prop
 |mk (c:_) (h0:x=.bl c) (h1:Q c H1):iTB Q x H1
def tB(t:TE):TT:=λσ H Q=>t σ H λx H1=>iTB Q x H1
theorem Ow(h:PC X op a b t)(f:behindInMarks op b=Gx:=by rfl):PT X (.Compare a [op] [b] pos) (tB t):=by intro e s m H Q I hw;refine Nr (Xf (h e s m H _ I hw) λv n f=>Xf f λu o j=>Xf j λc p⟨x,g,i,l,k⟩=>?_) f;have(d,rfl,q):=k;cases l;exact ET ⟨g,i,q⟩
theorem Z2(h:PE X e t)(f:∀a,isTrue e X.env a=(do let v<-a;standAt e.pos;holding [v] (truthy v)):=by intro _;rfl):PT X e (tB t):=by intro a s j H Q I hw;refine Hc (Xf (h a s j H _ I hw) λv k⟨x,b,c,i,g⟩=>?_) (f _);have(d,rfl,q):=g;cases i;exact ET ⟨b,c,q⟩
variable{tA tB':TT}{Wa:List Ea}
def Q9q(t u:TT):TT:=λσ H Q=>t σ H λc H1=>if c=Gk then u σ H1 Q else Q Gx H1
def tOr(t u:TT):TT:=λσ H Q=>t σ H λc H1=>if c=Gk then Q Gk H1 else u σ H1 Q
def Q9b(t:TT):TT:=λσ H Q=>t σ H λc H1=>Q (!c) H1
theorem Ua(d:PT X a tA):PW X (.BoolOp .And [a] pos) tA:=by
 intro i b s f H Q I h;refine HX (Xf (d b s f H Q I h) λc g e=>?_);cases c with
 |true=>exact isTrue_and_nil e
 |false=>exact e
theorem Xj(d:PT X a tA):PW X (.BoolOp .Or [a] pos) tA:=by
 intro i b s f H Q I h;refine isTrue_or (Xf (d b s f H Q I h) λc g e=>?_);cases c with
 |false=>exact isTrue_or_nil e
 |true=>exact e
theorem U6(j:PT X a tA)(k:PW X (.BoolOp .And (b::Wa) pos) tB'):PW X (.BoolOp .And (a::b::Wa) pos) (Q9q tA tB'):=by
 intro m d s i H Q I h;refine HX (Xf (j d s i H _ I h) λc l⟨e,f,g⟩=>?_);cases c with
 |true=>exact k m d l i e Q f g
 |false=>exact⟨e,f,g⟩
theorem Yy(j:PT X a tA)(k:PW X (.BoolOp .Or (b::Wa) pos) tB'):PW X (.BoolOp .Or (a::b::Wa) pos) (tOr tA tB'):=by
 intro m d s i H Q I h;refine isTrue_or (Xf (j d s i H _ I h) λc l⟨e,f,g⟩=>?_);cases c with
 |true=>exact⟨e,f,g⟩
 |false=>exact k m d l i e Q f g
theorem Yi(e:PT X a tA):PT X (.UnaryOp .Not a pos) (Q9b tA):=by intro b s f H Q I h;exact isTrue_not (e b s f H (λc d=>Q (!c) d) I h)
inductive Kn(tb:TE)(σ:St)(Q:VK)(x:V)(H1:Hp):Prop
 |mk (c:_) (h0:x=.bl c) (h1:if c=Gk then tb σ H1 Q else Q (.bl Gx) H1):Kn tb σ Q x H1
def Q76(ta tb:TE):TE:=λσ H Q=>ta σ H λx H1=>Kn tb σ Q x H1
inductive tq(Q:VK)(x:V)(H1:Hp):Prop
 |mk (c:_) (h0:x=.bl c) (h1:Q (.bl (!c)) H1):tq Q x H1
def OK(ta:TE):TE:=λσ H Q=>ta σ H λx H1=>tq Q x H1
theorem nU{c}(h:PE X a t):PE X (.BoolOp c [a] pos) t:=λb s d H Q I hw=>BoolOp_one (h b s d H Q I hw)
theorem qw(j:PE X a ta)(k:PE X (.BoolOp .And (b::Wa) pos) tb):PE X (.BoolOp .And (a::b::Wa) pos) (Q76 ta tb):=by
 intro d s i H Q I h;refine BoolOp_and (Xf (j d s i H _ I h) λv m⟨x,f,g,l,e⟩=>?_);have(c,rfl,e):=e;cases l;refine ET ?_;cases c with
 |true=>exact k d m i f Q g e
 |false=>exact{.bl Gx,f,g,1,e}
theorem Q38(g:PE X a ta):PE X (.UnaryOp .Not a pos) (OK ta):=by intro b s j H Q I h;refine UnaryOp_ (Xf (g b s j H _ I h) λv k⟨x,e,f,i,d⟩=>?_);have(c,rfl,d):=d;cases i;exact not_of (ET {.bl (!c),e,f,1,d})
def tIf(t:TT)(ta tb:TE):TE:=λσ H Q=>t σ H λc H1=>if c=Gk then ta σ H1 Q else tb σ H1 Q
theorem Qwm(n:PT X c tA)(l:PE X a ta)(m:PE X b tb):PE X (.IfExp c a b pos) (tIf tA ta tb):=by
 intro e s f H Q I h;refine wpAny_IfExp (Xf (n e s f H _ I h) λd k⟨g,i,j⟩=>?_);cases d with
 |true=>exact l e k f g Q i j
 |false=>exact m e k f g Q i j
end
def Vh(K:Gd)(H:Hp)(a:Ge)(xs:List V):Prop:=
 Rd H a (.lst xs)\/
  ∃(o:Lc)(b:Array Gh)(n:Nat),K.lookup a/o/\o.cls=.type "list"/\o.dict=Gp/\o.data=.seq b n/\b.size<=TF/\Yh xs b.toList
def hB(K:Gd)(H:Hp)(a:Ge)(xs:List V):Prop:=
 Rd H a (.tup xs)\/
  ∃(o:Lc)(b:Array Gh)(n:Nat),K.lookup a/o/\o.cls=.type "tuple"/\o.data=.seq b n/\b.size<=TF/\Yh xs b.toList
noncomputable def Zah:Gh->Option V
 |.none=>Ga .non
 |.bool b=>Ga (.bl b)
 |.int i _=>Ga (.int i)
 |.str x _=>Ga (.str x)
 |.bytes b _=>Ga (.byt b)
 |.float b _=>Ga (.flt b)
 |.ref a=>Ga ↑a
 |.type n=>Ga (.ty n)
 |_=>Gp
theorem zv.abs{x:V}(r:zv x u):Zah u/x:=by
 cases x with
 |non=>cases r;rfl
 |bl _=>cases r;rfl
 |int _=>have(t,rfl):=r;rfl
 |str _=>have(t,rfl):=r;rfl
 |byt _=>have(t,rfl):=r;rfl
 |flt _=>have(t,rfl):=r;rfl
 |ref _=>cases r;rfl
 |ty _=>cases r;rfl
theorem zv.inj{x y:V}{u:Gh}(r:zv x u)(q:zv y u):x=y:=T1 (r.abs.symm.trans q.abs)
theorem Yh.inj{c a:List V}{b:List Gh}(h:Yh c b)(k:Yh a b):c=a:=by
 induction h generalizing a with
 |nil=>cases k;rfl
 |cons r _ d=>cases k with|cons e f=>rw[r.inj e,d f]
section
variable{X:Cx}{zq:List (Ge×Lc)}{σ:St}{H:Hp}{s:Gw}{a:Ge}{xs ys:List V}
theorem Qi{K:Gd}(h:H a/.lst xs):Vh K H a xs:=.inl (.inl h)
theorem Qk{K:Gd}(h:H a/.tup xs):hB K H a xs:=.inl (.inl h)
theorem zx.list(I:zx X zq σ H s)(h:Vh X.K H a xs):∃b:List Gh,Yh xs b/\PlainL s.heap a b.toArray/\⇑xs<=TF:=by
 rcases h with h|⟨o,b,n,f,c,d,hs,g,r⟩
 .obtain⟨z,b,n,r,e⟩:=h.ok I.Yc;exact{b,r,{_,n,e,111},z}
 .exists b.toList,r,{o,n,I.kIn a o f,c,d,by simpa using hs};have e:=⇑r;simp only[DI]at e;ext
theorem zx.tuple(I:zx X zq σ H s)(h:hB X.K H a xs):∃b:List Gh,Yh xs b/\IsTup s.heap a b.toArray/\⇑xs<=TF:=by
 rcases h with h|⟨o,b,n,d,c,hs,f,r⟩
 .obtain⟨z,b,r,p⟩:=h.ok I.Yc;exact⟨b,r,p,z⟩
 .exists b.toList,r,{o,I.kIn a o d,c,n,by simpa using hs};have e:=⇑r;simp only[DI]at e;ext
theorem zx.Jv(I:zx X zq σ H s)(h:Vh X.K H a xs)(j:Vh X.K H a ys):xs=ys:=by
 have(c,r,(o,n,e,_,_,d),_):=I.list h;have(b,k,(m,l,g,_,_,f),_):=I.list j;rw[e]at g;cases g;rw[d]at f;injection f with i _;have:c=b:=by simpa using congrArg Hd i
 subst this;exact r.inj k
theorem zx.XX(I:zx X zq σ H s)(h:hB X.K H a xs)(j:hB X.K H a ys):xs=ys:=by
 have(c,r,(o,e,_,n,d),_):=I.tuple h;have(b,k,(m,g,_,l,f),_):=I.tuple j;rw[e]at g;cases g;rw[d]at f;injection f with i _;have:c=b:=by simpa using congrArg Hd i
 subst this;exact r.inj k
end
noncomputable abbrev Cx.iL(X:Cx)(E:Gh->Gw->Prop):Cx:={X with xe:=E}
noncomputable abbrev Cx.nox(X:Cx):Cx:=X.iL λ_ _=>False
theorem Cx.Ok.iL{X:Cx}(ok:X.Ok)(E:Gh->Gw->Prop):(X.iL E).Ok:=
 {ok.mod,ok.kind,ok.glob,ok.blt,ok.above,ok.inj,ok.has,ok.cab,ok.hd,ok.frames,ok.stk,ok.exf,ok.bs,ok.bsz,ok.Qu9,ok.Q00,ok.iF,ok.frf}
theorem Cx.Ok.Rm(ok:(X.iL E).Ok):X.Ok:=
 {ok.mod,ok.kind,ok.glob,ok.blt,ok.above,ok.inj,ok.has,ok.cab,ok.hd,ok.frames,ok.stk,ok.exf,ok.bs,ok.bsz,ok.Qu9,ok.Q00,ok.iF,ok.frf}
section
variable{X:Cx}{zq:List (Ge×Lc)}{σ:St}{H:Hp}{s:Gw}{E:Gh->Gw->Prop}
theorem zx.iL(I:zx X zq σ H s)(E:Gh->Gw->Prop):zx (X.iL E) zq σ H s:={I.ok.iL E,I.os,I.bare,I.base,I.loc,I.cell,I.free,I.Iw,I.pin,I.Yc,I.len}
theorem zx.Rm(I:zx (X.iL E) zq σ H s):zx X zq σ H s:={I.ok.Rm,I.os,I.bare,I.base,I.loc,I.cell,I.free,I.Iw,I.pin,I.Yc,I.len}
theorem SP.Rm{D:Ends}{f:Flow}{c:Gw}(h:SP (X.iL E) zq D f c):SP X zq D f c:=by
 cases f with
 |next=>have(a,b,I,q):=h;exact⟨a,b,I.Rm,q⟩
 |brk=>have(a,b,I,q):=h;exact{a,b,I.Rm,q}
 |cont=>have(a,b,I,q):=h;exact{a,b,I.Rm,q}
 |ret u=>have(v,a,b,I,r,q):=h;exact{v,a,b,I.Rm,r,q}
theorem Wf.nox{b:List DX}{t:TS}(h:Wf X.nox b t):Wf X b t:=λa s c H D I hw=>E1 (h a s c H D (I.iL _) hw) (λ_ _ q=>q.Rm) λ_ _ z=>False.elim z
end
section
variable{X:Cx}{st:DX}{Wa:List DX}{t u:TS}{e:Ea}{te:TE}{pos:MQ}
def PK:TS:=λD σ H=>D.nx σ H
def Zaf(t u:TS):TS:=λD σ H=>t {D with nx:=u D} σ H
theorem Qw:Wf X [] PK:=λ_ _ a H _ I h=>FL ⟨a,H,I,h⟩
theorem Qc(e:PS X st t)(g:Wf X Wa u):Wf X (st::Wa) (Zaf t u):=by
 intro a s j H D I h;refine Bi (Xf (e a s j H {D with nx:=u D} I h) λf i q=>?_);cases f with
 |next=>have(b,c,d,q):=q;exact g a i b c D d q
 |ret v=>exact q
 |brk=>exact q
 |cont=>exact q
theorem Qg(b:PS X st t):Wf X [st] t:=by
 intro a s c H D I h;refine Bi (Xf (b a s c H D I h) λf d q=>?_);cases f with
 |next=>exact FL q
 |ret v=>exact q
 |brk=>exact q
 |cont=>exact q
def WC:TS:=λD σ H=>D.ct σ H
theorem Qlb:PS X (.Continue pos) WC:=λ_ _ a H _ I h=>wpAny_Continue ⟨a,H,I,h⟩
theorem zx.quiet(I:zx X zq σ H s):interactive X.env=Gx:=by simp[interactive,I.ok.kind]
def YZ(te:TE):TS:=λD σ H=>te σ H λ_ H1=>D.nx σ H1
theorem Zl(f:PE X e te)(hs:swapsWith e Gp pos.line X.env=pure Gx:=by rfl):PS X (.Expr e pos) (YZ te):=by intro a s b H D I h;exact wpAny_Expr_any (Xf (f a s b H _ I h) λv j⟨x,c,d,i,g⟩=>⟨b,c,d,g⟩) I.quiet hs
def Q9k(te:TE):TS:=λD σ H=>te σ H D.rt
theorem Qu(f:PE X e te):PS X (.Return (Ga e) pos) (Q9k te):=by intro a s b H D I h;exact wpAny_Return_some (Xf (f a s b H _ I h) λv j⟨x,c,d,i,g⟩=>⟨x,b,c,d,i,g⟩)
def Q8h:TS:=λD _ H=>D.rt .non H
theorem QV:PS X (.Return Gp pos) Q8h:=λ_ _ a H _ I h=>wpAny_Return_none {.non,a,H,I,1,h}
def Q9u(c:TT)(t u:TS):TS:=λD σ H=>c σ H λb H1=>if b=Gk then t D σ H1 else u D σ H1
theorem Zc{a b:List DX}{l:TT}(o:PT X c l)(m:Wf X a t)(n:Wf X b u):PS X (.If c a b pos) (Q9u l t u):=by
 intro e s f H D I h;refine wpAny_If (Xf (o e s f H _ I h) λd k⟨g,i,j⟩=>?_);cases d with
 |true=>exact m e k f g D i j
 |false=>exact n e k f g D i j
end
abbrev TG:=V->St->Hp->(St->Hp->Prop)->Prop
variable{g:TG}
abbrev jj:=List V->St->Hp->(St->Hp->Prop)->Prop
def PG(X:Cx)(a:Ea)(t:TG):Prop:=
 ∀(zq:List (Ge×Lc))(s:Gw)(σ:St)(H:Hp)(v:V)(u:Gh)(Q:St->Hp->Prop),zx X zq σ H s->zv v u->t v σ H Q->
  wpAny (TV X.prog X.w) X.A (assign a X.env u) (λ_ s'=>∃b H',zx X zq b H' s'/\Q b H') X.xe s
def nX(X:Cx)(ts:List Ea)(t:jj):Prop:=
 ∀(zq:List (Ge×Lc))(s:Gw)(σ:St)(H:Hp)(c:List V)(b:List Gh)(Q:St->Hp->Prop),zx X zq σ H s->Yh c b->t c σ H Q->
  wpAny (TV X.prog X.w) X.A (assignInOrder ((assignEach ts X.env).map (·.2)) b) (λ_ s'=>∃a H',zx X zq a H' s'/\Q a H') X.xe s
abbrev pe:=V->V->V->Hp->(Hp->Prop)->Prop
def xf(X:Cx)(t:pe):Prop:=
 ∀(zq:List (Ge×Lc))(s:Gw)(σ:St)(H:Hp)(o i v:V)(ov a u:Gh)(Q:Hp->Prop),zx X zq σ H s->zv o ov->zv i a->zv v u->t o i v H Q->
  wpAny (TV X.prog X.w) X.A (setItem ov a u) (λ_ s'=>∃H',zx X zq σ H' s'/\Q H') X.xe s
section
variable{X:Cx}{pos:MQ}
def Wt(i:Nat):TG:=λv σ H Q=>Q (σ.set i (Ga v)) H
theorem Z5(c:X.N.Nodup)(hi:X.N[i]?/x)(e:Loc X.env.scope x)(d:X.fn x=Gk\/X.env.scope.names.lookup x/.local:=by infer_instance):PG X (.Name x pos) (Wt i):=by intro a s g H v u Q I r h;exact RM (yH I c hi e r (λf b=>{_,H,b,h}) d)
theorem Zv(i:Nat)(a:X.N.Nodup)(hi:X.N[i]?/x:=by rfl)(c:Loc X.env.scope x:=by exact DG Xb)(b:X.fn x=Gk\/X.env.scope.names.lookup x/.local:=by infer_instance):PG X (.Name x pos) (Wt i):=Z5 a hi c b
def lO:jj:=λa σ H Q=>a=[]/\Q σ H
inductive Az(t:TG)(u:jj)(vs:List V)(σ:St)(H:Hp)(Q:St->Hp->Prop):Prop
 |mk (v:_) (r:_) (h0:vs=v::r) (h1:t v σ H λσ' H'=>u r σ' H' Q):Az t u vs σ H Q
def R5(t:TG)(u:jj):jj:=λa σ H Q=>Az t u a σ H Q
theorem Xt:nX X [] lO:=by intro a s b H d c Q I r h;have(e,h):=h;subst e;cases r;exact assignInOrder_nil ⟨b,H,I,h⟩
theorem Zb{b:List Ea}{t:TG}{u:jj}(i:PG X e t)(j:nX X b u)
  (hs:(assignEach (e::b) X.env).map (·.2)=assign e X.env::(assignEach b X.env).map (·.2):=by rfl):nX X (e::b) (R5 t u):=by
 intro a s n H d c Q I r h;have(v,o,g,h):=h;subst g;cases r with
 |cons r l=>rw[hs];refine assignInOrder_cons (Xf (i a s n H _ _ _ I r h) λ_ m⟨c,d,f,k⟩=>?_);exact j a m c d _ _ Q f l k
inductive tP(K:Gd)(n:Nat)(t:jj)(v:V)(σ:St)(H:Hp)(Q:St->Hp->Prop):Prop
 |mk (a:_) (xs:_) (h0:v=↑a) (h1:hB K H a xs) (h2:⇑xs=n) (h3:t xs σ H Q):tP K n t v σ H Q
def mz(K:Gd)(n:Nat)(t:jj):TG:=λv σ H Q=>tP K n t v σ H Q
theorem Wi{d:List Ea}{t:jj}(p:X.calm=Gk)(h:nX X d t)
  (w:⇑(assignEach d X.env)=n:=by rfl)(f:(assignEach d X.env).findIdx? (·.1)=Gp:=by rfl):PG X (.Tuple d k pos) (mz X.K n t):=by
 intro c s i H v u Q I r hw;have(a,A,l,x,q,hw):=hw;subst l;cases r;have(z,g,ht,B):=I.tuple x;refine assign_Tuple_tuple (I.ok.hd p) ht (by simp[w,<-q,⇑g]) f λm y=>?_;have j:zx X c i H {s with heap:=m}:=I.kept (t':=s.toks) λb o e=>y b o (T9 (Tn e)) e;exact h c _ i H A _ Q j (by simpa using g) hw
def Q96(to b:TE)(t:pe):TG:=λv σ H Q=>to σ H λo H1=>b σ H1 λi H2=>t o i v H2 λa=>Q σ a
theorem Oy{o i:Ea}{e d:TE}{t:pe}(p:PE X o e)(hi:PE X i d)(hs:xf X t)
  (n:∀v,assign (.Subscript o i pos) X.env v=(do
   let ov<-holding [v] (eval o X.env)
   let b<-holding [v,ov] (eval i X.env)
   standAt pos
   holding [v,ov,b] (setItem ov b v)
   release [v,ov,b] []):=by intro _;rfl):PG X (.Subscript o i pos) (Q96 e d t):=by
 intro a s c H v u Q I r h;rw[n];refine Gb (Ej (Xf (p a s c H _ I h) λov C⟨x,f,k,A,q⟩=>?_));refine Gb (Ej (Xf (hi a C c f _ k q) λb D⟨y,g,l,B,w⟩=>?_));refine Gb (NU (Gb (Ej (Xf (hs a D c g x y v ov b u _ l A B r w) λ_ E⟨j,m,z⟩=>?_))));exact wpAny_release ⟨c,j,m,z⟩
def oC(te:TE)(g:TG):TS:=λD σ H=>te σ H λx H1=>g x σ H1 D.nx
theorem Il(i:PE X e te)(j:PG X tg g)(hs:swapsWithSole [tg] e pos.line X.env=pure Gx:=by rfl)(hw:swappedStores [tg] e X.env=pure Gp:=by rfl)
  (f:(assignEach [tg] X.env).map (·.2)=[assign tg X.env]:=by rfl):PS X (.Assign [tg] e pos) (oC te g):=by
 intro a s b H D I h;refine wpAny_Assign_stores (Xf (i a s b H _ I h) λv m⟨x,c,d,l,k⟩=>?_) hs hw;rw[f];exact Xf (j a m b c x v _ d l k) λ_ n q=>q
theorem W8{a:MQ}(g:X.N.Nodup)(hi:X.N[i]?/x)(l:Loc X.env.scope x)(j:PE X e te)(hs:swapsWith e (Ga (.Name x a)) pos.line X.env=pure Gx:=by rfl)(k:X.fn x=Gk\/X.env.scope.names.lookup x/.local:=by infer_instance):
  PS X (.Assign [.Name x a] e pos) (oC te (Wt i)):=by
 intro b s o H D I h;refine wpAny_Assign_Name (Xf (j b s o H _ I h) λv p⟨y,c,d,n,m⟩=>?_) hs;exact yH d g hi l n (λr f=>{_,c,f,m}) k
theorem Q3(i:Nat){a:MQ}(b:X.N.Nodup)(c:PE X e te)(hi:X.N[i]?/x:=by rfl)(f:Loc X.env.scope x:=by exact DG Xb)(hs:swapsWith e (Ga (.Name x a)) pos.line X.env=pure Gx:=by rfl)(d:X.fn x=Gk\/X.env.scope.names.lookup x/.local:=by infer_instance):PS X (.Assign [.Name x a] e pos) (oC te (Wt i)):=W8 b hi f c hs d
def xt(c:TT)(tb:TS):TS:=λD σ H=>∃W:Nat->St->Hp->Prop,(∃m,W m σ H)/\∀m σ H,W m σ H->
 c σ H λb H1=>if b=Gk then∃N:St->Hp->Prop,(∀a H',N a H'->∃d,d<m/\W d a H')/\tb {D with nx:=N,ct:=N,bk:=D.nx} σ H1 else D.nx σ H1
theorem Ww{y:TT}(x:PassesOwn (TV X.prog X.w) X.A X.env X.xe)(B:PT X c y)(A:Wf X body tb):PS X (.While c body [] pos) (xt y tb):=by
 intro a s L H D I h;have(W,(C,J),turn):=h;refine wpAny_While (codeAny_whileLoop (λn E=>∃i q,zx X a i q E/\W n i q) ?_ C ⟨L,H,I,J⟩);rintro n F ⟨e,r,z,K⟩;refine SD x (Xf (B a F e r _ z (turn n e r K)) λb G⟨t,u,j⟩=>?_);cases b with
 |true=>
  have(N,w,j):=j;rw[GY rfl];refine SD x (Xf (A a G e t _ u j) λf M k=>?_);cases f with
  |next=>have(d,g,l,n3):=k;have(o,m,p):=w d g n3;exact⟨o,m,d,g,l,p⟩
  |cont=>have(d,g,l,n3):=k;have(o,m,p):=w d g n3;exact⟨o,m,d,g,l,p⟩
  |brk=>exact k
  |ret v=>exact k
 |false=>rw[Gu TH];exact FL ⟨e,t,u,j⟩
end
set_option genInjectivity false in
structure It where
 go:Nat->Hp->Prop
 yld:Nat->Hp->V->Hp->Prop
 stop:Nat->Hp->Prop
def iq(X:Cx)(zq:List (Ge×Lc))(H:Hp)(b:Ge):Prop:=
 H b=Gp/\b≠X.env.locals/\b∉X.fs/\(b∈X.ex\/X.s₀.heap.objs.size<=b)/\(∀x c,X.env.cells.lookup x/c->c≠b)/\∀p∈X.pn++zq,p.1≠b
theorem zx.jq{d:Hp}(I:zx X zq σ H s)(a:s.heap.objs.size<=b)(f:d b=Gp):iq X zq d b:=by
 refine{f,DC (TZ I.lt a),I.K5 a,.inr (Dj I.sz a),λx c e z=>?_,λp g z=>?_}
 .obtain⟨v,q⟩:=I.cell x c e;exact absurd (TZ q.lt (by rw[z];exact a)) (ER _)
 .exact absurd (TZ (Tn (I.pin p g).1) (by rw[z];exact a)) (ER _)
structure i0(P:Gn)(w:Ti)(K:Gd)(tg:Ea)(J:It)(fp:List Ge)(it:Ge)(tn:Nat->Heap->Prop):Prop where
 mem:it∈fp
 obj:∀i h,tn i h->∀b∈fp,∃o,h.get? b/o/\∀v,o.data≠.cell v
 keep:∀i h h',tn i h->(∀b∈fp,∀o,h.get? b/o->h'.get? b/o)->tn i h'
 item:∀(X:Cx),X.prog=P->X.w=w->X.K=K->X.calm=Gk->∀(i:Nat)(zq:List (Ge×Lc))(s:Gw)(σ:St)(H:Hp)(E:Gh->Gw->Prop),zx X zq σ H s->(∀b∈fp,iq X zq H b)->tn i s.heap->J.go i H->
  wpAny (TV P w) X.A (pyNext ↑it) (λr s1=>∃u,r/u/\
   wpAny (TV P w) X.A (letOwnedTupleGo tg ↑it u) (λ_ s2=>∃x H',zx X zq σ H' s2/\zv x u/\J.yld i H x H'/\tn (i+1) s2.heap/\∀b∈fp,H' b=Gp) E s1) E s
 done:∀(X:Cx),X.prog=P->X.w=w->X.K=K->X.calm=Gk->∀(i:Nat)(zq:List (Ge×Lc))(s:Gw)(σ:St)(H:Hp)(E:Gh->Gw->Prop),zx X zq σ H s->(∀b∈fp,iq X zq H b)->tn i s.heap->J.stop i H->
  wpAny (TV P w) X.A (pyNext ↑it) (λr s1=>r=Gp/\zx X zq σ H s1) E s
 self:∀(A:DW)(i:Nat)(s:Gw)(Q:Gh->Gw->Prop)(E:Gh->Gw->Prop),tn i s.heap->Q ↑it s->wpAny (TV P w) A (pyIter ↑it) Q E s
abbrev TI:=St->Hp->(It->Hp->Prop)->Prop
def uW(X:Cx)(zq:List (Ge×Lc))(σ:St)(tg:Ea)(R:It->Hp->Prop)(a:Gh)(d:Gw):Prop:=
 ∃(c:Ge)(fp:List Ge)(e:Nat->Heap->Prop)(J:It)(H':Hp),a=.ref c/\zx X zq σ H' d/\i0 X.prog X.w X.K tg J fp c e/\e 0 d.heap/\(∀b∈fp,iq X zq H' b)/\R J H'
def PI(X:Cx)(tg iter:Ea)(wi:TI):Prop:=
 ∀(zq:List (Ge×Lc))(s:Gw)(σ:St)(H:Hp)(R:It->Hp->Prop),zx X zq σ H s->wi σ H R->
  wpAny (TV X.prog X.w) X.A (eval iter X.env) (λv a=>wpAny (TV X.prog X.w) X.A (pyIter v) (uW X zq σ tg R) X.xe a) X.xe s
theorem ku      {b : Ge}   {n : String} {c : Array Gh} {Q : Unit -> Gw -> Prop} (g : s.heap.get? b = Ga o) (d : o.cls = .type n) (e : o.data = .fields c)
    (f : ["enumerate", "zip", "dict_itemiterator", "dict_reverseitemiterator", "odict_iterator", "itertools.zip_longest", "itertools.pairwise"].contains n = Gx) (a : Q () s) : wpAny M A (letOwnedTupleGo tg ↑b u) Q E s := by
  unfold letOwnedTupleGo
  cases tg <;> first
    | exact Gj a
    | (cases u <;> first
        | exact Gj a
        | (refine Gb (wpAny_load g ?_)
           rw [d, e]
           show wpAny M A (if (["enumerate", "zip", "dict_itemiterator", "dict_reverseitemiterator", "odict_iterator", "itertools.zip_longest", "itertools.pairwise"].contains n && c[0]? == Ga (rawInt _)) = Gk then _ else _) Q E s
           rw [Gu (by intro h; rw [f, Bool.false_and] at h; cases h)]
           exact Gj a))
def iS(K:Gd)(a:Ge):It:=
 {λi H=>∃xs x,Vh K H a xs/\xs[i]?/x,λi H x H'=>H'=H/\∀xs,Vh K H a xs->xs[i]?/x,λi H=>∃xs,Vh K H a xs/\⇑xs<=i}
def jF(K:Gd)(a:Ge):It:=
 {λi H=>∃xs x,hB K H a xs/\xs[i]?/x,λi H x H'=>H'=H/\∀xs,hB K H a xs->xs[i]?/x,λi H=>∃xs,hB K H a xs/\⇑xs<=i}
def j6(lo:Int)(n:Nat):It:={λi _=>i<n,λi H x H'=>H'=H/\x=.int (lo+i),λi _=>n<=i}
theorem Qrd{K:Gd}(a l:Ge):i0 P w K tg (iS K a) [l] l (λi h=>h.IsListIter l a i) where
 mem:=by simp
 obj:=λi h f b j=>by
  have e:b=l:=by simpa using j
  subst e;have(o,e,c,d):=f;exact{o,e,λv z=>by rw[d]at z;cases z}
 keep:=λi h n f k=>f.at λo e=>k l ⋯ o e
 item:=by intro X F hw D N i g s O H E I q f G;subst F hw D;have(V,x,r,J):=G;have(L,M,p,S):=I.list r;have(u,z,T):=M.get J;have(t,y,Q,A,B,C):=q l ⋯;refine wpAny_pyNext_list_item f p.isList (x:=u) (by simpa using z) λn m U=>?_;have v:zx X g O H {s with heap:=n}:=I.turned (t':=s.toks) (λb o j e=>(U.2 b j).trans e) t y A B C;have(o,e,c,d):=id m;exact{u,1,ku (s:={s with heap:=n}) e c d (by decide) {x,H,v,T,{1,λW R=>by rw[I.Jv R r];exact J},m,λb j=>(q b j).1}}
 done:=by intro X F hw D N i g s O H E I q f G;subst F hw D;have(V,r,J):=G;have(L,M,p,S):=I.list r;have(t,y,Q,A,B,C):=q l ⋯;have v:=⇑M;exact wpAny_pyNext_list_end (I.ok.hd N) f p.isList (by simp;lia) λn m=>{1,I.turned (t':=s.toks) (λb o j e=>m b o j e) t y A B C}
 self:=λ_ _ _ _ _ f h=>wpAny_pyIter_listiter f h
theorem ZM{K:Gd}(a l:Ge):i0 P w K tg (jF K a) [l] l (λi h=>h.IsTupleIter l a i) where
 mem:=by simp
 obj:=λi h f b j=>by
  have e:b=l:=by simpa using j
  subst e;have(o,e,c,d):=f;exact{o,e,λv z=>by rw[d]at z;cases z}
 keep:=λi h q f k=>f.at λo e=>k l ⋯ o e
 item:=by intro X G hw F N i g s O H E I r f J;subst G hw F;have(V,x,t,L):=J;have(m,M,p,S):=I.tuple t;have(u,z,T):=M.get L;have(y,A,Q,B,C,D):=r l ⋯;refine wpAny_pyNext_tuple_item f (show s.heap.IsTuple a m.toArray from p) (x:=u) (by simpa using z) λq n U=>?_;have v:zx X g O H {s with heap:=q}:=I.turned (t':=s.toks) (λb o j e=>(U.2 b j).trans e) y A B C D;have(o,e,c,d):=id n;exact{u,1,ku (s:={s with heap:=q}) e c d (by decide) {x,H,v,T,{1,λW R=>by rw[I.XX R t];exact L},n,λb j=>(r b j).1}}
 done:=by intro X G hw F N i g s O H E I r f J;subst G hw F;have(V,t,L):=J;have(m,M,p,S):=I.tuple t;have(y,A,Q,B,C,D):=r l ⋯;have v:=⇑M;exact wpAny_pyNext_tuple_end (I.ok.hd N) f (show s.heap.IsTuple a m.toArray from p) (by simp;ext) λq n=>{1,I.turned (t':=s.toks) (λb o j e=>n b o j e) y A B C D}
 self:=λ_ _ _ _ _ f h=>wpAny_pyIter_tupleiter f h
theorem Qn8{K:Gd}(c:Ge)(m:Int)(n:Nat):i0 P w K tg (j6 m n) [c] c (λi h=>ND h c (m+(i:Nat)*1) ((n:Int) - (i:Nat)) 1) where
 mem:=by simp
 obj:=λi h a b f=>by
  have e:b=c:=by simpa using f
  subst e;exact{_,a,λv z=>by have g:HB _=JB v:=z;cases g}
 keep:=λi h j a k=>k c ⋯ _ a
 item:=by intro X A hw y B i d s D H E I l a C;subst A hw y;have(p,q,G,r,u,x):=l c ⋯;have W:=HC (prog:=X.prog) (w:=X.w) (I.ok.hd B) c m 1 n;refine W.item i s _ _ C a λv j z J g L=>?_;have(t,rfl):=J;have F:zx X d D H {s with heap:=j,toks:=z}:=I.turned (λb o f e=>L b o (by simpa using f) e) p q r u x;refine{0,ku (s:={s with heap:=j,toks:=z}) (n:="range_iterator") g rfl rfl (by decide) {.int (m+i),H,F,{t,?_},⟨Xb,Xb⟩,g,λb f=>(l b f).1}};rw[Int.mul_one]
 done:=by intro X A hw y B i d s D H E I l a C;subst A hw y;have(p,q,G,r,u,x):=l c ⋯;exact M9 (I.ok.hd B) a (by have:n<=i:=C;lia) λj g=>{1,I.turned (t':=s.toks) (λb o f e=>g b o f e) p q r u x}
 self:=λ_ _ _ _ _ a h=>Nb a h
section
variable{X:Cx}{tg:Ea}
inductive xj(K:Gd)(R:It->Hp->Prop)(x:V)(H1:Hp):Prop
 |mk (a:_) (h0:x=↑a) (h1:(∃xs,Vh K H1 a xs)) (h2:R (iS K a) H1):xj K R x H1
def Q58(K:Gd)(tl:TE):TI:=λσ H R=>tl σ H λx H1=>xj K R x H1
inductive vg(K:Gd)(R:It->Hp->Prop)(x:V)(H1:Hp):Prop
 |mk (a:_) (h0:x=↑a) (h1:(∃xs,hB K H1 a xs)) (h2:R (jF K a) H1):vg K R x H1
def OU(K:Gd)(tl:TE):TI:=λσ H R=>tl σ H λx H1=>vg K R x H1
theorem Z6{l:Ea}{g:TE}(k:PE X l g):PI X tg l (Q58 X.K g):=by
 intro c s u H R I h;refine Xf (k c s u H _ I h) λv f⟨x,i,d,t,r⟩=>?_;have(a,e,(z,m),q):=r;subst e;cases t;have(n,y,p,w):=d.list m;refine Fh p.isList ?_;refine{f.heap.objs.size,[f.heap.objs.size],2,i,1,d.kept (t':=f.toks) λb o e=>Gm _ e,Qrd a _,{_,Tc _ Xb,11},λb j=>?_,q};have e:b=f.heap.objs.size:=by simpa using j
 subst e;exact d.jq (Gy _) (d.Yc.fresh (Gy _))
theorem Ui{l:Ea}{i:TE}(m:PE X l i):PI X tg l (OU X.K i):=by
 intro c s u H R I h;refine Xf (m c s u H _ I h) λv d⟨x,j,f,t,r⟩=>?_;have(a,e,(z,n),q):=r;subst e;cases t;have(g,y,p,w):=f.tuple n;refine Mb (show d.heap.IsTuple a g.toArray from p) ?_;refine{d.heap.objs.size,[d.heap.objs.size],2,j,1,f.kept (t':=d.toks) λb o e=>Gm _ e,ZM a _,{_,Tc _ Xb,11},λb k=>?_,q};have e:b=d.heap.objs.size:=by simpa using k
 subst e;exact f.jq (Gy _) (f.Yc.fresh (Gy _))
theorem QF{R:It->Hp->Prop}{a hi:Int}{t u v:Ad}{d:Nat}(I:zx X zq σ H s)(h: -(2^62)<=a)(i:a<2^62)(j: -(2^62)<=hi)(k:hi<2^62)
  (q:R (j6 a (hi - a).toNat) H):wpAny (TV X.prog X.w) X.A (pyIter ↑s.heap.objs.size) (uW X zq σ tg R) E {s with heap:=s.heap.push {cls:=.type "range",data:=.fields #[.int a t,.int hi u,.int 1 v]},toks:=d}:=by
 refine Rs (HD ..) (small_one h i j k) ?_;have c:zx X zq σ H {s with heap:=s.heap.push {cls:=.type "range",data:=.fields #[.int a t,.int hi u,.int 1 v]},toks:=d}:=I.kept λb o e=>Gm _ e;refine⟨(s.heap.push {cls:=.type "range",data:=.fields #[.int a t,.int hi u,.int 1 v]}).objs.size,[(s.heap.push {cls:=.type "range",data:=.fields #[.int a t,.int hi u,.int 1 v]}).objs.size],_,_,H,Xb,
  c.kept (t':=d) λb o e=>Gm _ e,Qn8 _ a (hi - a).toNat,?_,λb l=>?_,q⟩
 .have f:a+((0:Nat):Int)*1=a:=by simp
  have g:(((hi - a).toNat:Nat):Int) - ((0:Nat):Int)=SX a hi 1:=by rw[rangeSize_one];split<;>lia
  show ND _ _ (a+((0:Nat):Int)*1) ((((hi - a).toNat:Nat):Int) - ((0:Nat):Int)) 1;rw[f,g];exact Tc _ rfl
 .have e:b=(s.heap.push {cls:=.type "range",data:=.fields #[.int a t,.int hi u,.int 1 v]}).objs.size:=by simpa using l
  subst e;exact c.jq (Gy _) (c.Yc.fresh (Gy _))
inductive AG(R:It->Hp->Prop)(vs:List V)(H1:Hp):Prop
 |mk (j:Int) (h0:vs=[.int j]) (h1: -(2^62)<=j) (h2:j<2^62) (h3:R (j6 0 j.toNat) H1):AG R vs H1
def Q7j(ta:TA):TI:=λσ H R=>ta σ H λa H1=>AG R a H1
theorem Vy{a:Ea}{d:TA}{p:MQ}(i:Gl X "range")(k:X.mg "range"=Gp)(g:PA X [a] d)(hs:T8 [a] X.env=[(Gx,eval a X.env)]:=by rfl):PI X tg (.Call (.Name "range" p) [a] [] pos) (Q7j d):=by
 intro b s o H R I h;refine IM (Uk I i k HY (Eo (Xf (g pos b s o H _ I h) λw v⟨x,u,f,m,c⟩=>?_) hs Xb));have(j,e,c,l,q):=c;subst e;cases m with
 |cons r n=>cases n;have(t,rfl):=r;exact call_range_1 (QF f ∅ ∅ c l (by simpa using q))
def QW(wi:TI)(g:TG)(tb:TS):TS:=λD σ H=>wi σ H λJ H1=>∃W:Nat->Nat->St->Hp->Prop,(∃m,W 0 m σ H1)/\∀i m σ H,W i m σ H->
 (J.stop i H/\D.nx σ H)\/(J.go i H/\∃N:St->Hp->Prop,(∀a H',N a H'->∃c,c<m/\W (i+1) c a H')/\∀x H',J.yld i H x H'->g x σ H' λb H2=>tb {D with nx:=N,ct:=N,bk:=D.nx} b H2)
def lA(fp:List Ge)(h:Heap):List (Ge×Lc):=fp.filterMap λb=>(h.get? b).map λo=>(b,o)
theorem Ic{h:Heap}(a:b∈fp)(e:h.get? b/o):(b,o)∈lA fp h:=Mc.mpr {b,a,by rw[e];rfl}
theorem QI{h:Heap}{p:Ge×Lc}(d:p∈lA fp h):p.1∈fp/\h.get? p.1/p.2:=by
 have(b,c,e):=Mc.mp d;cases q:h.get? b with
 |none=>rw[q]at e;cases e
 |some o=>rw[q]at e;have a:(b,o)=p:=T1 e;subst a;exact⟨c,q⟩
theorem zx.pinned(I:zx X zq σ H s)(i:∀b∈fp,iq X zq H b)(j:∀b∈fp,∃o,s.heap.get? b/o/\∀v,o.data≠.cell v):zx X (zq++lA fp s.heap) σ H s:=
 I.Ar λp k=>(Gi.mp k).elim (λz=>I.pin p (TL _ z)) λz=>by have(c,e):=QI z;have(f,g,h,_):=i p.1 c;have(o,a,d):=j p.1 c;rw[e]at a;cases a;exact⟨e,f,g,h,d⟩
theorem zx.nt{b:List (Ge×Lc)}(I:zx X (zq++b) σ H s):zx X zq σ H s:=I.Ar λp a=>I.pin p (TL _ (Gv _ a))
theorem Z9{iter:Ea}{N:TI}(p:PassesOwn (TV X.prog X.w) X.A X.env X.xe)(G:X.calm=Gk)(hi:PI X tg iter N)(hg:PG X tg g)(e:Wf X body tb)
  (hs:∀x,foldedSetIterable iter X.env x=pure x:=by intro _;rfl):PS X (.For tg iter body [] pos) (QW N g tb):=by
 intro k s O P ai S ad;refine wpAny_For (Xf (hi k s O P _ S ad) λag s1 h1=>Xf h1 λak s2 h2=>?_) hs;have(it,o,M,aj,Q,m,T,l,af,E,W,(m0,w0),turn):=h2;subst m;have B:∀{h:Hp},(∀a∈o,h a=Gp)->∀a∈o,iq X k h a:=λhn a e=>{hn a e,(E a e).2};refine codeAny_forLoop_any (λn I=>∃i r h,zx X k r h I/\M i I.heap/\(∀a∈o,h a=Gp)/\W i n r h) ?_ m0 {(0),O,Q,T,af,λa e=>(E a e).1,w0};rintro n J ⟨i,t,v,D,L,F,w3⟩;rcases turn i n t v w3 with⟨stop,qn⟩|⟨go,aa,hN,step⟩
 .refine SD p (Xf (l.done X rfl rfl rfl G i k J t v X.xe D (B F) L stop) λae s4⟨w,U⟩=>?_);subst w;exact FL ⟨t,v,U,qn⟩
 .refine SD p (Xf (l.item X rfl rfl rfl G i k J t v X.xe D (B F) L go) λae s4⟨u,w,h4⟩=>?_);subst w;refine SD p (Xf h4 λ_ K⟨x,C,V,r5,y5,A,ac⟩=>?_);have Y:=V.pinned (B ac) (l.obj _ _ A);refine SD p (Xf (hg _ K t C x u _ Y r5 (step x C y5)) λ_ s6⟨ah,R,Z,q6⟩=>?_);refine SD p (Xf (e _ s6 ah R _ Z q6) λab z j=>?_);have again:∀{f:St}{b:Hp},zx X (k++lA o K.heap) f b z->aa f b->∃H,H<n/\∃i r h,zx X k r h z/\M i z.heap/\(∀a∈o,h a=Gp)/\W i H r h:=λ{f b}c q=>by have(m',hm,w7):=hN f b q;refine{m',hm,i+1,f,b,c.nt,l.keep _ _ _ A λa e y m=>(c.pin (a,y) (TL _ (TL _ (Ic e m)))).1,λa e=>?_,w7};have(y,m,d):=l.obj _ _ A a e;exact(c.pin (a,y) (TL _ (TL _ (Ic e m)))).2.1
  cases ab with
  |next=>have(f,b,c,q):=j;exact again c q
  |cont=>have(f,b,c,q):=j;exact again c q
  |brk=>have(f,b,c,j):=j;exact{f,b,c.nt,j}
  |ret ag=>have(x7,f,b,c,r7,j):=j;exact{x7,f,b,c.nt,r7,j}
end
theorem Yv{K:Gd}(b:Nat->St->Hp->Prop)(k:b 0 σ H)(n:∀i σ H,i<=⇑xs->b i σ H->Vh K H a xs)
  (hs:∀i x σ H,xs[i]?/x->b i σ H->g x σ H λf H2=>tb {D with nx:=b (i+1),ct:=b (i+1),bk:=D.nx} f H2)(l:∀σ H,b ⇑xs σ H->D.nx σ H):
  ∃W:Nat->Nat->St->Hp->Prop,(∃m,W 0 m σ H)/\∀i m σ H,W i m σ H->
   ((iS K a).stop i H/\D.nx σ H)\/((iS K a).go i H/\∃N:St->Hp->Prop,(∀d c,N d c->∃j,j<m/\W (i+1) j d c)/\∀x c,(iS K a).yld i H x c->g x σ c λf H2=>tb {D with nx:=N,ct:=N,bk:=D.nx} f H2):=by
 exists λi m σ H=>m=⇑xs - i/\i<=⇑xs/\b i σ H,{⇑xs,by simp,Tw _,k};rintro i m σ H ⟨rfl,hi,p⟩;have q:=n i σ H hi p;by_cases h:i<⇑xs
 .refine .inr {{xs,xs[i],q,by simp[h]},b (i+1),λd c j=>{⇑xs - (i+1),by ext,1,h,j},λx c y=>?_};have(e,y):=y;subst e;exact hs i x σ _ (y xs q) p
 .have e:i=⇑xs:=by ext
  subst e;exact .inl {{xs,q,Gy _},l σ H p}
theorem qz{K:Gd}(b:Nat->St->Hp->Prop)(k:b 0 σ H)(n:∀i σ H,i<=⇑xs->b i σ H->hB K H a xs)
  (hs:∀i x σ H,xs[i]?/x->b i σ H->g x σ H λf H2=>tb {D with nx:=b (i+1),ct:=b (i+1),bk:=D.nx} f H2)(l:∀σ H,b ⇑xs σ H->D.nx σ H):
  ∃W:Nat->Nat->St->Hp->Prop,(∃m,W 0 m σ H)/\∀i m σ H,W i m σ H->
   ((jF K a).stop i H/\D.nx σ H)\/((jF K a).go i H/\∃N:St->Hp->Prop,(∀d c,N d c->∃j,j<m/\W (i+1) j d c)/\∀x c,(jF K a).yld i H x c->g x σ c λf H2=>tb {D with nx:=N,ct:=N,bk:=D.nx} f H2):=by
 exists λi m σ H=>m=⇑xs - i/\i<=⇑xs/\b i σ H,{⇑xs,by simp,Tw _,k};rintro i m σ H ⟨rfl,hi,p⟩;have q:=n i σ H hi p;by_cases h:i<⇑xs
 .refine .inr {{xs,xs[i],q,by simp[h]},b (i+1),λd c j=>{⇑xs - (i+1),by ext,1,h,j},λx c y=>?_};have(e,y):=y;subst e;exact hs i x σ _ (y xs q) p
 .have e:i=⇑xs:=by ext
  subst e;exact .inl {{xs,q,Gy _},l σ H p}
theorem V0{lo:Int}(b:Nat->St->Hp->Prop)(j:b 0 σ H)
  (hs:∀i σ H,i<n->b i σ H->g (.int (lo+i)) σ H λf H2=>tb {D with nx:=b (i+1),ct:=b (i+1),bk:=D.nx} f H2)(k:∀σ H,b n σ H->D.nx σ H):
  ∃W:Nat->Nat->St->Hp->Prop,(∃m,W 0 m σ H)/\∀i m σ H,W i m σ H->
   ((j6 lo n).stop i H/\D.nx σ H)\/((j6 lo n).go i H/\∃N:St->Hp->Prop,(∀d a,N d a->∃h,h<m/\W (i+1) h d a)/\∀x a,(j6 lo n).yld i H x a->g x σ a λf H2=>tb {D with nx:=N,ct:=N,bk:=D.nx} f H2):=by
 exists λi m σ H=>m=n - i/\i<=n/\b i σ H,{n,by simp,Tw _,j};rintro i m σ H ⟨rfl,hi,p⟩;by_cases c:i<n
 .refine .inr {c,b (i+1),λd a h=>{n - (i+1),by ext,1,c,h},λx a y=>?_};have(e,y):=y;subst e y;exact hs i σ _ c p
 .have e:i=n:=by ext
  subst e;exact .inl {Gy _,k σ H p}
abbrev R2:=V->V->Hp->VK->Prop
variable{r:R2}
def hA(X:Cx)(f:Gh->Gh->Ae Gh)(r:R2):Prop:=
 ∀(zq:List (Ge×Lc))(s:Gw)(σ:St)(H:Hp)(x y:V)(v u:Gh)(Q:VK),zx X zq σ H s->zv x v->zv y u->r x y H Q->
  wpAny (TV X.prog X.w) X.A (f v u) (EP X zq σ Q) X.xe s
def pC(X:Cx)(f:Gh->Ae Gh)(r:V->Hp->VK->Prop):Prop:=
 ∀(zq:List (Ge×Lc))(s:Gw)(σ:St)(H:Hp)(x:V)(v:Gh)(Q:VK),zx X zq σ H s->zv x v->r x H Q->
  wpAny (TV X.prog X.w) X.A (f v) (EP X zq σ Q) X.xe s
def Us(X:Cx)(f:Gh)(r:List V->Hp->VK->Prop):Prop:=
 ∀(zq:List (Ge×Lc))(s:Gw)(σ:St)(H:Hp)(xs:List V)(a:List Gh)(Q:VK),zx X zq σ H s->Yh xs a->r xs H Q->
  wpAny (TV X.prog X.w) X.A (call f a) (EP X zq σ Q) X.xe s
def UI(X:Cx)(r:V->Hp->(Bool->Hp->Prop)->Prop):Prop:=
 ∀(zq:List (Ge×Lc))(s:Gw)(σ:St)(H:Hp)(x:V)(v:Gh)(Q:Bool->Hp->Prop),zx X zq σ H s->zv x v->r x H Q->
  wpAny (TV X.prog X.w) X.A (truthy v) (TP X zq σ Q) X.xe s
def tOp(r:R2)(ta tb:TE):TE:=λσ H Q=>ta σ H λx H1=>tb σ H1 λy H2=>r x y H2 Q
def tUn(r:V->Hp->VK->Prop)(ta:TE):TE:=λσ H Q=>ta σ H λx H1=>r x H1 Q
inductive iRI(C:Int->Int->Prop)(g:Int->Int->V)(x:V)(y:V)(H:Hp)(Q:VK):Prop
 |mk (i:_) (j:_) (h0:x=.int i) (h1:y=.int j) (h2:C i j) (h3:Q (g i j) H):iRI C g x y H Q
def rI(C:Int->Int->Prop)(g:Int->Int->V):R2:=λx y H Q=>iRI C g x y H Q
inductive AN(g:Int->Int->V)(x:V)(y:V)(H:Hp)(Q:VK):Prop
 |mk (i:_) (j:_) (h0:x=.int i) (h1:y=.int j) (h2:Q (g i j) H):AN g x y H Q
def rI0(g:Int->Int->V):R2:=λx y H Q=>AN g x y H Q
inductive iRU(g:Int->V)(x:V)(H:Hp)(Q:VK):Prop
 |mk (i:_) (h0:x=.int i) (h1:Q (g i) H):iRU g x H Q
def rU(g:Int->V):V->Hp->VK->Prop:=λx H Q=>iRU g x H Q
section
variable{X:Cx}{a b c:Ea}{ta tb tc:TE}{pos:MQ}
theorem so(j:PE X a ta)(k:PE X b tb){R:V->V->Hp->Prop}(I:zx X zq σ H s)
  (h:ta σ H λx H1=>tb σ H1 λy H2=>R x y H2)
  (l:∀v u e x y H2,zx X zq σ H2 e->zv x v->zv y u->R x y H2->wpAny (TV X.prog X.w) X.A (f v u) Q X.xe e):
  wpAny (TV X.prog X.w) X.A (eval a X.env) (λv c=>wpAny (TV X.prog X.w) X.A (eval b X.env) (λu d=>wpAny (TV X.prog X.w) X.A (f v u) Q X.xe d) X.xe c) X.xe s:=by
 refine Xf (j zq s σ H _ I h) λv q⟨x,H1,g,o,m⟩=>?_;refine Xf (k zq q σ H1 _ g m) λu e⟨y,H2,i,p,n⟩=>?_;exact l v u e x y H2 i o p n
theorem Zy{d:Operator}(j:hA X (binaryOp d) r)(g:PE X a ta)(i:PE X b tb):PE X (.BinOp a d b pos) (tOp r ta tb):=by intro c s n H Q I h;exact wpAny_BinOp (so g i I h λv u m x y e f k l q=>j c m n e x y v u Q f k l q)
theorem Jo{c:UnaryOp}{r:V->Hp->VK->Prop}(i:pC X (unaryOp c) r)(g:PE X a ta):PE X (.UnaryOp c a pos) (tUn r ta):=by intro b s d H Q I h;exact UnaryOp_ (Xf (g b s d H _ I h) λv l⟨x,e,f,k,j⟩=>i b l d e x v Q f k j)
theorem opI{C:Int->Int->Prop}{g:Int->Int->Int}
  (rule:∀(i j:Int)(t u:Ad)(s:Gw)(Q:Gh->Gw->Prop)(E:Gh->Gw->Prop),C i j->Q (.int (g i j) s.toks) {s with toks:=s.toks+1}->wpAny (TV X.prog X.w) X.A (f (.int i t) (.int j u)) Q E s):
  hA X f (rI C λi j=>.int (g i j)):=by
 intro a s k H x y v u Q I c d h;have(i,j,rfl,rfl,b,q):=h;have(t,rfl):=c;have(e,rfl):=d;exact rule i j t e s _ _ b {.int (g i j),H,I.tok _,{40},q}
theorem zD{g:Int->Int->Int}
  (rule:∀(i j:Int)(t u:Ad)(s:Gw)(Q:Gh->Gw->Prop)(E:Gh->Gw->Prop),Q (.int (g i j) s.toks) {s with toks:=s.toks+1}->wpAny (TV X.prog X.w) X.A (f (.int i t) (.int j u)) Q E s):
  hA X f (rI0 λi j=>.int (g i j)):=by
 intro a s e H x y v u Q I b c h;have(i,j,rfl,rfl,q):=h;have(t,rfl):=b;have(d,rfl):=c;exact rule i j t d s _ _ {.int (g i j),H,I.tok _,{40},q}
theorem n9{g:Int->Int->Bool}
  (rule:∀(i j:Int)(t u:Ad)(s:Gw)(Q:Gh->Gw->Prop)(E:Gh->Gw->Prop),Q (.bool (g i j)) s->wpAny (TV X.prog X.w) X.A (f (.int i t) (.int j u)) Q E s):
  hA X f (rI0 λi j=>.bl (g i j)):=by
 intro a s e H x y v u Q I b c h;have(i,j,rfl,rfl,q):=h;have(t,rfl):=b;have(d,rfl):=c;exact rule i j t d s _ _ {.bl (g i j),H,I,1,q}
def vB(i j:Int):Prop:=0<j/\j<1073741824
def VL(i j:Int):Prop:=0<=j/\j<=1000000/\i.natAbs<2^64
def p9(i j:Int):Prop:=(-(2^64)<i/\i<2^64)\/(-(2^64)<j/\j<2^64)
theorem p9.ok{i j:Int}(h:p9 i j):IntMulOk i j:=by
 rcases h with⟨a,b⟩|⟨a,b⟩
 .exact .of_left (Cr a b)
 .exact .of_right (Cr a b)
theorem jN:hA X (binaryOp .Add) (rI0 λi j=>.int (i+j)):=zD λ_ _ _ _ _ _ _ q=>add_int q
theorem jQ:hA X (binaryOp .Sub) (rI0 λi j=>.int (i - j)):=zD λ_ _ _ _ _ _ _ q=>sub_int q
theorem AW:hA X (binaryOp .Mult) (rI p9 λi j=>.int (i*j)):=opI λ_ _ _ _ _ _ _ a q=>mul_int q a.ok
theorem Vq:hA X (binaryOp .FloorDiv) (rI vB λi j=>.int (i / j)):=opI λi j _ _ _ _ _ a q=>by have b:(0:Int)<j:=a.1;have c:j<1073741824:=a.2;exact floordiv_int ∅ (by rw[Int.fdiv_eq_ediv_of_nonneg i ∅];exact q) (.inl (Nc ∅))
theorem W9:hA X (binaryOp .Mod) (rI (λ_ j=>0<j) λi j=>.int (i % j)):=opI λi j _ _ _ _ _ a q=>by have b:(0:Int)<j:=a;exact mod_int' ∅ (by rw[Int.fmod_eq_emod_of_nonneg i ∅];exact q)
theorem xi:hA X (binaryOp .Pow) (rI VL λi j=>.int (i^j.toNat)):=opI λ_ _ _ _ _ _ _ a q=>pow_int_small a.1 a.2.1 a.2.2 q
theorem unI{f:Gh->Ae Gh}{g:Int->Int}
  (rule:∀(i:Int)(t:Ad)(s:Gw)(Q:Gh->Gw->Prop)(E:Gh->Gw->Prop),Q (.int (g i) s.toks) {s with toks:=s.toks+1}->wpAny (TV X.prog X.w) X.A (f (.int i t)) Q E s):
  pC X f (rU λi=>.int (g i)):=by
 intro a s c H x v Q I b h;have(i,rfl,q):=h;have(t,rfl):=b;exact rule i t s _ _ {.int (g i),H,I.tok _,{40},q}
theorem Vl:pC X (unaryOp .USub) (rU λi=>.int (-i)):=unI λ_ _ _ _ _ q=>neg_int q
end
noncomputable def Ka:V->V->Bool
 |.non,.non=>Gk|.non,.int _=>Gk|.int _,.non=>Gk|.non,.bl _=>Gk|.bl _,.non=>Gk|.non,.str _=>Gk|.str _,.non=>Gk
 |.int _,.int _=>Gk|.bl _,.bl _=>Gk|.str _,.str _=>Gk|.byt _,.byt _=>Gk
 |.int _,.str _=>Gk|.str _,.int _=>Gk|.bl _,.str _=>Gk|.str _,.bl _=>Gk
 |_,_=>Gx
def rEq:R2:=λx y H Q=>Ka x y=Gk/\Q (.bl (decide (x=y))) H
def rNe:R2:=λx y H Q=>Ka x y=Gk/\Q (.bl (!decide (x=y))) H
theorem Uw{i j:Int}:decide (V.int i=V.int j)=(i==j):=by rw[L4];simp
theorem uO{i j:Bool}:decide (V.bl i=V.bl j)=(i==j):=by rw[L4];simp
theorem Zp{i j:TQ}:decide (V.str i=V.str j)=(i==j):=by rw[L4];simp
theorem wy{i j:Array UInt8}:decide (V.byt i=V.byt j)=(i.toList==j.toList):=by rw[L4];cases i;cases j;simp
section
variable{X:Cx}{a b c:Ea}{ta tb tc:TE}{pos:MQ}
theorem Yl{Q:VK}{k a:Bool}(I:zx X zq σ H s)(q:Q (.bl k) H)(e:k=a):EP X zq σ Q (.bool a) s:=by subst e;exact{.bl k,H,I,1,q}
theorem Xy:hA X (Ep .Eq) rEq:=by
 intro d s e H x y v u Q I c a h;have(hs,q):=h;cases x with
 |non=>
  cases c;cases y with
  |non=>cases a;exact BY (Yl I q ⋯)
  |bl j=>cases a;exact BZ (Yl I q ⋯)
  |int j=>have(b,rfl):=a;exact Cs (Yl I q ⋯)
  |str j=>have(b,rfl):=a;exact Ct (Yl I q ⋯)
  |_=>exact absurd (show Gx=Gk from hs) TH
 |bl i=>
  cases c;cases y with
  |non=>cases a;exact B4 (Yl I q ⋯)
  |bl j=>cases a;exact eq_bool (Yl I q uO)
  |str j=>have(b,rfl):=a;exact B5 (Yl I q ⋯)
  |_=>exact absurd (show Gx=Gk from hs) TH
 |int i=>
  have(t,rfl):=c;cases y with
  |non=>cases a;exact Cu (Yl I q ⋯)
  |int j=>have(b,rfl):=a;exact eq_int (Yl I q Uw)
  |str j=>have(b,rfl):=a;exact Cv (Yl I q ⋯)
  |_=>exact absurd (show Gx=Gk from hs) TH
 |str i=>
  have(t,rfl):=c;cases y with
  |non=>cases a;exact Cw (Yl I q ⋯)
  |bl j=>cases a;exact B6 (Yl I q ⋯)
  |int j=>have(b,rfl):=a;exact Cy (Yl I q ⋯)
  |str j=>have(b,rfl):=a;exact eq_str (Yl I q Zp)
  |_=>exact absurd (show Gx=Gk from hs) TH
 |byt i=>
  have(t,rfl):=c;cases y with
  |byt j=>have(b,rfl):=a;exact JC (Yl I q wy)
  |_=>exact absurd (show Gx=Gk from hs) TH
 |_=>cases y<;>exact absurd (show Gx=Gk from hs) TH
theorem X7:hA X (Ep .NotEq) rNe:=by
 intro d s e H x y v u Q I c a h;have(hs,q):=h;cases x with
 |non=>
  cases c;cases y with
  |non=>cases a;exact B7 (Yl I q ⋯)
  |bl j=>cases a;exact B8 (Yl I q ⋯)
  |int j=>have(b,rfl):=a;exact Cz (Yl I q ⋯)
  |str j=>have(b,rfl):=a;exact CA (Yl I q ⋯)
  |_=>exact absurd (show Gx=Gk from hs) TH
 |bl i=>
  cases c;cases y with
  |non=>cases a;exact B9 (Yl I q ⋯)
  |bl j=>cases a;exact ne_bool (Yl I q (congrArg not uO))
  |str j=>have(b,rfl):=a;exact Ca (Yl I q ⋯)
  |_=>exact absurd (show Gx=Gk from hs) TH
 |int i=>
  have(t,rfl):=c;cases y with
  |non=>cases a;exact CC (Yl I q ⋯)
  |int j=>have(b,rfl):=a;exact ne_int (Yl I q (congrArg not Uw))
  |str j=>have(b,rfl):=a;exact CD (Yl I q ⋯)
  |_=>exact absurd (show Gx=Gk from hs) TH
 |str i=>
  have(t,rfl):=c;cases y with
  |non=>cases a;exact CF (Yl I q ⋯)
  |bl j=>cases a;exact Cb (Yl I q ⋯)
  |int j=>have(b,rfl):=a;exact CG (Yl I q ⋯)
  |str j=>have(b,rfl):=a;exact ne_str (Yl I q (congrArg not Zp))
  |_=>exact absurd (show Gx=Gk from hs) TH
 |byt i=>
  have(t,rfl):=c;cases y with
  |byt j=>have(b,rfl):=a;exact JD (Yl I q (congrArg not wy))
  |_=>exact absurd (show Gx=Gk from hs) TH
 |_=>cases y<;>exact absurd (show Gx=Gk from hs) TH
theorem Ud:hA X (Ep .Lt) (rI0 λi j=>.bl (decide (i<j))):=n9 λ_ _ _ _ _ _ _ q=>lt_int q
theorem oT:hA X (Ep .LtE) (rI0 λi j=>.bl (decide (i<=j))):=n9 λ_ _ _ _ _ _ _ q=>le_int q
theorem kP:hA X (Ep .Gt) (rI0 λi j=>.bl (decide (j<i))):=n9 λ_ _ _ _ _ _ _ q=>gt_int q
theorem md:hA X (Ep .GtE) (rI0 λi j=>.bl (decide (j<=i))):=n9 λ_ _ _ _ _ _ _ q=>ge_int q
theorem QX:hA X (Ep .Is) (λx y H Q=>y=.non/\Q (.bl (decide (x=.non))) H):=by
 intro a s d H x y v u Q I b c h;have(rfl,q):=h;cases c;refine Hz (Yl I q ?_);cases x<;>first
  |(cases b;rfl)
  |(have(t,rfl):=b;rfl)
theorem lW:hA X (Ep .IsNot) (λx y H Q=>y=.non/\Q (.bl (!decide (x=.non))) H):=by
 intro a s d H x y v u Q I b c h;have(rfl,q):=h;cases c;refine BN (Yl I q ?_);cases x<;>first
  |(cases b;rfl)
  |(have(t,rfl):=b;rfl)
theorem Qs(b:Ea)(h:op≠.In:=by decide)(a:op≠.NotIn:=by decide):behindInMarks op b=Gx:=vT b h a
theorem Wz(j:hA X (Ep op) r)(f:PE X a ta)(g:PE X b tb)(i:behindInMarks op b=Gx):PE X (.Compare a [op] [b] pos) (tOp r ta tb):=by intro c s n H Q I h;exact wpAny_Compare1 (so f g I h λv u m x y d e k l q=>j c m n d x y v u Q e k l q) i
inductive xF(Q:Bool->Hp->Prop)(x:V)(H':Hp):Prop
 |mk (k:_) (h0:x=.bl k) (h1:Q k H'):xF Q x H'
def wB(t:TE):TT:=λσ H Q=>t σ H λx H'=>xF Q x H'
theorem Qo(t:hA X (Ep op) r)(o:PE X a ta)(p:PE X b tb)(q:behindInMarks op b=Gx):PT X (.Compare a [op] [b] pos) (wB (tOp r ta tb)):=by
 intro d s f H Q I h;refine Nr (Xf (o d s f H _ I h) λv F⟨x,g,l,C,w⟩=>Xf (p d F f g _ l w) λu G⟨y,i,m,D,A⟩=>Xf (t d G f i x y v u _ m C D A) λc J⟨z,j,n,E,k,e,B⟩=>?_) q
 subst e;cases E;exact ET ⟨j,n,B⟩
inductive AK(r':R2)(tc:TE)(σ:St)(Q:VK)(y:V)(z:V)(H3:Hp):Prop
 |mk (k:_) (h0:z=.bl k) (h1:(if k=Gk then tc σ H3 λw' H4=>r' y w' H4 Q else Q (.bl Gx) H3)):AK r' tc σ Q y z H3
def XH(r b:R2)(ta tb tc:TE):TE:=λσ H Q=>ta σ H λx H1=>tb σ H1 λy H2=>r x y H2 λz a=>AK b tc σ Q y z a
theorem PH{g:CmpOp}{l:R2}(J:hA X (Ep op) r)(K:hA X (Ep g) l)(F:PE X a ta)(G:PE X b tb)(H:PE X c tc)
  (I:lastMarks [op,g] [b,c]=Gx:=by with_unfolding_all rfl):PT X (.Compare a [op,g] [b,c] pos) (wB (XH r l ta tb tc)):=by
 intro e s f n q v E;refine isTrue_chain (Xf (F e s f n _ v E) λW T⟨x,o,w,P,L⟩=>test_link (Xf (G e T f o _ w L) λu U⟨y,p,z,m,M⟩=>Xf (J e U f p x y W u _ z P m M) λd V⟨aa,h,i,Q,k,C,j⟩=>?_)) I
 subst C;cases Q;refine ET ?_;cases k with
 |false=>have(A,q,t):=j;cases q;exact ite_ff ⟨h,i,t⟩
 |true=>refine ite_tt (test_last (Xf (H e V f h _ i j) λY s4⟨Z,q,A,R,N⟩=>Xf (K e s4 f q y Z u Y _ A m R N) λd' s5⟨z2,t,B,S,k2,D,O⟩=>?_));subst D;cases S;exact ET ⟨t,B,O⟩
def AE(K:Gd)(x:V)(H:Hp)(k:Bool):Prop:=
 match x with
 |.non=>k=Gx
 |.bl b=>k=b
 |.int i=>k=(i !=0)
 |.str y=>⇑y<=TF/\k=((⇑y:Int) !=0)
 |.byt y=>y.size<=TF/\k=((y.size:Int) !=0)
 |.ref p=>(∃xs,Vh K H p xs/\k= !xs.isEmpty)\/(∃xs,hB K H p xs/\k= !xs.isEmpty)\/∃zw,H p/.dK zw/\k= !zw.isEmpty
 |_=>False
theorem Qmp{c:Type}{a:List (c×V)}{b:List (c×Gh)}(r:KV a b):(!b.isEmpty)= !a.isEmpty:=by cases r<;>rfl
theorem zJ{a:List Gh}(r:Yh xs a):(!a.toArray.isEmpty)= !xs.isEmpty:=by cases r<;>simp
theorem O9:(TF:Nat)<2^63:=by rw[TD];decide
theorem xV:UI X (λx H Q=>∃k,AE X.K x H k/\Q k H):=by
 intro u s B H x v Q I f h;have(k,e,q):=h;have A:=O9;have hs:TF=16777216:=TD;cases x with
 |non=>cases f;have a:k=Gx:=e;subst a;exact truthy_none ⟨H,I,q⟩
 |bl b=>cases f;have a:k=b:=e;subst a;exact ET ⟨H,I,q⟩
 |int i=>have(t,rfl):=f;have a:k=(i !=0):=e;subst a;exact HZ ⟨H,I,q⟩
 |str y=>have(t,rfl):=f;obtain⟨z,a⟩:⇑y<=TF/\k=((⇑y:Int) !=0):=e;subst a;exact Ix (by lia) {H,I.tok _,q}
 |byt y=>have(t,rfl):=f;obtain⟨z,a⟩:y.size<=TF/\k=((y.size:Int) !=0):=e;subst a;exact HE (by lia) {H,I.tok _,q}
 |ref p=>
  cases f;have a:(∃d,Vh X.K H p d/\k= !d.isEmpty)\/(∃d,hB X.K H p d/\k= !d.isEmpty)\/∃b,H p/.dK b/\k= !b.isEmpty:=e;rcases a with⟨d,g,a⟩|⟨d,g,a⟩|⟨b,g,a⟩
  .subst a;have(l,r,n,o):=I.list g;have c:=⇑r;exact wpAny_truthy_list n.isList (by simp only[Ts];lia) {H,I.tok _,by rw[zJ r];exact q}
  .subst a;have(l,r,n,o):=I.tuple g;have c:=⇑r;exact truthy_tuple n (by simp only[Ts];lia) {H,I.tok _,by rw[zJ r];exact q}
  .subst a;obtain⟨o,w,j,r,m⟩:⇑b<=TF/\(p==Er)=Gx/\∃j,KV b j/\s.heap.DictOf (Y9 X.prog X.w) p j:=I.Yc p _ g;have c:⇑b=⇑j:=GJ r;exact wpAny_truthy_dict w m (by lia) {H,I.tok _,by rw[Qmp r];exact q}
 |_=>exact(show False from e).elim
theorem vj(e:PE X a ta)(f:∀b,isTrue a X.env b=(do let v<-b;standAt a.pos;holding [v] (truthy v))):
  PT X a (λσ H Q=>ta σ H λx H'=>∃k,AE X.K x H' k/\Q k H'):=by
 intro c s σ H Q I h;exact Hc (Xf (e c s σ H _ I h) λv j⟨x,b,d,i,g⟩=>xV c j σ b x v Q d i g) (f _)
theorem Qni:hA X (binaryOp .Add) (λx y H Q=>∃i j,x=.str i/\y=.str j/\⇑i+⇑j<=TF/\Q (.str (i++j)) H):=by intro a s g H x y v u Q I c d h;have(i,j,rfl,rfl,b,q):=h;have(t,rfl):=c;have(e,rfl):=d;exact add_str (λe f=>{.str (i++j),H,I.tok _,{40},q}) b
theorem vals1{x:V}(r:Yh [x] us):∃u,us=[u]/\zv x u:=by
 cases r with
 |cons a b=>cases b;exact{0,a}
theorem vals2{x y:V}(r:Yh [x,y] us):∃u a,us=[u,a]/\zv x u/\zv y a:=by
 cases r with
 |cons b c=>
  cases c with
  |cons d e=>cases e;exact{30,b,d}
theorem XE:Us X (.builtin "abs") (λxs H Q=>∃i,xs=[.int i]/\Q (.int (if i<0 then -i else i)) H):=by intro a s d H xs c Q I r h;have(i,rfl,q):=h;have(u,rfl,t,rfl):=vals1 r;exact call_abs_int λu b=>{.int (if i<0 then -i else i),H,I.tok _,{40},q}
theorem Qrt(c:X.calm=Gk):Us X (.builtin "min") (λxs H Q=>∃i j,xs=[.int i,.int j]/\Q (.int (if j<i then j else i)) H):=by
 intro b s m H xs g Q I r h;have(i,j,rfl,q):=h;have(u,l,rfl,(t,rfl),(e,rfl)):=vals2 r;refine min_two_ints (I.ok.hd c) λd f k=>{_,H,I.kept k,?_,q};by_cases a:j<i
 .rw[GY a,GY a];exact{40}
 .rw[Gu a,Gu a];exact{40}
theorem Qsk:Us X (.type "int") (λxs H Q=>(∃i,xs=[.int i]/\Q (.int i) H)\/∃k,xs=[.bl k]/\Q (.int (if k then 1 else 0)) H):=by
 intro a s d H xs c Q I r h;rcases h with⟨i,rfl,q⟩|⟨k,rfl,q⟩
 .obtain⟨u,rfl,t,rfl⟩:=vals1 r;exact call_int_int {.int i,H,I,{40},q}
 .obtain⟨u,rfl,b⟩:=vals1 r;cases b;exact call_int_bool {.int (if k then 1 else 0),H,I.tok _,{40},q}
def Q9v(K:Gd)(x:V)(H:Hp)(n:Nat):Prop:=
 match x with
 |.str y=>⇑y<=TF/\n=⇑y
 |.byt y=>y.size<=TF/\n=y.size
 |.ref p=>(∃xs,Vh K H p xs/\n=⇑xs)\/∃xs,hB K H p xs/\n=⇑xs
 |_=>False
theorem Zs:Us X (.builtin "len") (λxs H Q=>∃x n,xs=[x]/\Q9v X.K x H n/\Q (.int n) H):=by
 intro j s v H xs o Q I r h;have(x,n,rfl,e,q):=h;have(u,rfl,i):=vals1 r;have m:=O9;have hs:TF=16777216:=TD;cases x with
 |str y=>have(t,rfl):=i;obtain⟨k,b⟩:⇑y<=TF/\n=⇑y:=e;subst b;exact len_str ∅ {.int _,H,I.tok _,{40},q}
 |byt y=>have(t,rfl):=i;obtain⟨k,b⟩:y.size<=TF/\n=y.size:=e;subst b;exact IN ∅ {.int _,H,I.tok _,{40},q}
 |ref p=>
  cases i;have b:(∃xs,Vh X.K H p xs/\n=⇑xs)\/∃xs,hB X.K H p xs/\n=⇑xs:=e;rcases b with⟨xs,c,b⟩|⟨xs,c,b⟩
  .subst b;have(d,g,f,l):=I.list c;have a:=⇑g;exact NO f.isList (by simp only[Ts];ext) {.int ⇑xs,H,I.tok _,{_,by simp only[Ts];rw[a]},q}
  .subst b;have(d,g,f,l):=I.tuple c;have a:=⇑g;exact len_tuple f (by simp only[Ts];ext) {.int ⇑xs,H,I.tok _,{_,by simp only[Ts];rw[a]},q}
 |_=>exact(show False from e).elim
end
structure jM(h:Heap)(x dx C:Ge)(mA:TQ->Option Gh):Prop where
 obj:h.get? x/Sd C dx
 ns:h.Ns1 dx mA
 ne:dx≠x
theorem YR{h:Heap}{d:Ge}{g:TQ->Option Gh}(n:h.Ns1 d g):∃i,h.get? d/i/\∀b,Md b i/g b:=by
 have(o,f,s,p,k,l,_,m):=n;refine{o,p,λb=>?_};have e:=m b;unfold nsFind findBy at e;rw[<-Array.find?_toList]at e;unfold Md;rw[k];dsimp only;split
 .rename_i y q
  rw[q]at e;exact congrArg Ga e
 .rename_i q
  rw[q]at e;have a:f.toList.any (·.refKey)=Gx:=by rw[My];intro y r;have(z,t,c):=l y (Array.mem_toList_iff.mp r);simp[JE,c]
  have j:¬f.toList.any (·.refKey)=Gk:=by rw[a];exact TH
  rw[Gu j];exact congrArg Ga e
theorem jM.look{h:Heap}{x c:Ge}{d:TQ->Option Gh}(I:jM h x c C d):∃b,JZ h x (Sd C c) C (Ga b)/\∀a,Md a b/d a:=
 let⟨b,ho,hl⟩:=YR I.ns
 {b,{I.obj,11,ho},hl}
section
variable{prog:Gn}{w:Ti}{A:DW}{E:Gh->Gw->Prop}{s:Gw}{K:Gd}{x dx C f:Ge}{mA:TQ->Option Gh}{name:TQ}{v:Gh}
theorem WD{a:Bool}(X:K.In s.heap)(I:jM s.heap x dx C mA)(d:EM K C name=Gk)(e:ES K C=Gk)
  (c:TM K ↑C name/Gp)(g:mA name/v)(b:Bj v=Gk)(h:Q v {s with toks:=s.toks+1}):
  wpAny (TV prog w) A (getAttr ↑x name a) Q E s:=by
 have(i,J,f):=I.look;exact IP X J (FT d).1 (HM e c rfl (by rw[f,g])) b h
theorem Qvd{Q:Gh×List Gh->Gw->Prop}(X:K.In s.heap)(I:jM s.heap x dx C mA)(a:EM K C name=Gk)
  (b:TM K ↑C name/Ga ↑f)(ht:Dk K ↑f=Gk)(d:mA name=Gp)(h:Q (.ref f,[↑x]) s):
  wpAny (TV prog w) A (getMethod ↑x name pl) Q E s:=by
 have(e,J,c):=I.look;exact IQ X J (FT a).1 (FT a).2 b (Me.mp ht) (by show(Md name e).map (·.isSome)/Gx;rw[c,d];rfl) h
theorem VT{j:List TQ}{Q:Unit->Gw->Prop}(X:K.In s.heap)(I:jM s.heap x dx C mA)
  (hs:TM K ↑C "__setattr__"/Ga (.builtin "object.__setattr__"))(o:E9 K C=Gk)(ht:Nm K C name/Gp)(n:ES K C=Gk)
  (hw:RL mA j)(p:⇑j<=TF)
  (h:∀d,jM d x dx C (λy=>if y=name then Ga v else mA y)->Eb dx s.heap d->Q () {s with heap:=d,toks:=s.toks+2}):
  wpAny (TV prog w) A (setAttr ↑x name v) Q E s:=by
 have(u,J,p):=I.look;refine IR X J hs (JF (s:={s with toks:=s.toks+1}) (r:=Gp) X J o ht λb=>?_);have(r,m,f):=JG n;have q:s.heap.get? x=Ga {↑C,Ga dx,.plain,#[]}:=I.obj;refine Gb (Gj (Gb (Gb (wpAny_loadPart q (Gb (IA (s:={s with toks:=s.toks+1}) (HN X m) ?_))))));rw[f];refine Gj (a:=Ga dx) (Gb (Gj (Gb ?_)));refine wpAny_nsSet1 (s:={s with toks:=s.toks+1}) I.ns λd a c=>?_;have(t,l,k,i,g,e):=a.count (IS name v hw);refine Gb (wpAny_lookBehind i (by rw[g];exact pastItsLine_dict (Dj e (by rw[TW];ext))) ?_);exact Gj (h _ {(c.2 _ (GQ I.ne)).trans I.obj,a,I.ne} c)
theorem ZQ{R:He->Gw->Prop}{b:List Gh}(X:K.In s.heap)(e:SA K C=Gk)
  (hi:TM K ↑C "__init__"/Ga ↑f)(c:J4 K ↑f/.type "function")
  (h:codeAny (TV prog w) (A.under (.builtin "type.__call__" {.ref C::b,kw})) (.call ↑f {.ref (s.heap.objs.size+1)::b,kw}) (JH (s.heap.objs.size+1) R)
   {s with heap:=(s.heap.push ED).push (Sd C s.heap.objs.size)}):
  codeAny (TV prog w) A (.call ↑C ⟨b,kw⟩) R s:=by
 have(a,g,d,t,os):=s;exact IT (JI X e) (HF X hi) (λa=>JT X a c) (.inl Xb) h
end
noncomputable def Y0(f:TQ)(v:V):List (TQ×V)->List (TQ×V)
 |[]=>[(f,v)]
 |(g,x)::r=>if g=f then(g,v)::r else(g,x)::Y0 f v r
theorem KL(f g:TQ)(v:V):∀c:List (TQ×V),(Y0 f v c).lookup g=if g=f then Ga v else c.lookup g
 |[]=>by
  show Fc g [(f,v)]=_;by_cases h:g=f
  .have a:(g==f)=Gk:=Me.mpr h;simp only[Fc,a,GY h]
  .have a:(g==f)=Gx:=EW.mpr h;simp only[Fc,a,Gu h]
 |(k,x)::r=>by
  have d:=KL f g v r;rw[show Y0 f v ((k,x)::r)=(if k=f then(k,v)::r else(k,x)::Y0 f v r)from rfl];by_cases b:k=f
  .rw[GY b];by_cases h:g=k
   .have a:(g==k)=Gk:=Me.mpr h;simp only[Fc,a,GY (h.trans b)]
   .have a:(g==k)=Gx:=EW.mpr h;simp only[Fc,a,Gu (λe:g=f=>h (e.trans b.symm))]
  .rw[Gu b];by_cases h:g=k
   .have a:(g==k)=Gk:=Me.mpr h;simp only[Fc,a,Gu (λe:g=f=>b (h.symm.trans e))]
   .have a:(g==k)=Gx:=EW.mpr h;simp only[Fc,a];exact d
theorem qk(f:TQ)(v:V):∀a:List (TQ×V),f∈(Y0 f v a).map (·.1)/\∀g,g∈a.map (·.1)->g∈(Y0 f v a).map (·.1)
 |[]=>{by simp[Y0],λg h=>by simp at h}
 |(k,x)::r=>by
  have(c,d):=qk f v r;rw[show Y0 f v ((k,x)::r)=(if k=f then(k,v)::r else(k,x)::Y0 f v r)from rfl];by_cases b:k=f
  .rw[GY b];subst b;exact{by simp,λg h=>by simpa using h}
  .rw[Gu b];refine{?_,λg h=>?_}
   .rw[TC];exact Gr _ c
   .rw[TC]at h⊢;rcases Td.mp h with e|e
    .exact Td.mpr (.inl e)
    .exact Gr _ (d g e)
theorem vW(f:TQ)(v:V):∀a:List (TQ×V),⇑(Y0 f v a)<=⇑a+1
 |[]=>by simp[Y0]
 |(k,x)::r=>by
  have c:=vW f v r;rw[show Y0 f v ((k,x)::r)=(if k=f then(k,v)::r else(k,x)::Y0 f v r)from rfl];by_cases b:k=f
  .rw[GY b,TW,TW];lia
  .rw[Gu b,TW,TW];lia
theorem R1.some_of{o:Option Gh}(r:R1 (Ga v) o):∃u,o/u/\zv v u:=by
 cases o with
 |none=>exact(show False from r).elim
 |some u=>exact⟨u,Xb,r⟩
theorem R1.none_of{o:Option Gh}(r:R1 Gp o):o=Gp:=by
 cases o with
 |none=>rfl
 |some u=>exact(show False from r).elim
theorem K6(r:zv v u):Bj u=Gk:=by
 cases v with
 |non=>cases(show u=DJ from r);rfl
 |bl b=>cases(show u=LC b from r);rfl
 |int i=>have(t,e):=(show∃t,u=MR i t from r);cases e;rfl
 |str x=>have(t,e):=(show∃t,u=MT x t from r);cases e;rfl
 |byt b=>have(t,e):=(show∃t,u=Hw b t from r);cases e;rfl
 |flt b=>have(t,e):=(show∃t,u=Bw b t from r);cases e;rfl
 |ref a=>cases(show u=Tq a from r);rfl
 |ty n=>cases(show u=Lf n from r);rfl
section
variable{P:Gn}{w:Ti}{H H':Hp}{h h':Heap}{a C dx:Ge}{fs fs':List (TQ×V)}
theorem nK(c:Ox P w H h)(e:H a/.ins C dx fs):∃b,jM h a dx C b/\(∀f,R1 (fs.lookup f) (b f))/\RL b (fs.map (·.1))/\⇑fs<=1000/\H dx/.own a:=by have(d,z,f,g,b,n,r,q):=(show Yr P w H h a (.ins C dx fs)from c a _ e);exact{b,⟨g,n,f⟩,r,q,z,d}
end
structure ie(K:Gd)(C:Ge):Prop where
 pg:EM K C Lu=Gk
 hd:ES K C=Gk
 po:E9 K C=Gk
 sa:TM K ↑C "__setattr__"/Ga (.builtin "object.__setattr__")
theorem ie.get{K:Gd}(c:ie K C)(f:TQ):EM K C f=Gk:=c.pg
def Xh(K:Gd)(C:Ge)(f:TQ):Prop:=TM K ↑C f=Ga Gp
theorem Xh.VC{K:Gd}{f:TQ}(n:Xh K C f):Nm K C f/Gp:=by unfold Nm;rw[show TM K ↑C f/Gp from n];rfl
structure Ym(K:Gd)(C:Ge)(m:TQ)(f:Ge):Prop where
 at_:TM K ↑C m/Ga ↑f
 fn:Dk K ↑f=Gk
 kp:Ee K ↑f=Gk
section
variable{X:Cx}{zq:List (Ge×Lc)}{σ:St}{H:Hp}{s:Gw}{a C dx:Ge}{fs:List (TQ×V)}{f:TQ}{v:V}{A:DW}{E:Gh->Gw->Prop}
theorem XF{b:Bool}(I:zx X zq σ H s)(e:H a/.ins C dx fs)(c:ie X.K C)(n:Xh X.K C f)(l:fs.lookup f/v)
  (h:∀u g,zx X zq σ H g->zv v u->Q u g):wpAny (TV X.prog X.w) A (getAttr ↑a f b) Q E s:=by
 have(j,O,r,_,_,_):=nK I.Yc e;have(u,i,d):=R1.some_of (v:=v) (o:=j f) (by rw[<-l];exact r f);exact WD I.kIn O (c.get f) c.hd n i (K6 d) (h u _ (I.tok _) d)
theorem Om{m:TQ}{g:Ge}{Q:Gh×List Gh->Gw->Prop}(I:zx X zq σ H s)(e:H a/.ins C dx fs)(c:ie X.K C)(k:Ym X.K C m g)(l:fs.lookup m=Gp)
  (h:Q (.ref g,[↑a]) s):wpAny (TV X.prog X.w) A (getMethod ↑a m pl) Q E s:=by
 have(d,O,r,_,_,_):=nK I.Yc e;have b:d m=Gp:=R1.none_of (by rw[<-l];exact r m);exact Qvd I.kIn O (c.get m) k.at_ k.fn b h
theorem KR{y:V}{Q:Unit->Gw->Prop}(I:zx X zq σ H s)(e:H a/.ins C dx fs)(c:ie X.K C)(n:Xh X.K C f)(b:⇑fs<1000)(w:zv y u)
  (h:∀b,zx X zq σ (zj H a (.ins C dx (Y0 f y fs))) b->Q () b):wpAny (TV X.prog X.w) A (setAttr ↑a f u) Q E s:=by
 have(j,O,r,k,_,i):=nK I.Yc e;have v:⇑(fs.map (·.1))<=TF:=by rw[Gq,TD];ext
 refine VT I.kIn O c.sa c.po n.VC c.hd k v λl d x=>h _ ?_;have p:∃o,l.get? dx/o:=let⟨o,_,_,e',_⟩:=d.ns;⟨o,e'⟩;refine I.write (x:=a) (e:=dx) (by rw[e];exact Es) (.inr i) (λb q m z=>(x.2 b m).trans z) p ?_;refine{by rw[Qh O.ne];exact i,?_,O.ne,d.obj,_,d.ns,λg=>?_,λg t=>?_}
 .have:=vW f y fs;ext
 .show R1 ((Y0 f y fs).lookup g) (if g=f then Ga u else j g);rw[KL];by_cases q:g=f
  .rw[GY q,GY q];exact w
  .rw[Gu q,Gu q];exact r g
 .by_cases q:g=f
  .rw[q];exact(qk f y fs).1
  .refine(qk f y fs).2 g (k g λz=>t ?_);show(if g=f then Ga u else j g)=Gp;rw[Gu q];exact z
theorem zx.made(I:zx X zq σ H s):zx X zq σ (zj (zj H s.heap.objs.size (.own (s.heap.objs.size+1))) (s.heap.objs.size+1) (.ins C s.heap.objs.size []))
  {s with heap:=(s.heap.push ED).push (Sd C s.heap.objs.size)}:=by
 have a:(s.heap.push ED).get? s.heap.objs.size/ED:=Tc s.heap rfl;have f:((s.heap.push ED).push (Sd C s.heap.objs.size)).get? (s.heap.objs.size+1)/Sd C s.heap.objs.size:=by have:=Tc (s.heap.push ED) (o:=Sd C s.heap.objs.size) rfl;rwa[Ef]at this
 have g:(s.heap.push ED).Ns s.heap.objs.size (λ_=>Gp):={ED,#[],_,a,1,(λe h=>absurd h ⋯),λ_=>rfl};have d:=I.laid (a:=s.heap.objs.size) (o:=.own (s.heap.objs.size+1)) (h':=s.heap.push ED) (t':=s.toks) (λb u q=>Gm _ q) (Gy _) {_,a};refine d.laid (a:=s.heap.objs.size+1) (o:=.ins C s.heap.objs.size []) (t':=s.toks) (λb u q=>Gm _ q) (Ff (Ef _ _)) ?_;have c:s.heap.objs.size≠s.heap.objs.size+1:=T9 (EZ _);refine{by rw[Qh c,Qb],Tw _,c,f,λ_=>Gp,(IU g).at λo q=>Gm _ q,λ_=>Es,λy i=>absurd rfl i}
theorem WK{b:Gn}{a:Bh}{f:TQ}{s:Gw}(d:attributeBase e f a (eval e a)=eval e a)
  (h:wpAny (TV b w) A (eval e a) (λo c=>wpAny (TV b w) A (getAttr o f Gk) Q E c) E s):wpAny (TV b w) A (eval (.Attribute e f pos) a) Q E s:=
 Attribute_any_ h (by rw[arm_eval_Attribute,d])
end
inductive Aq(K:Gd)(f:TQ)(Q:VK)(x:V)(H1:Hp):Prop
 |mk (a:_) (C:_) (dx:_) (fs:_) (v:_) (h0:x=↑a) (h1:H1 a/.ins C dx fs) (h2:ie K C) (h3:Xh K C f) (h4:fs.lookup f/v) (h5:Q v H1):Aq K f Q x H1
def oV(K:Gd)(ta:TE)(f:TQ):TE:=λσ H Q=>ta σ H λx H1=>Aq K f Q x H1
inductive zM(K:Gd)(f:TQ)(D:Ends)(σ:St)(y:V)(x:V)(H2:Hp):Prop
 |mk (a:_) (C:_) (dx:_) (fs:_) (h0:x=↑a) (h1:H2 a/.ins C dx fs) (h2:ie K C) (h3:Xh K C f) (h4:⇑fs<1000) (h5:D.nx σ (zj H2 a (.ins C dx (Y0 f y fs)))):zM K f D σ y x H2
def KU(K:Gd)(ta tv:TE)(f:TQ):TS:=λD σ H=>tv σ H λy H1=>ta σ H1 λx H2=>zM K f D σ y x H2
section
variable{X:Cx}{o e value:Ea}{f:TQ}{pos pos' tpos:MQ}{ta tv:TE}
theorem Qx(o:PE X e ta)(m:attributeBase e f X.env (eval e X.env)=eval e X.env:=by rfl):PE X (.Attribute e f pos) (oV X.K ta f):=by intro b s t H Q I h;refine WK m (Xf (o b s t H _ I h) λu z⟨x,d,g,r,a,C,w,y,v,k,j,c,n,l,q⟩=>?_);subst k;obtain rfl:u=Tq a:=r;exact XF g j c n l λB A i p=>⟨v,d,i,p,q⟩
theorem Xn(p:PE X o ta)(r:PE X value tv)(hs:swapsWith value (Ga (.Attribute o f pos')) pos.line X.env=pure Gx):PS X (.Assign [.Attribute o f pos'] value pos) (KU X.K ta tv f):=by intro b s d H D I h;refine plainObj_wpAny_Assign_Attribute (Xf (r b s d H _ I h) λu z⟨y,e,g,w,q⟩=>Xf (p b z d e _ g q) λov F⟨x,A,i,v,a,C,B,E,m,k,c,n,l,t⟩=>?_) hs;subst m;obtain rfl:ov=Tq a:=v;exact KR i k c n l w λG j=>{d,_,j,t}
theorem Q2u{m:TQ}{b:MQ}{args:List Ea}(r:PE X e te)(I:zx X zq σ H s)
  (h:te σ H λx H1=>∃a C n i g,x=.ref a/\H1 a/.ins C n i/\ie X.K C/\Ym X.K C m g/\i.lookup m=Gp/\
   ∀d,zx X zq σ H1 d->wpAny (TV X.prog X.w) X.A (callWith pos ↑g [↑a] (Se pos (T8 args X.env)) (backToKw pos (keywordEach [] X.env))) Q X.xe d)
  (ht:eval (.Call (.Attribute e m b) args [] pos) X.env=(do
   let ov<-eval e X.env
   standAt b.atName
   let(f,first)<-holding [ov] (getMethod ov m pl)
   callWith pos f first (Se pos (T8 args X.env)) (backToKw pos (keywordEach [] X.env)))):
  wpAny (TV X.prog X.w) X.A (eval (.Call (.Attribute e m b) args [] pos) X.env) Q X.xe s:=by
 refine Fn (pl:=pl) (Xf (r zq s σ H _ I h) λu d z=>?_) ht;have(x,H1,j,t,a,C,n,i,g,p,o,c,k,l,q):=z;subst p;obtain rfl:u=Tq a:=t;exact Om j o c k l (q d j)
end
section
variable{X:Cx}{zq:List (Ge×Lc)}{σ:St}{H:Hp}{s:Gw}{A:DW}{E:Gh->Gw->Prop}{Q:Gh->Gw->Prop}{c:Gh}{b:Bool}
inductive R3(K:Gd)(H:Hp):V->Gh->Prop where
 |non:R3 K H .non (.type "NoneType")
 |bl (x:Bool):R3 K H (.bl x) (.type "bool")
 |int (i:Int):R3 K H (.int i) (.type "int")
 |str (x:TQ):R3 K H (.str x) (.type "str")
 |flt (x:UInt64):R3 K H (.flt x) (.type "float")
 |lst {a:Ge} {xs:List V} (e:H a/.lst xs):R3 K H ↑a (.type "list")
 |frz {a:Ge} {o:Lc} {xs:List V} (e:H a/.frz o (.lst xs)):R3 K H ↑a (.type "list")
 |tup {a:Ge} {xs:List V} (e:H a/.tup xs):R3 K H ↑a (.type "tuple")
 |dK {a:Ge} {zw:List (Wl×V)} (e:H a/.dK zw):R3 K H ↑a (.type "dict")
 |dT {a:Ge} {zw:List (List Wl×V)} (e:H a/.dT zw):R3 K H ↑a (.type "dict")
 |ins {a C dx:Ge} {fs:List (TQ×V)} (e:H a/.ins C dx fs) (cl:ie K C) (ha:TM K ↑C "__class__"/Ga (.builtin "object.__class__"))
   (hn:IV K (.builtin "object.__class__") "__get__"/Ga (.builtin "getset_descriptor.__get__")) (htk:JU K (.builtin "object.__class__")/Gk)
   (hm:Ab K C (.type "object")/Gk):R3 K H ↑a ↑C
theorem vc{x:V}{t:Gh}(I:zx X zq σ H s)(c:zv x u)(ty:R3 X.K H x t):∃G,Af X.K u t G/\G s.heap/\u≠.builtin "__main__.__loader__#opaque":=by
 cases ty with
 |non=>cases(show u=DJ from c);exact{_,IW,Es,nofun}
 |bl y=>cases(show u=LC y from c);exact{_,IX,Es,nofun}
 |int i=>have(t,q):=(show∃t,u=MR i t from c);cases q;exact{_,JJ,Es,nofun}
 |str y=>have(t,q):=(show∃t,u=MT y t from c);cases q;exact{_,JK,Es,nofun}
 |flt y=>have(t,q):=(show∃t,u=Bw y t from c);cases q;exact{_,IB,Es,nofun}
 |@lst a f b=>cases(show u=Tq a from c);have(_,_,n,_,d):=(show Yr X.prog X.w H s.heap a (.lst f)from I.Yc a _ b);exact{_,RN,{_,d,1},nofun}
 |@frz a h f b=>cases(show u=Tq a from c);have(_,_,_,n,_,d):=(show Yr X.prog X.w H s.heap a (.frz h (.lst f))from I.Yc a _ b);exact{_,RN,{_,d,1},nofun}
 |@tup a f b=>cases(show u=Tq a from c);have(_,_,_,p):=(show Yr X.prog X.w H s.heap a (.tup f)from I.Yc a _ b);have(o,d,g,_):=p;exact{_,IC,⟨o,d,g⟩,nofun}
 |@dK a e b=>cases(show u=Tq a from c);have(_,_,h,_,p):=(show Yr X.prog X.w H s.heap a (.dK e)from I.Yc a _ b);have(o,l,k,d,g,_):=p;exact{_,RO,{o,d,g.1},nofun}
 |@dT a e b=>cases(show u=Tq a from c);have(_,_,f,_,o,l,k,d,g,_):=(show Yr X.prog X.w H s.heap a (.dT e)from I.Yc a _ b);exact{_,RO,{o,d,g.1},nofun}
 |@ins a C w z b j m v h r=>cases(show u=Tq a from c);have(A,O,_):=nK I.Yc b;have(B,J,_):=O.look;exact{_,JL (j.get _) j.hd m v h r,J,nofun}
theorem ZL{x:V}{t:Gh}(I:zx X zq σ H s)(g:zv x u)(ty:R3 X.K H x t)(e:TX X.K t c/b)(h:∀i,Q (.bool b) {s with toks:=i}):
  wpAny (TV X.prog X.w) A (call (.builtin "isinstance") [u,c]) Q E s:=by
 have(_,a,d,f):=vc I g ty;exact JV a I.kIn d e f h
end
structure Yd(k:Nat)(A:DW):Prop where
 hd:A.handled=Gp
 dp:A.depth+3*k+5<recursionLimit
 un:A.units+16*k+200<E3
variable{Q:VK}
theorem Yd.mono{j:Nat}(r:Yd k A)(h:j<=k):Yd j A:={r.hd,by have:=r.dp;lia,by have:=r.un;lia}
theorem Yd.deeper{k:Nat}{A:DW}(r:Yd (k+1) A)(a:Bh):Yd k (A.deeper a):=
 {r.hd,by have:=r.dp;show A.depth+1+3*k+5<_;lia,by have:=r.un;show A.units+3+16*k+200<_;lia}
theorem QO:(A.under (.builtin "type.__call__" {.ref C::us,kw})).depth=A.depth+1:=by first|rfl|simp[RP,Code.weight,Code.isCreation,Code.isGuard,Code.isCaller,HG,RQ,guardIds]
theorem Qmu:(A.under (.builtin "type.__call__" {.ref C::us,kw})).units=A.units+1:=by first|rfl|simp[RP,Code.cUnits,HG,RQ]
theorem Yd.make(r:Yd (k+1) A)(C:Ge)(b:List Gh)(a:List (TQ×Gh)):Yd k (A.under (.builtin "type.__call__" {.ref C::b,a})):=
 {r.hd,by have:=r.dp;rw[QO];ext,by have:=r.un;rw[Qmu];ext}
theorem Yd.depth{k:Nat}{A:DW}(r:Yd k A):A.depth<recursionLimit:=by have:=r.dp;ext
theorem Yd.units{k:Nat}{A:DW}(r:Yd k A):A.units+64<E3:=by have:=r.un;lia
def jB:TA:=λ_ H Q=>Q [] H
def jb(ta:TE)(a:TA):TA:=λσ H Q=>ta σ H λx H1=>a σ H1 λxs H2=>Q (x::xs) H2
section
variable{X:Cx}{e:Ea}{es:List Ea}{te:TE}{t:TA}{pos:MQ}
theorem Qe:PA X [] jB:=λ_ _ _ _ H Q I h=>Fi {[],H,I,.nil,h}
theorem Qa(j:PE X e te)(k:PA X es t)(hs:T8 (e::es) X.env=(Gx,eval e X.env)::T8 es X.env:=by rfl):PA X (e::es) (jb te t):=by intro b a s c H Q I h;rw[hs];show wpAny _ _ (spliced ((Gx,eval e X.env)::Se b (T8 es X.env))) _ _ s;refine Mf (Xf (j a s c H _ I h) λu p⟨x,d,g,n,l⟩=>?_);exact Xf (k b a p c d _ g l) λv r⟨q,f,i,o,m⟩=>{x::q,f,i,.cons n o,m}
def OQ(t:TA):TE:=λσ H Q=>t σ H λxs H1=>⇑xs<=TF/\∀p,H1 p=Gp->Q ↑p (zj H1 p (.tup xs))
def Q88(t:TA):TE:=λσ H Q=>t σ H λxs H1=>⇑xs<=TF/\∀p,H1 p=Gp->Q ↑p (zj H1 p (.lst xs))
theorem Zg{k}(h:PA X es t):PE X (.Tuple es k pos) (OQ t):=by intro a s m H Q I i;refine wpAny_Tuple_spliced (Xf (h pos a s m H _ I i) λj c⟨l,d,f,r,z,q⟩=>{by rw[<-⇑r];exact z,?_});have g:d c.heap.objs.size=Gp:=f.Yc.fresh (Gy _);refine{↑c.heap.objs.size,zj d c.heap.objs.size (.tup l),f.laid (t':=c.toks) (λb u e=>Gm _ e) (Gy _) ?_,1,q _ g};exact{z,j,r,{_,Tc _ Xb,10}}
theorem Zz(h:PA X es t):PE X (.List es pos) (Q88 t):=by intro a s l H Q I i;refine wpAny_List_spliced (Xf (h pos a s l H _ I i) λj c⟨k,d,f,r,z,q⟩=>{by rw[<-⇑r];exact z,?_});have g:d c.heap.objs.size=Gp:=f.Yc.fresh (Gy _);refine{↑c.heap.objs.size,zj d c.heap.objs.size (.lst k),f.laid (t':=c.toks) (λb u e=>Gm _ e) (Gy _) ?_,1,q _ g};exact{z,j,(0),r,Tc _ Xb}
end
abbrev Sp:=List V->Hp->VK->XK->Prop
abbrev iQ:=List Bh->Hp->Gw->XK->Gh->Gw->Prop
structure jS(P:Gn)(w:Ti)(K:Gd)(mg:TQ->Option Gh)(base:Heap)(A:DW)(outer:List Bh)(s:Gw)(H:Hp):Prop where
 frames:A.frames/outer
 mod:Mod K mg base
 bs:∀b o,base.get? b/o->s.heap.get? b/o/\H b=Gp
 bsz:base.objs.size<=s.heap.objs.size
 iF:s.heap.FunFrames base outer
 frf:∀b∈frs outer,H b=Gp
 Yc:Ox P w H s.heap
 bare:Mx s.gens
def CE(outer:List Bh)(P:Gn)(w:Ti)(H:Hp)(s:Gw)(Q:VK)(u:Gh)(s':Gw):Prop:=
 ∃v H',s'.os=s.os/\Mx s'.gens/\Un (frs outer) [] H H' s.heap s'.heap/\Ox P w H' s'.heap/\zv v u/\Q v H'
def CR(CX:iQ)(outer:List Bh)(P:Gn)(w:Ti)(H:Hp)(s:Gw)(Q:VK)(E:XK)(r:He)(s':Gw):Prop:=
 match r with
 |.ok (.ret u)=>CE outer P w H s Q u s'
 |.ok _=>False
 |.error e=>CX outer H s E e s'
structure Qz(P:Gn)(w:Ti)(K:Gd)(mg:TQ->Option Gh)(base:Heap)(CX:iQ)(k:Nat)(f:Ge)(fd:Du)(ps:List TQ)(sp:Sp):Prop where
 len:∀vs H Q E,sp vs H Q E->⇑vs=⇑ps
 run:∀(A:DW)(outer:List Bh)(s:Gw)(H:Hp)(args:Args)(us:List Gh)(vs:List V)(Q:VK)(E:XK),Yd k A->jS P w K mg base A outer s H->RS s fd args (ps.zip us)->Yh vs us->sp vs H Q E->
  codeAny (TV P w) A (.call ↑f args) (CR CX outer P w H s Q E) s
theorem jS.make{K:Gd}{b:Heap}{a:List Bh}(e:jS P w K mg b A a s H)(C:Ge)(d:List Gh)(c:List (TQ×Gh)):
  jS P w K mg b (A.under (.builtin "type.__call__" {.ref C::d,c})) a s H:={by first|exact e.frames|(simpa[RP,Code.envs,RQ,pushEnvs]using e.frames),e.mod,e.bs,e.bsz,e.iF,e.frf,e.Yc,e.bare}
section
variable{X:Cx}{zq:List (Ge×Lc)}{σ:St}{H:Hp}{s s':Gw}
theorem zx.uP(I:zx X zq σ H s):jS X.prog X.w X.K X.mg X.base X.A X.stack s H:=
 {I.ok.frames,I.ok.mod,I.bs,Dj I.ok.bsz I.sz,I.stack,I.xB,I.Yc,I.bare}
theorem zx.after(I:zx X zq σ H s)(h:CE X.stack X.prog X.w H s Q u s'):EP X zq σ Q u s':=by have(v,e,os,a,un,f,r,q):=h;have(i,g,d,t,c):=s';obtain rfl:c=s.os:=os;exact{v,e,I.call (h':=i) (g':=g) (d':=d) (t':=t) (ch:=[]) un f a (λb z=>absurd z ⋯),r,q}
end
def Q6x(sp:Sp)(dvs:List V)(E:XK)(t:TA):TE:=λσ H Q=>t σ H λa H1=>sp (a++dvs) H1 Q E
inductive zO(C:Ge)(m:TQ)(sp:Sp)(dvs:List V)(E:XK)(t:TA)(σ:St)(Q:VK)(x:V)(H1:Hp):Prop
 |mk (a:_) (dx:_) (fs:_) (h0:x=↑a) (h1:H1 a/.ins C dx fs) (h2:fs.lookup m=Gp) (h3:t σ H1 λvs H2=>sp (x::(vs++dvs)) H2 Q E):zO C m sp dvs E t σ Q x H1
def kY(C:Ge)(m:TQ)(sp:Sp)(dvs:List V)(E:XK)(ta:TE)(t:TA):TE:=λσ H Q=>ta σ H λx H1=>zO C m sp dvs E t σ Q x H1
def zb(C:Ge)(sp:Sp)(dvs:List V)(E:XK)(t:TA):TE:=λσ H Q=>t σ H λa H1=>∀x dx,H1 x=Gp->H1 dx=Gp->dx≠x->
 sp (.ref x::(a++dvs)) (zj (zj H1 dx (.own x)) x (.ins C dx [])) (λv H2=>v=.non/\Q ↑x H2) E
def zk(K:Gd)(fd:Du)(ps:List TQ)(ds:List Gh):Prop:=
 ∀(s:Gw)(a:List Gh),K.In s.heap->⇑(a++ds)=⇑ps->RS s fd {a,[]} (ps.zip (a++ds))
theorem zk.all{K:Gd}{b:Du}(h:∀a:List Gh,⇑a=⇑ps->bindArgs b {a,[]}=pure (ps.zip a)):zk K b ps []:=λs a _ c=>by rw[D2]at c⊢;exact .of_eq (h a c)
def R6(CX:iQ)(X:Cx)(E:XK):Prop:=∀(zq:List (Ge×Lc))(σ:St)(H:Hp)(s:Gw)(e:Gh)(s':Gw),zx X zq σ H s->CX X.stack H s E e s'->X.xe e s'
section
variable{X:Cx}{CX:iQ}{k:Nat}{f C:Ge}{fd:Du}{ps:List TQ}{sp:Sp}{dvs:List V}{ds:List Gh}{E:XK}{x m:TQ}{p pos apos:MQ}{e o:Ea}{es:List Ea}{ta:TE}{t:TA}
theorem sV(F:Qz X.prog X.w X.K X.mg X.base CX k f fd ps sp)(j:Yd k X.A)(d:zk X.K fd ps ds)(g:Yh dvs ds)(l:R6 CX X E)
  (I:zx X zq σ H s)(r:Yh vs us)(h:sp (vs++dvs) H Q E):wpAny (TV X.prog X.w) X.A (call ↑f us) (EP X zq σ Q) X.xe s:=by
 have b:Yh (vs++dvs) (us++ds):=r.append g;have i:⇑(us++ds)=⇑ps:=by rw[<-⇑b];exact F.len _ _ _ _ h
 refine ID (Nf (F.run X.A X.stack s H {us,[]} (us++ds) (vs++dvs) Q E j I.uP (d s us I.kIn i) b h) λr m a=>?_);cases r with
 |error e=>exact l zq σ H s e m I a
 |ok c=>
  cases c with
  |ret u=>exact I.after a
  |next=>exact False.elim a
  |brk=>exact False.elim a
  |cont=>exact False.elim a
theorem Ze(F:Qz X.prog X.w X.K X.mg X.base CX k f fd ps sp)(u:Yd k X.A)(m:Gl X x)(o:X.mg x/↑f)(n:Ee X.K ↑f=Gk)(i:zk X.K fd ps ds)(j:Yh dvs ds)(v:R6 CX X E)
  (g:PA X (e::es) t)(b:(x==("__debug__":TQ))=Gx:=by decide)(l:T8 (e::es) X.env=(Gx,eval e X.env)::T8 es X.env:=by rfl)(c:(Se pos (T8 es X.env)).any (·.1)=Gx:=by rfl):
  PE X (.Call (.Name x p) (e::es) [] pos) (Q6x sp dvs E t):=by
 intro a s w H Q I h;refine Et (pb I m o ?_ b);refine Mg (h₀:=X.base) I.ok.mod.kin n (Xf (g pos a s w H _ I h) λA z⟨B,y,d,r,q⟩=>{d.kIn,?_}) l c;exact sV F u i j v d r q
theorem Zk(D:PE X o ta)(c:ie X.K C)(n:Ym X.K C m f)(F:Qz X.prog X.w X.K X.mg X.base CX k f fd ps sp)(G:Yd k X.A)(A:zk X.K fd ps ds)(B:Yh dvs ds)(J:R6 CX X E)(z:PA X (e::es) t)
  (g:T8 (e::es) X.env=(Gx,eval e X.env)::T8 es X.env:=by rfl)(d:(Se pos (T8 es X.env)).any (·.1)=Gx:=by rfl)
  (ht:eval (.Call (.Attribute o m apos) (e::es) [] pos) X.env=(do
   let ov<-eval o X.env
   standAt apos.atName
   let(f,first)<-holding [ov] (getMethod ov m pl)
   callWith pos f first (Se pos (T8 (e::es) X.env)) (backToKw pos (keywordEach [] X.env))):=by rfl):
  PE X (.Call (.Attribute o m apos) (e::es) [] pos) (kY C m sp dvs E ta t):=by
 intro b s p H Q I h;refine Fn (pl:=pl) (Xf (D b s p H _ I h) λu M⟨x,v,i,L,a,O,P,y,w,l,q⟩=>?_) ht;subst y;obtain rfl:u=Tq a:=L;refine Om i w c n l ?_;refine Mg (first:=[↑a]) (h₀:=X.base) I.ok.mod.kin n.kp (Xf (z pos b M p v _ i q) λus R⟨vs,N,j,r,K⟩=>{j.kIn,?_}) g d;exact sV (us:=.ref a::us) (vs:=.ref a::vs) F G A B J j (.cons rfl r) K
theorem pK(p:PE X o ta)(c:ie X.K C)(e:Ym X.K C m f)(F:Qz X.prog X.w X.K X.mg X.base CX k f fd ps sp)(r:Yd k X.A)(j:zk X.K fd ps ds)(n:Yh dvs ds)(t:R6 CX X E)
  (ht:eval (.Call (.Attribute o m apos) [] [] pos) X.env=(do
   let ov<-eval o X.env
   standAt apos.atName
   let(f,first)<-holding [ov] (getMethod ov m pl)
   callWith pos f first (Se pos (T8 [] X.env)) (backToKw pos (keywordEach [] X.env))):=by rfl):
  PE X (.Call (.Attribute o m apos) [] [] pos) (kY C m sp dvs E ta jB):=by
 intro b s w H Q I h;refine Fn (pl:=pl) (Xf (p b s w H _ I h) λu B⟨x,y,d,v,a,z,A,i,g,l,q⟩=>?_) ht;subst i;obtain rfl:u=Tq a:=v;refine Om d g c e l ?_;exact NP (first:=[↑a]) d.kIn e.kp (sV (us:=[↑a]) (vs:=[↑a]) F r j n t d (.cons rfl .nil) q)
structure Mk(K:Gd)(C f:Ge):Prop where
 makes:SA K C=Gk
 init:TM K ↑C "__init__"/Ga ↑f
 fn:Dk K ↑f=Gk
 kp:Ee K ↑C=Gk
theorem wK(M:Mk X.K C f)(F:Qz X.prog X.w X.K X.mg X.base CX k f fd ps sp)(p:Yd (k+1) X.A)(m:zk X.K fd ps ds)(n:Yh dvs ds)
  (q:R6 CX X E)(I:zx X zq σ H s)(r:Yh vs us)
  (h:∀x c,H x=Gp->H c=Gp->c≠x->sp (.ref x::(vs++dvs)) (zj (zj H c (.own x)) x (.ins C c [])) (λv H2=>v=.non/\Q ↑x H2) E):
  wpAny (TV X.prog X.w) X.A (call ↑C us) (EP X zq σ Q) X.xe s:=by
 have d:=h (s.heap.objs.size+1) s.heap.objs.size (I.Yc.fresh (Fd _)) (I.Yc.fresh (Gy _)) (T9 (EZ _));have b:=zx.made (C:=C) I;have g:Yh (V.ref (s.heap.objs.size+1)::(vs++dvs)) (Tq (s.heap.objs.size+1)::(us++ds)):=.cons rfl (r.append n);have o:⇑(Tq (s.heap.objs.size+1)::us++ds)=⇑ps:=by have e:=⇑g;rw[F.len _ _ _ _ d]at e;exact e.symm
 refine ID (ZQ (f:=f) I.kIn M.makes M.init (Me.mp M.fn) (Nf (F.run _ X.stack _ _ {Tq (s.heap.objs.size+1)::us,[]} (Tq (s.heap.objs.size+1)::(us++ds)) _ _ E (p.make C us [])
  (b.uP.make C us []) (m _ (Tq (s.heap.objs.size+1)::us) b.kIn o) g d) λr y a=>?_))
 cases r with
 |error e=>exact q zq σ _ _ e y b a
 |ok l=>
  cases l with
  |ret u=>have(v,i,j,w,ev,t):=b.after a;subst ev;exact{w,{V.ref (s.heap.objs.size+1),i,j,1,t}}
  |next=>exact False.elim a
  |brk=>exact False.elim a
  |cont=>exact False.elim a
theorem rE(M:Mk X.K C f)(F:Qz X.prog X.w X.K X.mg X.base CX k f fd ps sp)(o:Yd (k+1) X.A)(m:Gl X x)(n:X.mg x/↑C)(i:zk X.K fd ps ds)(j:Yh dvs ds)(u:R6 CX X E)
  (g:PA X (e::es) t)(b:(x==("__debug__":TQ))=Gx:=by decide)(l:T8 (e::es) X.env=(Gx,eval e X.env)::T8 es X.env:=by rfl)(c:(Se pos (T8 es X.env)).any (·.1)=Gx:=by rfl):
  PE X (.Call (.Name x p) (e::es) [] pos) (zb C sp dvs E t):=by
 intro a s v H Q I h;refine Et (pb I m n ?_ b);refine Mg (h₀:=X.base) I.ok.mod.kin M.kp (Xf (g pos a s v H _ I h) λz y⟨A,w,d,r,q⟩=>{d.kIn,?_}) l c;exact wK M F o i j u d r q
theorem nR(M:Mk X.K C f)(F:Qz X.prog X.w X.K X.mg X.base CX k f fd ps sp)(i:Yd (k+1) X.A)(e:Gl X x)(g:X.mg x/↑C)(c:zk X.K fd ps ds)(d:Yh dvs ds)(j:R6 CX X E)
  (a:(x==("__debug__":TQ))=Gx:=by decide):PE X (.Call (.Name x p) [] [] pos) (zb C sp dvs E jB):=by
 intro b s l H Q I h;refine Et (pb I e g ?_ a);exact NP I.kIn M.kp (wK (us:=[]) M F i c d j I .nil h)
end
structure Q4(N P:List TQ)(sc:Nl):Prop where
 kind:sc.kind=.function
 co:sc.isCoroutine=Gx
 gen:sc.isGenerator=Gx
 nd:N.Nodup
 pre:N.take ⇑P=P
 par:∀x∈P,sc.names.lookup x/.local\/sc.names.lookup x/.cell
 Q4q:∀y∈sc.names,y.2≠.free
theorem vu{kindOf:TQ->Option FD}{x:TQ}:∀{a:List (TQ×Gh)}{m:TQ->Option Gh},(∀v,(x,v)∉a)->bindL kindOf a m x=m x
 |[],_,_=>rfl
 |(n,v)::r,m,h=>by
  unfold bindL;rw[vu λw hw=>h w (Gr _ hw)];split
  .have:x≠n:=by rintro rfl;exact h v G8
   simp[this]
  .rfl
theorem xQ{kindOf:TQ->Option FD}{x:TQ}:∀{a:List (TQ×Gh)}{m:TQ->Option Gh},(∀v,(x,v)∉a)->bindC kindOf a m x=m x
 |[],_,_=>rfl
 |(n,v)::r,m,h=>by
  unfold bindC;rw[xQ λw hw=>h w (Gr _ hw)];split
  .rfl
  .have:x≠n:=by rintro rfl;exact h v G8
   simp[this]
theorem zG{kindOf:TQ->Option FD}{x:TQ}{v:Gh}:∀{P:List TQ}{a:List Gh}{i:Nat}{m:TQ->Option Gh},P.Nodup->P[i]?/x->a[i]?/v->kindOf x/.local->
  bindL kindOf (P.zip a) m x/v
 |[],_,_,_,_,h,_,_=>by simp at h
 |_::_,[],_,_,_,_,h,_=>by simp at h
 |p::P,w::a,0,m,e,b,c,d=>by simp at b c;subst b;subst c;show bindL kindOf ((p,w)::P.zip a) m p=_;unfold bindL;rw[vu λv f=>(Dw.mp e).1 (No f).1,GY d];simp
 |p::P,w::a,i+1,m,e,b,c,d=>by show bindL kindOf ((p,w)::P.zip a) m x=_;unfold bindL;exact zG (i:=i) (Dw.mp e).2 (by simpa using b) (by simpa using c) d
theorem AR{kindOf:TQ->Option FD}{x:TQ}{v:Gh}:∀{P:List TQ}{a:List Gh}{i:Nat}{m:TQ->Option Gh},P.Nodup->P[i]?/x->a[i]?/v->kindOf x≠Ga .local->
  bindC kindOf (P.zip a) m x/v
 |[],_,_,_,_,h,_,_=>by simp at h
 |_::_,[],_,_,_,_,h,_=>by simp at h
 |p::P,w::a,0,m,e,b,c,d=>by simp at b c;subst b;subst c;show bindC kindOf ((p,w)::P.zip a) m p=_;unfold bindC;rw[xQ λv f=>(Dw.mp e).1 (No f).1,Gu d];simp
 |p::P,w::a,i+1,m,e,b,c,d=>by show bindC kindOf ((p,w)::P.zip a) m x=_;unfold bindC;exact AR (i:=i) (Dw.mp e).2 (by simpa using b) (by simpa using c) d
noncomputable def start(N:List TQ)(a:List V):St:=a.map Ga++D4 (⇑N - ⇑a) Gp
noncomputable def jH(CX:iQ)(P:Gn)(w:Ti)(K:Gd)(mg:TQ->Option Gh)(base:Heap)(N:List TQ)(qual:TQ)(scope:Nl)(f:Ge)(b:Gh)(A:DW)(outer:List Bh)(s:Gw)(H:Hp)(E:XK):Cx where
 prog:=P
 w:=w
 K:=K
 mg:=mg
 base:=base
 A:=A.deeper (envOfC qual scope s.heap.objs.size f b)
 N:=N
 s₀:=s
 H₀:=H
 env:=envOfC qual scope s.heap.objs.size f b
 outer:=outer
 stack:=envOfC qual scope s.heap.objs.size f b::outer
 ex:=[]
 calm:=Gk
 fn:=λ_=>Gk
 pn:=[]
 xe:=λe s'=>wpAny (TV P w) (A.deeper (envOfC qual scope s.heap.objs.size f b)) (leaving (envOfC qual scope s.heap.objs.size f b) e) (λ_ a=>CX outer H s E e a) (λc a=>CX outer H s E c a) s'
theorem vk{a:Nl}(h:a.names.lookup x/.cell):∃c,(cellsFrom n a.names []).lookup x/c:=by have q:=Ng a.names n [] (.inl h);exact MF.mp q
theorem OL{F:iQ}{K:Gd}{l:Heap}{g:TQ}{scope:Nl}{f:Ge}{C:Gh}{d:List Bh}{J:Gw}{E:XK}
  (S:Q4 N ps scope)(M:A.handled=Gp)(m:jS P w K mg l A d s H)(a:⇑vs=⇑ps)(r:Yh vs us)
  (x:InCallC s s.heap.objs.size (bindL (envOfC g scope s.heap.objs.size f C).kindOf (ps.zip us) λ_=>Gp) (cellsFrom (s.heap.objs.size+1) scope.names []) (bindC (envOfC g scope s.heap.objs.size f C).kindOf (ps.zip us) λ_=>Gp) J):
  zx (jH F P w K mg l N g scope f C A d s H E) [] (start N vs) H J:=by
 have a:⇑ps<=⇑N:=by have:=congrArg Sk S.pre;rw[Dq]at this;lia
 have(D,R,rfl,G):=x.done;have o:∀b:Ge,b∉(jH F P w K mg l N g scope f C A d s H E).ex:=λb z=>absurd (show b∈([]:List Ge)from z) ⋯;exists {m.mod,S.kind,11,Gy _,λy z c D j=>?_,λy n=>?_,λy c _ h=>?_,λ_=>M,Around.frames_deeper m.frames,.inr ⟨Xb,Xb⟩,λb z=>absurd z (o b),m.bs,m.bsz,λb _ _=>o b,λb z=>absurd z (o b),m.iF,m.frf},
  Xb,m.bare,Un.kept G,{_,x.toInCall.ns,λi y v D j Q=>?_},λy c h=>{_,x.cell y c h},m.Yc.fresh (Gy _),λy c h=>?_,λp t=>absurd (show p∈([]:List (Ge×Lc))from t) ⋯,m.Yc.kept G
 .exact name_of_addr x.apart (EB D) (EB j)
 .have n:scope.names.lookup y/.cell\/scope.names.lookup y/.free:=n;rcases n with n|n
  .exact vk n
  .exact absurd rfl (S.Q4q _ (EB n))
 .exact FU (x.above y c (EB h))
 .have hi:i<⇑vs:=by
   unfold start at j;by_cases hi:i<⇑vs
   .exact hi
   .rw[Dc (by simpa using hi)]at j;rw[MU]at j;split at j<;>cases j
  have L:vs[i]?/v:=by
   unfold start at j;rw[Tz (by simpa using hi),Ta]at j;cases e:vs[i]? with
   |none=>rw[e]at j;cases j
   |some a=>rw[e]at j;cases j;rfl
  have(u,I,O):=r.get L;have t:ps[i]?/y:=by rw[<-S.pre,Dx (by lia)];exact D
  have B:ps.Nodup:=by rw[<-S.pre];exact S.nd.sublist (List.take_sublist _ _)
  exists u,O;rcases S.par y (Gc t)with k|k
  .exact .inl {k,zG B t I k}
  .obtain⟨c,e⟩:=vk (n:=s.heap.objs.size+1) k;refine .inr {.inl k,c,e,?_};have q:=x.cell y c e;rw[AR B t I (by show scope.names.lookup y≠_;rw[k];decide)]at q;exact q
 .exact m.Yc.fresh (FU (x.above y c (EB h)))
 .unfold start;show _=⇑N;rw[Gs,Gq,Sw];lia
theorem WL{m:iQ}{K:Gd}{o:Heap}{i:Ge}{M g:TQ}{O:Arguments}{scope:Nl}{G kV H Q f ct oc:Gh}{F od:Option Ge}
  {ac:Array (Option Gh)}{E:Sp}(lk:K.lookup i=Ga {oc,od,.func (EK M g O body scope G kV H Q F f ct),ac})(Y:F0 K f g=Gk)(S:Q4 N ps scope)
  (L:∀c a b d,E c a b d->⇑c=⇑ps)
  (X:∀(h:DW)(j:List Bh)(s:Gw)(a:Hp)(c:List V)(b:VK)(d:XK),Yd k (h.deeper (envOfC g scope s.heap.objs.size i f))->E c a b d->
   ∃t,Wf (jH m P w K mg o N g scope i f h j s a d) body t/\t {nx:=λ_ H'=>b .non H',rt:=b} (start N c) a):
  Qz P w K mg o m (k+1) i (EK M g O body scope G kV H Q F f ct) ps E:=by
 refine{L,λh j s a ae us c b d A l W ad J=>?_};have hl:=L _ _ _ _ J;have KX:K.In s.heap:=l.mod.kin.keeps λz B p=>(l.bs z B p).1;have ab:s.heap.NoLimit:=l.mod.nolimit.keeps λz B p=>(l.bs z B p).1;have aa:∀y∈ps.zip us,scope.names.lookup y.1/.local\/(scope.names.lookup y.1/.cell/\((cellsFrom (s.heap.objs.size+1) scope.names []).lookup y.1).isSome=Gk):=λ⟨n,v⟩hy=>by
  rcases S.par n (No hy).1 with q|q
  .exact .inl q
  .exact .inr {q,Ng _ _ _ (.inl q)}
 refine codeAny_call_function A.depth (KX _ _ lk) rfl S.co S.gen rfl (IE KX Y) (W _ _ _ _ ?_);refine wpAny_newFunctionEnv_cells S.kind aa λaf Z R x=>?_;subst Z;refine{ab.keeps x.toInCall.keep,codeAny_func ?_};have(t,ht,hq):=X h j s a c b d (A.deeper _) J;have T:zx (jH m P w K mg o N g scope i f h j s a d) [] (start N c) a R:=OL S A.hd l hl ad x;refine E1 (ht [] R (start N c) a _ T hq) (λU D hs=>?_) λp D hs=>hs;have I:∀{r:St}{H':Hp}{v:V}{u:Gh},zx (jH m P w K mg o N g scope i f h j s a d) [] r H' D->zv v u->b v H'->CE j P w a s b u D:=
  λ{r H' v u}e C q=>{v,H',e.os,e.bare,e.base,e.Yc,C,q}
 cases U with
 |ret u=>have(v,r,H',e,C,q):=hs;exact I e C q
 |next=>have(r,H',e,q):=hs;exact I (v:=V.non) (u:=DJ) e rfl q
 |brk=>have(_,_,_,q):=hs;exact False.elim q
 |cont=>have(_,_,_,q):=hs;exact False.elim q
section
variable{X:Cx}{x:TQ}{p pos:MQ}{e:Ea}{es:List Ea}{t:TA}{id T:String}{r:List V->Hp->VK->Prop}
def tCB(r:List V->Hp->VK->Prop)(t:TA):TE:=λσ H Q=>t σ H λa H1=>r a H1 Q
theorem Qp(j:Us X (.builtin id) r)(l:Gl X x)(m:X.mg x=Gp)(o:bootBuiltins x/.builtin id)(i:PA X (e::es) t)(n:x≠"__name__":=by decide)(b:(x==("__debug__":TQ))=Gx:=by decide)
  (k:T8 (e::es) X.env=(Gx,eval e X.env)::T8 es X.env:=by rfl)(c:(Se pos (T8 es X.env)).any (·.1)=Gx:=by rfl):PE X (.Call (.Name x p) (e::es) [] pos) (tCB r t):=by
 intro a s d H Q I h;refine Et (Uk I l m o ?_ n b);exact Bk (Xf (i pos a s d H _ I h) λw v⟨y,f,g,u,q⟩=>j a v d f y w Q g u q) k c
theorem Yq(j:Us X (.type T) r)(l:Gl X x)(m:X.mg x=Gp)(o:bootBuiltins x/.type T)(i:PA X (e::es) t)(n:x≠"__name__":=by decide)(b:(x==("__debug__":TQ))=Gx:=by decide)
  (k:T8 (e::es) X.env=(Gx,eval e X.env)::T8 es X.env:=by rfl)(c:(Se pos (T8 es X.env)).any (·.1)=Gx:=by rfl):PE X (.Call (.Name x p) (e::es) [] pos) (tCB r t):=by
 intro a s d H Q I h;refine Et (Uk I l m o ?_ n b);exact Eo (Xf (i pos a s d H _ I h) λw v⟨y,f,g,u,q⟩=>j a v d f y w Q g u q) k c
end
end L2
namespace HT
open PySem PyProof.Rows
section
variable{prog:Gn}{w:Ti}{A:DW}{E:Gh->Gw->Prop}{s:Gw}
noncomputable def Vf(n d:Nat):Option Int->Nat
 |none=>d
 |some v=>if v<0 then(v+(n:Int)).toNat else min v.toNat n
theorem R0(n d:Nat):Vf n d Gp=d:=rfl
theorem Ib(n d k:Nat):Vf n d (Ga (k:Int))=min k n:=by show(if(k:Int)<0 then((k:Int)+(n:Int)).toNat else min (k:Int).toNat n)=min k n;rw[Gu (by lia),EE]
theorem QD(n d:Nat)(b:d<=n)(o:Option Int):Vf n d o<=n:=by
 cases o with
 |none=>exact b
 |some v=>
  show(if v<0 then(v+(n:Int)).toNat else min v.toNat n)<=n;by_cases a:v<0
  .rw[GY a];lia
  .rw[Gu a];exact Bl _ _
theorem tW(v:Int)(n d:Nat):(if v<0 then max (v+(n:Int)) 0 else min v (n:Int))=((Vf n d (Ga v):Nat):Int):=by
 show(if v<0 then max (v+(n:Int)) 0 else min v (n:Int))=(((if v<0 then(v+(n:Int)).toNat else min v.toNat n):Nat):Int);by_cases a:v<0
 .simp only[GY a];lia
 .simp only[Gu a];lia
theorem Qoj(a hi:Option Int)(n:Nat):LK a hi 1 (n:Int)=(((Vf n 0 a:Nat):Int),((Vf n n hi:Nat):Int)):=by
 have b:¬((1:Int)<0):=by ext
 unfold LK;simp only[b,EN];refine RT ?_ ?_
 .cases a with
  |none=>rfl
  |some v=>exact tW v n 0
 .cases hi with
  |none=>rfl
  |some v=>exact tW v n n
theorem Qm3(i j:Nat):Sy (i:Int) (j:Int) 1=j - i:=by
 unfold Sy;have a:(1:Int)>0:=by lia
 simp only[a,Fz,Hf];split<;>lia
theorem A6{v:Gh}{o:Option Int}{Q:Option Int->Gw->Prop}(p:RA v o)(h:Q o s):wpAny (TV prog w) A (BC v) Q E s:=by
 cases p with
 |none=>exact BO h
 |int i t=>exact slicePart_int h
theorem Qcg{f:Ge}{d e:Gh}{a hi:Option Int}{n:Nat}{Q:Int×Int×Nat->Gw->Prop}(hs:s.heap.IsSliceOf f d e .none)(i:RA d a)(j:RA e hi)
  (h:Q (((Vf n 0 a:Nat):Int),1,Vf n n hi - Vf n 0 a) s):wpAny (TV prog w) A (Mh ↑f (pure (n:Int))) Q E s:=by
 have(os,c,g,b):=id hs;unfold Mh Cc;refine Gb (Gb (Do c b (x:=d) rfl (Gb (Do c b (x:=e) rfl (Gb (Do c b (x:=.none) rfl (Gj ?_)))))));refine Gb (BO ?_);show wpAny _ _ (if((1:Int)==0)=Gk then _ else _) _ _ s;rw[Gu (by decide)];refine Gb (A6 i (Gb (A6 j (Gb (Gj ?_)))));show wpAny _ _ (match LK a hi 1 (n:Int)with|(a,hi)=>pure (a,(1:Int),Sy a hi 1)) _ _ s;rw[Qoj a hi n];show wpAny _ _ (pure (((Vf n 0 a:Nat):Int),(1:Int),Sy ((Vf n 0 a:Nat):Int) ((Vf n n hi:Nat):Int) 1)) _ _ s;rw[Qm3];exact Gj h
theorem P8(a:Array Gh)(i k:Nat):((So k).filterMap λ(m:Nat)=>a[((i:Int)+(m:Int)*1).toNat]?).toArray=((a.toList.drop i).take k).toArray:=by
 have e:(λ(m:Nat)=>a[((i:Int)+(m:Int)*1).toNat]?)=λm=>a[i+m]?:=by
  funext m
  have:((i:Int)+(m:Int)*1).toNat=i+m:=by lia
  rw[this]
 rw[e];have:=pick_run a i k;rw[List.filterMap_map]at this;have b:((λx=>a[x]?)∘λx=>i+x)=λm=>a[i+m]?:=rfl;rw[b]at this;rw[this]
theorem Qa5{t i:Ge}{a:Array Gh}{j k:Gh}{c hi:Option Int}{Q:Gh->Gw->Prop}(ht:IsTup s.heap t a)(hs:s.heap.IsSliceOf i j k .none)(n:RA j c)(o:RA k hi)
  (hw:¬(Vf a.size 0 c=0/\Vf a.size a.size hi=a.size))
  (h:Q ↑s.heap.objs.size {s with heap:=s.heap.push {cls:=.type "tuple",data:=.seq ((a.toList.drop (Vf a.size 0 c)).take (Vf a.size a.size hi - Vf a.size 0 c)).toArray}})
  (m:a.size<=TF):wpAny (TV prog w) A (getItem ↑t ↑i) Q E s:=by
 have b:sizeOk (.seq ((a.toList.drop (Vf a.size 0 c)).take (Vf a.size a.size hi - Vf a.size 0 c)).toArray):=by show((a.toList.drop (Vf a.size 0 c)).take (Vf a.size a.size hi - Vf a.size 0 c)).toArray.size<=TF;rw[Ts,Dq,Bm,DI];ext
 have p:Vf a.size a.size hi<=a.size:=QD _ _ (Gy _) hi;have(os,g,e,l):=id hs;have d:s.TypeIs ↑i "slice":=⟨os,g,e⟩;unfold getItem;try with_reducible refine Ej ?_
 first|refine Gb (Gj ?_)|skip
 refine Gb (wpAny_sequenceKey ht.typeIs (by decide) ?_);refine Gb (Dz (name:=Ev "__getitem__") ht.typeIs SS
  (Dy SS ht.typeIs entry_tuple_getitem ?_ (args_tuple_getitem _ _)))
 show wpAny _ _ (Mi ↑t>>=_) _ _ s;refine Gb (tupleItemsOf_ ht ?_);refine Gb (Hg d ?_);rw[GY (by decide)];refine Gb (Qcg hs n o ?_);have f:¬((((Vf a.size 0 c:Nat):Int)==0&&(1:Int)==1&&(Vf a.size a.size hi - Vf a.size 0 c)==a.size)=Gk):=by intro q;rw[Df,Df]at q;have m:((Vf a.size 0 c:Nat):Int)=0:=eq_of_beq q.1.1;have r:Vf a.size a.size hi - Vf a.size 0 c=a.size:=eq_of_beq q.2;exact hw {by ext,by ext}
 show wpAny _ _ (if(((Vf a.size 0 c:Nat):Int)==0&&(1:Int)==1&&(Vf a.size a.size hi - Vf a.size 0 c)==a.size)=Gk then _ else _) _ _ s;rw[Gu f,P8];first
  |exact Gb (m:=SN _) (DE (Gj ⟨_,Xb,Gj h⟩) b)
  |exact Gb (m:=SN _) (DE (Gb (Gj (Gj ⟨_,Xb,Gj h⟩))) b)
  |exact Gb (Gb (m:=SN _) (DE (Gj (Gj ⟨_,Xb,Gj h⟩)) b))
  |exact Gb (Gb (m:=SN _) (DE (Gj ⟨_,Xb,Gj h⟩) b))
end
end HT
namespace L2
open PySem PySem.Spec PyProof.Rows
variable{n t':Nat}{α:Type}{H H':Hp}{s:Gw}{u:Gh}{y:V}{P:Gn}{w:Ti}{zw:List (List Wl×V)}{xs:List (List Wl×Ge×Gh)}{b a:Ge}{Q:Gh->Gw->Prop}
abbrev TO:=St->Hp->(Option Int->Hp->Prop)->Prop
def PO(X:Cx)(e:Option Ea)(t:TO):Prop:=
 ∀(zq:List (Ge×Lc))(s:Gw)(σ:St)(H:Hp)(Q:Option Int->Hp->Prop),zx X zq σ H s->t σ H Q->
  wpAny (TV X.prog X.w) X.A (evalPart e X.env) (λu s'=>∃o H',zx X zq σ H' s'/\RA u o/\Q o H') X.xe s
def UH:TO:=λ_ H Q=>Q Gp H
inductive Kc(Q:Option Int->Hp->Prop)(x:V)(H1:Hp):Prop
 |mk (i:_) (h0:x=.int i) (h1:Q (Ga i) H1):Kc Q x H1
def OG(t:TE):TO:=λσ H Q=>t σ H λx H1=>Kc Q x H1
section
variable{X:Cx}{e:Ea}{te:TE}{lo hi:Option Ea}{tl th:TO}{pos p2:MQ}
theorem Xl:PO X Gp UH:=by intro a s b H Q I h;rw[CH];exact Gj {Gp,H,I,.none,h}
theorem Yn(h:PE X e te):PO X (Ga e) (OG te):=by intro a s g H Q I hw;rw[evalPart_some];refine Xf (h a s g H _ I hw) λu j⟨x,b,c,f,d⟩=>?_;have(i,rfl,q):=d;have(t,rfl):=f;exact{Ga i,b,c,.int i t,q}
def p8(X:Cx)(r:V->Option Int->Option Int->Hp->VK->Prop):Prop:=
 ∀(zq:List (Ge×Lc))(s:Gw)(σ:St)(H:Hp)(x:V)(v b c:Gh)(lo hi:Option Int)(a:Ge)(Q:VK),zx X zq σ H s->zv x v->s.heap.IsSliceOf a b c .none->RA b lo->RA c hi->r x lo hi H Q->
  ∃T id,typeLookup (.type T) "__getitem__"=pure (Ga (.builtin id))/\s.TypeIs v T/\wpAny (TV X.prog X.w) X.A (getItem v ↑a) (EP X zq σ Q) X.xe s
def tSl(r:V->Option Int->Option Int->Hp->VK->Prop)(te:TE)(tl th:TO):TE:=λσ H Q=>te σ H λx H1=>tl σ H1 λl H2=>th σ H2 λu a=>r x l u a Q
theorem Yg{r:V->Option Int->Option Int->Hp->VK->Prop}(A:p8 X r)(w:PE X e te)(z:PO X lo tl)(B:PO X hi th):PE X (.Subscript e (.Slice lo hi Gp p2) pos) (tSl r te tl th):=by intro a s d H Q I h;refine BP (Xf (w a s d H _ I h) λv K⟨x,j,m,J,E⟩=>?_);refine wpAny_Slice (Xf (z a K d j _ m E) λf L⟨l,k,n,C,F⟩=>Xf (B a L d k _ n F) λg c⟨u,i,o,D,G⟩=>?_);rw[CH];refine Gj ?_;have p:zx X a d i {c with heap:=c.heap.push {cls:=.type "slice",data:=.fields #[f,g,.none]}}:=o.kept (t':=c.toks) λb M q=>Gm _ q;have(T,id,t,ht,y):=A a {c with heap:=c.heap.push {cls:=.type "slice",data:=.fields #[f,g,.none]}} d i x v f g l u c.heap.objs.size Q p J (IF ..) C D G;show wpAny (TV X.prog X.w) X.A (subscriptTail e (.Slice lo hi Gp p2) v ↑c.heap.objs.size) (EP X a d Q) X.xe {c with heap:=c.heap.push {cls:=.type "slice",data:=.fields #[f,g,.none]}};exact tail_any (ops:=[↑c.heap.objs.size,v]) ht t y (by with_unfolding_all rfl)
noncomputable def U8(xs:List V)(lo hi:Option Int):List V:=(xs.drop (HT.Vf ⇑xs 0 lo)).take (HT.Vf ⇑xs ⇑xs hi - HT.Vf ⇑xs 0 lo)
theorem xE(a:List V)(b hi:Option Int):⇑(U8 a b hi)<=⇑a:=by unfold U8;rw[Dq,Bm];ext
inductive yI(K:Gd)(x:V)(lo:Option Int)(hi:Option Int)(H:Hp)(Q:VK):Prop
 |mk (a:_) (xs:_) (h0:x=↑a) (h1:hB K H a xs) (h2:¬(HT.Vf ⇑xs 0 lo=0/\HT.Vf ⇑xs ⇑xs hi=⇑xs)) (h3:∀p,H p=Gp->Q ↑p (zj H p (.tup (U8 xs lo hi)))):yI K x lo hi H Q
def AC(K:Gd):V->Option Int->Option Int->Hp->VK->Prop:=λx lo hi H Q=>yI K x lo hi H Q
theorem Um:p8 X (AC X.K):=by
 intro i s u H x v p t e hi o Q I m hs k l h;have(a,d,rfl,j,hw,q):=h;cases m;have(f,r,ht,g):=I.tuple j;have c:f.toArray.size=⇑d:=by rw[Ts];exact r.length.symm
 exists "tuple",_,SS.lookup,ht.typeIs;refine HT.Qa5 ht hs k l (by rw[c];exact hw) ?_ (by rw[c];exact g);rw[c];refine{↑s.heap.objs.size,_,I.laid (t':=s.toks) (o:=.tup (U8 d e hi)) (λb n q=>Gm _ q) (Gy _) ?_,1,q _ (I.Yc.fresh (Gy _))};exact{Dj (xE d e hi) g,_,(r.drop (HT.Vf ⇑d 0 e)).take (HT.Vf ⇑d ⇑d hi - HT.Vf ⇑d 0 e),JM _ _}
end
noncomputable def ixN(n:Nat)(i:Int):Option Nat:=if 0<=i then(if i<n then Ga i.toNat else Gp)else if -(n:Int)<=i then Ga (i+n).toNat else Gp
def Rt{α:Type}(xs:List α)(i:Int):Option α:=(ixN ⇑xs i).bind λj=>xs[j]?
theorem QT{i:Int}{j:Nat}(h:ixN n i/j):seqIndex? i n/j/\j<n/\ -(n:Int)<=i/\i<n:=by
 unfold ixN at h;by_cases b:0<=i
 .rw[GY b]at h;by_cases a:i<n
  .rw[GY a]at h;have e:i.toNat=j:=T1 h;exact{by rw[HH b a,e],by lia,by lia,a}
  .rw[Gu a]at h;cases h
 .rw[Gu b]at h;by_cases a: -(n:Int)<=i
  .rw[GY a]at h;have e:(i+n).toNat=j:=T1 h;exact{by rw[Hh (by lia) a,e],by lia,a,by lia}
  .rw[Gu a]at h;cases h
theorem pI{a:List α}{i:Int}{v:α}(h:Rt a i/v):∃j,seqIndex? i ⇑a/j/\a[j]?/v/\j<⇑a/\ -(⇑a:Int)<=i/\i<⇑a:=by
 unfold Rt at h;cases e:ixN ⇑a i with
 |none=>rw[e]at h;cases h
 |some j=>rw[e]at h;have(b,c,d,f):=QT e;exact⟨j,b,h,c,d,f⟩
theorem Zi{xs:List α}{j:Nat}{v:α}(h:xs[j]?/v):Rt xs (j:Int)/v:=by
 have a:j<⇑xs:=(Gg.mp h).1;have e:ixN ⇑xs (j:Int)/j:=by unfold ixN;rw[GY (by lia),GY (by lia)];simp
 unfold Rt;rw[e];exact h
theorem jf{a b c:α}{d:List α}:Rt (a::b::c::d) ((2:Nat):Int)/c:=Zi rfl
theorem X8{a b:α}{c:List α}:Rt (a::b::c) ((1:Nat):Int)/b:=Zi rfl
theorem Yo{a:α}{b:List α}:Rt (a::b) ((0:Nat):Int)/a:=Zi rfl
theorem XU(a:List α)(v:α):Rt (a++[v]) (-1)/v:=by
 have b:⇑(a++[v])=⇑a+1:=by simp
 have e:ixN ⇑(a++[v]) (-1)/⇑a:=by unfold ixN;rw[b,Gu (by decide),GY ∅];congr 1;ext
 unfold Rt;rw[e];show(a++[v])[⇑a]?/v;simp
def Ph(b:Ea):Prop:=∀o i,subscripted b Gx o i=operate [o,i] (getItem o i)
def iV(X:Cx)(r:R2):Prop:=
 ∀(value a:Ea)(zq:List (Ge×Lc))(s:Gw)(σ:St)(H:Hp)(x y:V)(v u:Gh)(Q:VK),zx X zq σ H s->zv x v->zv y u->r x y H Q->
  subscripted a Gx v u=operate [v,u] (getItem v u)->wpAny (TV X.prog X.w) X.A (subscriptTail value a v u) (EP X zq σ Q) X.xe s
def i4(X:Cx)(id:String)(r:V->List V->Hp->VK->Prop):Prop:=
 ∀(zq:List (Ge×Lc))(s:Gw)(σ:St)(H:Hp)(x:V)(xs:List V)(v:Gh)(a:List Gh)(Q:VK),zx X zq σ H s->zv x v->Yh xs a->r x xs H Q->
  wpAny (TV X.prog X.w) X.A (call (.builtin id) (v::a)) (EP X zq σ Q) X.xe s
section
variable{X:Cx}{a b:Ea}{ta tb:TE}{pos:MQ}
theorem iV.or{r d:R2}(h:iV X r)(i:iV X d):iV X (λx y H Q=>r x y H Q\/d x y H Q):=by
 intro b a c s g H x y v u Q I e f q hs;rcases q with q|q
 .exact h b a c s g H x y v u Q I e f q hs
 .exact i b a c s g H x y v u Q I e f q hs
theorem Qn{r:R2}(i:iV X r)(f:PE X a ta)(g:PE X b tb)(hs:Ph b:=by infer_instance):PE X (.Subscript a b pos) (tOp r ta tb):=by intro c s m H Q I h;exact BP (so f g I h λv u l x y d e j k q=>i a b c l m d x y v u Q e j k q (hs _ _))
inductive t9(K:Gd)(x:V)(y:V)(H:Hp)(Q:VK):Prop
 |mk (p:_) (xs:_) (i:_) (v:_) (h0:x=↑p) (h1:y=.int i) (h2:Vh K H p xs) (h3:Rt xs i/v) (h4:Q v H):t9 K x y H Q
def m9(K:Gd):R2:=λx y H Q=>t9 K x y H Q
inductive zc(K:Gd)(x:V)(y:V)(H:Hp)(Q:VK):Prop
 |mk (p:_) (xs:_) (i:_) (v:_) (h0:x=↑p) (h1:y=.int i) (h2:hB K H p xs) (h3:Rt xs i/v) (h4:Q v H):zc K x y H Q
def jx(K:Gd):R2:=λx y H Q=>zc K x y H Q
inductive Kd(x:V)(y:V)(H:Hp)(Q:VK):Prop
 |mk (z:_) (i:_) (c:_) (h0:x=.str z) (h1:y=.int i) (h2:⇑z<=TF) (h3:Rt z.cps.toList i/c) (h4:Q (.str ⟨#[c]⟩) H):Kd x y H Q
def vM:R2:=λx y H Q=>Kd x y H Q
theorem Q9:iV X (m9 X.K):=by
 intro l k a s o H x y v u Q I G J h hs;have(p,O,i,z,rfl,rfl,F,D,q):=h;cases G;have(t,rfl):=J;have(e,r,f,N):=I.list F;have(j,c,A,L,B,C):=pI D;have(w,m,g):=r.get A;have E:=⇑r;have M:=O9;have b:EP X a o Q w s:=⟨z,H,I,g,q⟩;by_cases n:0<=i
 .have d:i.toNat=j:=by rw[HH n C]at c;exact T1 c
  exact item_listR f.isList n (by lia) (by rw[d];simpa using m) b hs
 .have d:(i+(e.toArray.size:Int)).toNat=j:=by rw[Hh (by lia) B]at c;rw[Ts,<-E];exact T1 c
  exact Fj (x:=w) f.isList.typeIs slot_list_getitem.lookup
   (wpAny_getItem_list_neg (Q:=λr K=>r=w/\EP X a o Q r K) f.isList (by lia) (by rw[Ts]<;>lia) (by lia) (by rw[d];simpa using m) ⟨Xb,b⟩) hs
theorem Qt:iV X (jx X.K):=by
 intro e d a s g H x y v u Q I C D h hs;have(p,M,i,z,rfl,rfl,A,n,q):=h;cases C;have(t,rfl):=D;have(B,r,f,L):=I.tuple A;have(j,l,m,F,G,J):=pI n;have(w,k,c):=r.get m;have o:=⇑r;have K:=O9;have b:EP X a g Q w s:=⟨z,H,I,c,q⟩;exact Fj (x:=w) f.typeIs slot_tuple_getitem.lookup
  (getItem_tuple (j:=j) (Q:=λr E=>r=w/\EP X a g Q r E) f ∅ ∅ (by rw[Ts,<-o];exact l) (by simpa using k) ⟨Xb,b⟩) hs
theorem yf:iV X vM:=by
 intro b a e s D H x y v u Q I p r h hs;have(z,i,c,rfl,rfl,B,n,q):=h;have(t,rfl):=p;have(C,rfl):=r;have(j,d,k,w,l,m):=pI n;have o:⇑z.cps.toList=⇑z:=by simp[Str.length]
 rw[o]at d l m;have A:=O9;exact tail_any (IG s z t) slot_str_getitem.lookup (getItem_str (c:=c) (by have f:decide (i< -(2^63:Int))=Gx:=Tj (by lia);have g:decide (i>=2^63)=Gx:=Tj (by lia);rw[f,g,CI]) (by rw[d];simpa using k) {.str ⟨#[c]⟩,H,I.tok _,{40},q}) hs
def rIx(K:Gd):R2:=λx y H Q=>m9 K x y H Q\/jx K x y H Q\/vM x y H Q
theorem tV:iV X (rIx X.K):=Q9.or (Qt.or yf)
theorem OE(a hi:Option Int)(n:Nat):(sliceBounds a hi Gp n).1=((HT.Vf n 0 a:Nat):Int)/\(sliceBounds a hi Gp n).2.1=((HT.Vf n n hi:Nat):Int)/\(sliceBounds a hi Gp n).2.2=1:=by
 refine{?_,?_,1}
 .cases a with
  |none=>simp[sliceBounds,HT.Vf]
  |some i=>
   simp only[sliceBounds,HT.Vf,Bn,show(1:Int)>0 by decide,Fz];by_cases h:i<0
   .simp only[h,Fz]<;>lia
   .simp only[h,EN]<;>lia
 .cases hi with
  |none=>simp[sliceBounds,HT.Vf]
  |some i=>
   simp only[sliceBounds,HT.Vf,Bn,show(1:Int)>0 by decide,Fz];by_cases h:i<0
   .simp only[h,Fz]<;>lia
   .simp only[h,EN]<;>lia
theorem XI(a:List Gh)(b hi:Option Int):slicePick a.toArray b hi Gp=((a.drop (HT.Vf ⇑a 0 b)).take (HT.Vf ⇑a ⇑a hi - HT.Vf ⇑a 0 b)).toArray:=by have(c,d,e):=OE b hi a.toArray.size;unfold slicePick;rw[c,d,e];simp only[sliceRange_one,pick_run,Ts]<;>rfl
inductive xu(K:Gd)(x:V)(lo:Option Int)(hi:Option Int)(H:Hp)(Q:VK):Prop
 |mk (a:_) (xs:_) (h0:x=↑a) (h1:Vh K H a xs) (h2:∀p,H p=Gp->Q ↑p (zj H p (.lst (U8 xs lo hi)))):xu K x lo hi H Q
def Pm(K:Gd):V->Option Int->Option Int->Hp->VK->Prop:=λx lo hi H Q=>xu K x lo hi H Q
theorem Ub:p8 X (Pm X.K):=by intro f s u H x v p t e hi o Q I m hs k l h;have(a,c,rfl,g,q):=h;cases m;have(j,r,ht,i):=I.list g;have d:=⇑r;exists "list",_,slot_list_getitem.lookup,ht.isList.typeIs;refine wpAny_getItem_list_slice ht.isList hs k l .none ⋯ ?_ (by rw[Ts]<;>lia);rw[XI,<-d];refine{↑s.heap.objs.size,_,I.laid (t':=s.toks) (o:=.lst (U8 c e hi)) (λb n q=>Gm _ q) (Gy _) ?_,1,q _ (I.Yc.fresh (Gy _))};exact{Dj (xE c e hi) i,_,(0),(r.drop (HT.Vf ⇑c 0 e)).take (HT.Vf ⇑c ⇑c hi - HT.Vf ⇑c 0 e),Tc _ Xb}
theorem Zm:Us X (.builtin "len") (λxs H Q=>∃p b,xs=[↑p]/\(Vh X.K H p b\/hB X.K H p b)/\Q (.int ⇑b) H):=by
 intro g s m H xs l Q I r h;have(p,b,rfl,c,q):=h;have(u,rfl,j):=vals1 r;cases j;have k:=O9;rcases c with c|c
 .obtain⟨d,f,e,i⟩:=I.list c;have a:=⇑f;exact NO e.isList (by simp only[Ts]<;>lia) {.int ⇑b,H,I.tok _,{s.toks+1,by rw[Ts,a]},q}
 .obtain⟨d,f,e,i⟩:=I.tuple c;have a:=⇑f;exact len_tuple e (by simp only[Ts]<;>lia) {.int ⇑b,H,I.tok _,{s.toks+1,by rw[Ts,a]},q}
theorem Xv:Us X (.type "list") (λxs H Q=>∃p g,xs=[↑p]/\(Vh X.K H p g\/hB X.K H p g)/\∀l,H l=Gp->Q ↑l (zj H l (.lst g))):=by
 intro t s B H xs C Q I r h;have(p,g,rfl,k,q):=h;have(u,rfl,A):=vals1 r;cases A;have i:∀(a:List Gh),Yh g a->⇑g<=TF->∀(c:Heap)(d:Nat),(∀b z,s.heap.get? b/z->c.get? b/z)->
   c.get? s.heap.objs.size=Ga {cls:=.type "list",dict:=Gp,data:=.seq a.toArray d,slots:=#[]}->EP X t B Q ↑s.heap.objs.size {s with heap:=c}:=λa f l c d m e=>
  {↑s.heap.objs.size,_,I.laid (t':=s.toks) m (Gy _) (show Yr X.prog X.w _ c _ (.lst g)from⟨l,a,d,f,e⟩),1,q _ (I.Yc.fresh (Gy _))}
 rcases k with k|k
 .obtain⟨a,f,y,l⟩:=I.list k;have j:=⇑f;have(o,x,v,n,w):=y.isList;exact CJ p (.inl Xb) x v w (λc d m e=>i a f l c d m e) (by simp only[Ts]<;>ext)
 .obtain⟨a,f,y,l⟩:=I.tuple k;have j:=⇑f;have(o,x,v,n,w):=y;exact CJ p (.inr Xb) x v w (λc d m e=>i a f l c d m e) (by simp only[Ts]<;>ext)
theorem Wh:Us X (.type "tuple") (λxs H Q=>∃p d,xs=[↑p]/\((Vh X.K H p d/\∀l,H l=Gp->Q ↑l (zj H l (.tup d)))\/(hB X.K H p d/\Q ↑p H))):=by
 intro a s n H xs x Q I r h;have(p,d,rfl,h):=h;have(u,rfl,w):=vals1 r;cases w;rcases h with⟨g,q⟩|⟨g,q⟩
 .obtain⟨c,j,i,m⟩:=I.list g;have l:=⇑j;refine call_tuple_list i.isList (λf v=>?_) (by simp only[Ts]<;>ext);have k:zx X a n H {s with heap:=f}:=I.kept (t':=s.toks) v;have t:zx X a n (zj H f.objs.size (.tup d)) {s with heap:=f.push {cls:=.type "tuple",data:=.seq c.toArray}}:=
   k.laid (t':=s.toks) (λb o e=>Gm _ e) (Gy _) (show Yr X.prog X.w _ _ _ (.tup d)from{m,c,j,JM _ _})
  exact{↑f.objs.size,_,t,1,q _ (k.Yc.fresh (Gy _))}
 .obtain⟨c,j,i,m⟩:=I.tuple g;exact call_tuple_same i {↑p,H,I,1,q}
def tyV(K:Gd)(T:String)(x:V)(H:Hp):Prop:=match x with
 |.str _=>T="str"
 |.int _=>T="int"
 |.ref p=>(T="list"/\∃xs,Vh K H p xs)\/(T="tuple"/\∃o,K.lookup p/o/\o.cls=.type "tuple"/\o.dict=Gp)\/
   (T="dict"/\((∃zw,H p/.dK zw)\/∃zw,H p/.dT zw))\/(T="set"/\∃S n,H p/.set S n)
 |_=>False
theorem zt{f:List (Ge×Lc)}{u:St}{T:String}{x:V}{v:Gh}(I:zx X f u H s)(r:zv x v)(ty:tyV X.K T x H):
  s.TypeIs v T/\∀a,v=.ref a->∃j,s.heap.get? a/j/\j.dict=Gp:=by
 cases x with
 |str z=>have(t,rfl):=r;cases(show T="str"from ty);exact{IG s z t,λ_ e=>nomatch e}
 |int i=>have(t,rfl):=r;cases(show T="int"from ty);exact{typeIs_int s i t,λ_ e=>nomatch e}
 |ref p=>
  cases r;rcases ty with⟨rfl,w,m⟩|⟨rfl,o,b,l,h⟩|⟨rfl,b⟩|⟨rfl,S,n,b⟩
  .obtain⟨q,_,k,_⟩:=I.list m;refine{k.isList.typeIs,λa e=>?_};cases e;have(o,n,e,c,h,_):=k;exact⟨o,e,h⟩
  .refine{{o,I.kIn p o b,l},λa e=>?_};cases e;exact{o,I.kIn _ o b,h}
  .have z:∃o,s.heap.get? p/o/\o.ExactDict:=by
    rcases b with⟨c,b⟩|⟨c,b⟩
    .obtain⟨_,_,_,_,o,_,_,e,d,_⟩:=I.Yc p _ b;exact⟨o,e,d⟩
    .obtain⟨_,_,_,_,o,_,_,e,d,_⟩:=I.Yc p _ b;exact⟨o,e,d⟩
   have(o,e,d):=z;refine{{o,e,d.1},λa g=>?_};cases g;exact{o,e,d.2.1}
  .obtain⟨o,_,_,_,e,d,_⟩:=I.Yc p _ b;refine{{o,e,d.1},λa g=>?_};cases g;exact{o,e,d.2.1}
 |_=>exact False.elim ty
def KZ(K:Gd)(T:String)(r:V->List V->Hp->VK->Prop)(to:TE):TE:=λσ H Q=>to σ H λx H1=>tyV K T x H1/\r x [] H1 Q
def tBM(K:Gd)(T:String)(r:V->List V->Hp->VK->Prop)(to:TE)(t:TA):TE:=λσ H Q=>to σ H λx H1=>tyV K T x H1/\t σ H1 λxs H2=>r x xs H2 Q
variable{o e:Ea}{es:List Ea}{to:TE}{t:TA}{name:TQ}{apos cpos:MQ}{T id:String}{r:V->List V->Hp->VK->Prop}
theorem O2(n:IH T)(slot:Slot T name id)(d:typeOf (.builtin id)=pure (.type "method_descriptor"))(l:i4 X id r)(m:PE X o to)
  (b:attributeBase o name X.env (eval o X.env)=eval o X.env:=by rfl)(c:(apos.endLine==cpos.line)=Gk:=by rfl):PE X (.Call (.Attribute o name apos) [] [] cpos) (KZ X.K T r to):=by
 intro a s g H Q I h;refine MV b c (Xf (m a s g H _ I h) λv q⟨x,i,e,f,ty,p⟩=>?_);have(j,k):=zt e f ty;exact{T,id,n,slot,d,j,k,Lg rfl (NQ (l a q g i x [] v [] Q e f .nil p))}
theorem Xx(A:IH T)(slot:Slot T name id)(g:typeOf (.builtin id)=pure (.type "method_descriptor"))(y:i4 X id r)(z:PE X o to)(w:PA X (e::es) t)
  (c:attributeBase o name X.env (eval o X.env)=eval o X.env:=by rfl)
  (f:((Se cpos (T8 (e::es) X.env)).all (λx=>!x.1)&&(backToKw cpos (keywordEach [] X.env)).all (λx=>x.1.isSome)
   &&decide (⇑(e::es)+⇑([]:List RU)+(if([]:List RU).isEmpty then 0 else 1)<30))=Gk:=by rfl)
  (d:(apos.endLine==cpos.line)=Gk:=by rfl)(hs:T8 (e::es) X.env=(Gx,eval e X.env)::T8 es X.env:=by rfl)(b:(Se cpos (T8 es X.env)).any (·.1)=Gx:=by rfl):
  PE X (.Call (.Attribute o name apos) (e::es) [] cpos) (tBM X.K T r to t):=by
 intro a s i H Q I h;refine Nh c f d rfl (Xf (z a s i H _ I h) λv E⟨x,m,j,l,ty,B⟩=>?_);have(q,u):=zt j l ty;exists T,id,A,slot,g,q,u;have k:=w cpos a E i m _ j B;rw[hs]at k⊢;refine Lg (by show(Gx||(Se cpos (T8 es X.env)).any (·.1))=Gx;rw[b]<;>rfl) (NE ?_);exact Xf k λG F⟨J,n,p,D,C⟩=>y a F i n x J v G Q p l D C
end
def pV(X:Cx)(id:String)(r:V->List V->Hp->VK->Prop):Prop:=
 ∀(zq:List (Ge×Lc))(s:Gw)(σ:St)(H:Hp)(x:V)(xs:List V)(v:Gh)(a:List Gh)(Q:VK),zx X zq σ H s->zv x v->Yh xs a->r x xs H Q->
  wpAny (TV X.prog X.w) X.A (call (.builtin id) (v::a)) (EP X zq σ Q) X.xe s
theorem Yh.one:∀{x:V}{a:List Gh},Yh [x] a->∃u,a=[u]/\zv x u:=by intro x a h;cases h with|cons r h=>cases h;exact⟨_,Xb,r⟩
theorem Yh.zero:∀{a:List Gh},Yh [] a->a=[]
 |_,.nil=>rfl
theorem Yh.dropLast{b:List V}{a:List Gh}(h:Yh b a):Yh b.dropLast a.dropLast:=by
 induction h with
 |nil=>exact .nil
 |cons r t c=>
  cases t with
  |nil=>exact .nil
  |cons q d=>exact .cons r c
theorem Qnh(l:List α):l.eraseIdx (⇑l - 1)=l.dropLast:=by
 induction l with
 |nil=>rfl
 |cons a r c=>
  cases r with
  |nil=>rfl
  |cons b r=>
   have e:⇑(a::b::r) - 1=(⇑(b::r) - 1)+1:=by have d:⇑(a::b::r)=⇑r+2:=rfl;have f:⇑(b::r)=⇑r+1:=rfl;lia
   rw[e,List.eraseIdx_cons_succ,c];all_goals rfl
section
variable{X:Cx}{zq:List (Ge×Lc)}{σ:St}{H:Hp}{s:Gw}{l b:Ge}{xs ys zs:List V}
theorem zx.o9{a its':List Gh}{f:Array Gh->Array Gh}(I:zx X zq σ H s)(b:H l/.lst xs)
  (e:s.heap.get? l=Ga {cls:=.type "list",data:=.seq a.toArray n})(d:f a.toArray=its'.toArray)(h:Yh ys its')(i:⇑ys<=TF):
  zx X zq σ (zj H l (.lst ys)) {s with heap:=s.heap.update l (Lh f),toks:=t'}:=by
 have q:=JN e f;rw[d]at q;refine I.write (x:=l) (e:=l) (by rw[b];exact trivial) (.inl Xb) (λj u c g=>(Sh s.heap (Lh f) (GQ c)).trans g) {_,q} ?_;exact{i,its',_,h,q}
theorem zx.vq{its:List Gh}(I:zx X zq σ H s)(a:Yh ys its)(b:⇑ys<=TF):
  zx X zq σ (zj H s.heap.objs.size (.lst ys)) {s with heap:=s.heap.push {cls:=.type "list",data:=.seq its.toArray},toks:=t'}:=
 I.laid (λ_ _ q=>Gm _ q) (Gy _) {b,its,(0),a,Tc _ Xb}
theorem zx.fresh(I:zx X zq σ H s):H s.heap.objs.size=Gp:=I.Yc.fresh (Gy _)
theorem zx.jI(I:zx X zq σ H s)(b:H l/.lst xs):⇑xs<=TF/\∃(a:List Gh)(n:Nat),Yh xs a/\⇑xs=⇑a/\s.heap.get? l=Ga {cls:=.type "list",data:=.seq a.toArray n}:=by have(z,a,n,r,e):=I.Yc l _ b;exact{z,a,n,r,⇑r,e}
theorem YB(h:n<=TF):LU n=Gx:=by unfold LU;exact Tj (by lia)
end
section
variable{X:Cx}
inductive AD(x:V)(vs:List V)(H:Hp)(Q:VK):Prop
 |mk (l:_) (xs:_) (y:_) (h0:x=↑l) (h1:vs=[y]) (h2:H l/.lst xs) (h3:⇑xs<TF) (h4:Q .non (zj H l (.lst (xs++[y])))):AD x vs H Q
def YJ:V->List V->Hp->VK->Prop:=λx a H Q=>AD x a H Q
theorem Z0:pV X "list.append" YJ:=by intro c s p H x m v k Q I g f h;have(l,o,y,rfl,rfl,b,j,q):=h;cases g;have(u,rfl,d):=f.one;have(z,a,n,r,i,e):=I.jI b;refine RB F.slot_list_append {_,e,1} F.entry_list_append (F.args_list_append_2 _ _) (RV l a.toArray n u (by rw[Ts];ext)) {e,?_};refine{.non,_,I.o9 (its':=a++[u]) b e ⋯ (r.append (.cons d .nil)) ?_,1,q};rw[Gs,Tg];ext
inductive zW(x:V)(vs:List V)(H:Hp)(Q:VK):Prop
 |mk (l:_) (b:_) (xs:_) (zs:_) (h0:x=↑l) (h1:vs=[↑b]) (h2:H l/.lst xs) (h3:H b/.lst zs) (h4:⇑xs+⇑zs<=TF) (h5:Q .non (zj H l (.lst (xs++zs)))):zW x vs H Q
def VV:V->List V->Hp->VK->Prop:=λx a H Q=>zW x a H Q
theorem p6:pV X "list.extend" VV:=by
 intro i s J H x C v B Q I w t h;have(l,b,D,G,rfl,rfl,g,k,A,q):=h;cases w;have(u,rfl,p):=t.one;cases p;have(z,c,n,r,y,e):=I.jI g;have(E,a,n2,o,m,j):=I.jI k;have f:c.toArray.size+a.toArray.size<=TF:=by rw[Ts,Ts];lia
 have d:¬(!c.toArray.isEmpty&&LU (c.toArray.size+a.toArray.size))=Gk:=by rw[YB f,BM];exact TH
 refine RB F.slot_list_extend {_,e,1} F.entry_list_extend (F.args_list_extend_2 _ _)
  (RW l c.toArray n b a.toArray n2 d (by rw[Ts];lia) (by lia)) {e,j,?_}
 refine{.non,_,I.o9 (its':=c++a) g e ⋯ (r.append o) ?_,1,q};rw[Gs];lia
inductive ud(x:V)(vs:List V)(H:Hp)(Q:VK):Prop
 |mk (l:_) (xs:_) (y:_) (h0:x=↑l) (h1:vs=[]) (h2:H l/.lst xs) (h3:xs[⇑xs - 1]?/y) (h4:Q y (zj H l (.lst xs.dropLast))):ud x vs H Q
def VR:V->List V->Hp->VK->Prop:=λx a H Q=>ud x a H Q
theorem Oz:pV X "list.pop" VR:=by
 intro f s A H x t v p Q I o m h;have(l,w,y,rfl,rfl,d,j,q):=h;cases o;have b:=m.zero;subst b;have(z,a,n,r,g,e):=I.jI d;have(u,i,k):=r.get j;have c:a.toArray[a.toArray.size - 1]?/u:=by show a.toArray[⇑a - 1]?=Ga u;rw[<-Em,<-g];exact i
 refine RB F.slot_list_pop {_,e,1} F.entry_list_pop (F.args_list_pop_1 _) (Hj l a.toArray n u c (by rw[Ts];ext)) {e,?_};refine{y,_,I.o9 (its':=a.dropLast) d e ?_ r.dropLast ?_,k,q}
 .show a.toArray.eraseIdxIfInBounds (a.toArray.size - 1)=a.dropLast.toArray;rw[Ts,List.eraseIdxIfInBounds_toArray,Qnh]
 .rw[List.length_dropLast];ext
inductive zA(x:V)(y:V)(H:Hp)(Q:VK):Prop
 |mk (l:_) (b:_) (xs:_) (zs:_) (h0:x=↑l) (h1:y=↑b) (h2:H l/.lst xs) (h3:H b/.lst zs) (h4:⇑xs+⇑zs<=TF) (h5:∀p,H p=Gp->Q ↑p (zj H p (.lst (xs++zs)))):zA x y H Q
def XB:R2:=λx y H Q=>zA x y H Q
theorem Jg:hA X (binaryOp .Add) XB:=by
 intro d s D H x y v u Q I o p h;have(l,b,A,C,rfl,rfl,j,i,w,q):=h;cases o;cases p;have(z,c,n,r,t,e):=I.jI j;have(B,a,n2,m,k,f):=I.jI i;refine JO e f ?_ (by rw[Ts,Ts];ext);have g:c.toArray++a.toArray=(c++a).toArray:=by simp
 rw[g];exact{↑_,_,I.vq (t':=s.toks) (r.append m) (by rw[Gs];ext),1,q _ I.fresh}
end
section
variable{κ:Type}[DecidableEq κ]
noncomputable def Xq(zw:List (κ×V))(k:κ):Option V:=(zw.find? λa=>decide (a.1=k)).map (·.2)
noncomputable def V7(zw:List (κ×V))(k:κ)(v:V):List (κ×V):=
 if(zw.any λa=>decide (a.1=k))=Gk then zw.map (λa=>if a.1=k then(a.1,v)else a)else zw++[(k,v)]
theorem ql{k:κ}:Xq ([]:List (κ×V)) k=Gp:=rfl
theorem We{p:κ×V}{r:List (κ×V)}{k:κ}(e:p.1=k):Xq (p::r) k/p.2:=by simp[Xq,Eg,e]
theorem X6{p:κ×V}{r:List (κ×V)}{k:κ}(e:¬p.1=k):Xq (p::r) k=Xq r k:=by simp[Xq,Eg,e]
theorem Jx(k:κ):∀a:List (κ×V),(a.any λb=>decide (b.1=k))=(Xq a k).isSome
 |[]=>rfl
 |p::r=>by
  rw[NV];by_cases e:p.1=k
  .simp only[We e,Tk e,Bool.true_or,RC]
  .rw[X6 e,Tj e,Bool.false_or];exact Jx k r
theorem ye(k j:κ)(y:V):∀a:List (κ×V),Xq (a.map λb=>if b.1=k then(b.1,y)else b) j=(Xq a j).map λx=>if j=k then y else x
 |[]=>rfl
 |p::r=>by
  have b:=ye k j y r;rw[TC];by_cases h:p.1=k
  .rw[GY h];by_cases e:p.1=j
   .rw[We (p:=(p.1,y)) e,We e,Eh,GY (e.symm.trans h)]
   .rw[X6 (p:=(p.1,y)) e,X6 e,b]
  .rw[Gu h];by_cases e:p.1=j
   .rw[We (p:=p) e,We e,Eh,Gu (λz=>h (e.trans z))]
   .rw[X6 (p:=p) e,X6 e,b]
theorem sJ(k j:κ)(y:V):∀a:List (κ×V),Xq a k=Gp->Xq (a++[(k,y)]) j=if j=k then Ga y else Xq a j
 |[],_=>by
  by_cases e:k=j
  .rw[GY e.symm];exact We (p:=(k,y)) e
  .rw[Gu (λz=>e z.symm)];exact X6 (p:=(k,y)) e
 |p::r,b=>by
  rw[D9];have c:¬p.1=k:=λz=>by rw[We z]at b;cases b
  rw[X6 c]at b;have d:=sJ k j y r b;by_cases e:p.1=j
  .rw[We e,We e,Gu (λz=>c (e.trans z))]
  .rw[X6 e,X6 e,d]
theorem sF(b:List (κ×V))(k j:κ)(y:V):Xq (V7 b k y) j=if j=k then Ga y else Xq b j:=by
 unfold V7;by_cases a:(b.any λc=>decide (c.1=k))=Gk
 .rw[GY a,ye];rw[Jx]at a;by_cases e:j=k
  .obtain⟨x,c⟩:=MF.mp a;rw[GY e,e,c,Eh,GY rfl]
  .rw[Gu e];cases Xq b j with
   |none=>rfl
   |some x=>rw[Eh,Gu e]
 .rw[Gu a];refine sJ k j y b ?_;rw[Jx]at a;cases q:Xq b k with
  |none=>rfl
  |some x=>rw[q]at a;exact(a Xb).elim
theorem Vc(a:List (κ×V))(k:κ)(v:V):⇑(V7 a k v)<=⇑a+1:=by
 unfold V7;split
 .rw[Gq];ext
 .rw[Gs,TW,SE];ext
theorem Qws{a:List (κ×V)}{k:κ}(v:V)(h:Xq a k=Gp):V7 a k v=a++[(k,v)]:=by unfold V7;rw[Jx,h];exact Gu (by decide)
theorem R1.Va{o:Option V}{u:Option Gh}(r:R1 o u):o.isSome=u.isSome:=by
 cases o with
 |none=>cases u with
  |none=>rfl
  |some _=>exact(show False from r).elim
 |some _=>cases u with
  |none=>exact(show False from r).elim
  |some _=>rfl
theorem KV.val{a:List (κ×V)}{g:List (κ×Gh)}(r:KV a g)(k:κ):R1 (Xq a k) (valueAt g k):=by
 unfold KV at r;induction r with
 |nil=>exact Es
 |@cons p q l d h t j=>
  have(f,i):=h;by_cases e:p.1=k
  .have c:q.1=k:=f.symm.trans e;have b:valueAt (q::d) k/q.2:=by simp[valueAt,Eg,c]
   rw[We e,b];exact i
  .have c:¬q.1=k:=λz=>e (f.trans z);have b:valueAt (q::d) k=valueAt d k:=by simp[valueAt,Eg,c]
   rw[X6 e,b];exact j
theorem KV.any{a:List (κ×V)}{c:List (κ×Gh)}(r:KV a c)(k:κ):(a.any λb=>decide (b.1=k))=c.any λb=>decide (b.1=k):=by
 unfold KV at r;induction r with
 |nil=>rfl
 |cons h t d=>rw[NV,NV,d,h.1]
theorem KV.ri{b:List (κ×V)}{d:List (κ×Gh)}(r:KV b d)(k:κ)(i:zv y u):
  KV (b.map λa=>if a.1=k then(a.1,y)else a) (d.map λa=>if a.1=k then(a.1,u)else a):=by
 unfold KV at r⊢;induction r with
 |nil=>exact .nil
 |@cons p q j l h t g=>
  rw[TC,TC];refine .cons ?_ g;have(c,f):=h;by_cases e:p.1=k
  .rw[GY e,GY (c.symm.trans e)];exact⟨c,i⟩
  .rw[Gu e,Gu (λz=>e (c.trans z))];exact⟨c,f⟩
theorem KV.put{a:List (κ×V)}{b:List (κ×Gh)}(r:KV a b)(k:κ)(c:zv y u):KV (V7 a k y) (stored b k u):=by
 unfold V7 stored;rw[r.any k];by_cases e:(b.any λd=>decide (d.1=k))=Gk
 .rw[GY e,GY e];exact r.ri k c
 .rw[Gu e,Gu e];exact E5 r ⟨Xb,c⟩
theorem KV.length{a:List (κ×V)}{b:List (κ×Gh)}(r:KV a b):⇑a=⇑b:=GJ r
end
theorem kh{k:Wl}(r:zv (kV k) u):(Y9 P w).is k u=Gk:=by
 cases k with
 |inl i=>have(t,e):=(show∃t,u=MR i t from r);subst e;exact Qjv P w i t
 |inr x=>have(t,e):=(show∃t,u=MT x t from r);subst e;exact UV P w x t
theorem OI{a:List Wl}{b:List Gh}(r:Yh (a.map kV) b):ItemsAre (Y9 P w) a b:=by
 induction a generalizing b with
 |nil=>cases r;exact .nil
 |cons k a c=>cases r with
  |cons h t=>exact .cons (kh h) (c t)
abbrev KT(H:Hp):List (List Wl×V)->List (List Wl×Ge×Gh)->Prop:=Dm λp q=>p.1=q.1/\H q.2.1/.tup (p.1.map kV)/\zv p.2 q.2.2
theorem KT.val(r:KT H zw xs)(k:List Wl):R1 (Xq zw k) ((atKey xs k).map (·.2)):=by
 induction r with
 |nil=>exact Es
 |@cons p q i c h t g=>
  have(d,_,f):=h;by_cases e:p.1=k
  .have a:q.1=k:=d.symm.trans e;have b:atKey (q::c) k/q.2:=by simp[atKey,Eg,a]
   rw[We e,b];exact f
  .have a:¬q.1=k:=λz=>e (d.trans z);have b:atKey (q::c) k=atKey c k:=by simp[atKey,Eg,a]
   rw[X6 e,b];exact g
theorem KT.ri(r:KT H zw xs)(k:List Wl)(f:zv y u):
  KT H (zw.map λa=>if a.1=k then(a.1,y)else a) (xs.map (putAt k u)):=by
 induction r with
 |nil=>exact .nil
 |@cons p q g i h t d=>
  rw[TC,TC];refine .cons ?_ d;have(a,b,c):=h;unfold putAt;by_cases e:p.1=k
  .rw[GY e,GY (a.symm.trans e)];exact⟨a,b,f⟩
  .rw[Gu e,Gu (λz=>e (a.trans z))];exact⟨a,b,c⟩
theorem KT.put(r:KT H zw xs)(k:List Wl)(c:H b/.tup (k.map kV))(a:zv y u):
  KT H (V7 zw k y) (storedH xs k b u):=by
 have e:(zw.any λd=>decide (d.1=k))=(atKey xs k).isSome:=by rw[Jx,(r.val k).Va,SG]
 unfold V7 storedH;rw[e];by_cases q:(atKey xs k).isSome=Gk
 .rw[GY q,GY q];exact r.ri k a
 .rw[Gu q,Gu q];exact E5 r ⟨Xb,c,a⟩
theorem KT.keeps(r:KT H zw xs)(ht:∀b a,H b/.tup a->H' b/.tup a):KT H' zw xs:=
 Qr r λ_ _ z=>{z.1,ht _ _ z.2.1,z.2.2}
section
variable{P:Gn}{w:Ti}{H:Hp}{h:Heap}{a:Ge}
theorem yu{u:HO}(ok:Ox P w H h)(e:Rd H a u):Yr P w H h a u:=e.ok ok
theorem kQ{b:List (Wl×V)}(ok:Ox P w H h)(e:Rd H a (.dK b)):⇑b<=TF/\(a==Er)=Gx/\∃c,KV b c/\h.DictOf (Y9 P w) a c:=
 show Yr P w H h a (.dK b)from yu ok e
theorem ot{b:List (Wl×V)}(ok:Ox P w H h)(e:H a/.dK b):⇑b<=TF/\(a==Er)=Gx/\∃c,KV b c/\h.DictOf (Y9 P w) a c:=kQ ok (.inl e)
theorem j5{c:List Wl}(ok:Ox P w H h)(e:H a/.tup (c.map kV)):(tupleKind (Y9 P w)).is h c a:=by have(_,b,r,o,d,f,n,g):=(show Yr P w H h a (.tup (c.map kV))from ok a _ e);exact{o,b.toArray,n,d,f,g,by simpa using OI r}
theorem mr(ok:Ox P w H h)(e:Rd H a (.dT zw)):⇑zw<=TF/\(a==Er)=Gx/\
  ∃c,KT H zw c/\h.DictOfH (tupleKind (Y9 P w)) a c:=by
 have(z,y,c,r,o,g,f,i,j,k,n,s):=(show Yr P w H h a (.dT zw)from yu ok e);refine{z,y,c,r,o,g,f,i,j,k,n,λx b=>?_,s};have all:∀{l:List (List Wl×V)}{m:List (List Wl×Ge×Gh)},KT H l m->∀x∈m,(tupleKind (Y9 P w)).is h x.1 x.2.1:=by
  intro l m q;induction q with
  |nil=>intro x b;exact nomatch b
  |@cons p q v A d t u=>
   intro x b;rcases Td.mp b with e|b
   .subst e;exact j5 ok (by rw[<-d.1];exact d.2.1)
   .exact u x b
 exact all r x b
theorem tx(ok:Ox P w H h)(e:H a/.dT zw):⇑zw<=TF/\(a==Er)=Gx/\
  ∃b,KT H zw b/\h.DictOfH (tupleKind (Y9 P w)) a b:=mr ok (.inl e)
end
def Vv(H:Hp)(a:Ge)(y:V)(r:Option V):Prop:=
 (∃zw k,Rd H a (.dK zw)/\y=kV k/\r=Xq zw k)\/∃zw k b,Rd H a (.dT zw)/\y=.ref b/\H b/.tup (k.map kV)/\r=Xq zw k
def Oe(H:Hp)(a:Ge)(y v:V)(H':Hp):Prop:=
 (∃zw k,H a/.dK zw/\y=kV k/\⇑zw<TF/\H'=zj H a (.dK (V7 zw k v)))\/
 ∃zw k b,H a/.dT zw/\y=.ref b/\H b/.tup (k.map kV)/\⇑zw<TF/\H'=zj H a (.dT (V7 zw k v))
theorem Vv.k{H:Hp}{a:Ge}{b:List (Wl×V)}{k:Wl}(e:H a/.dK b):Vv H a (kV k) (Xq b k):=.inl {b,k,.inl e,11}
theorem Vv.t{k:List Wl}(e:H a/.dT zw)(c:H b/.tup (k.map kV)):Vv H a ↑b (Xq zw k):=.inr {zw,k,b,.inl e,1,c,1}
theorem Oe.k{H:Hp}{a:Ge}{b:List (Wl×V)}{k:Wl}{v:V}(e:H a/.dK b)(c:⇑b<TF):Oe H a (kV k) v (zj H a (.dK (V7 b k v))):=.inl ⟨b,k,e,Xb,c,Xb⟩
theorem Oe.t{k:List Wl}{v:V}(e:H a/.dT zw)(c:H b/.tup (k.map kV))(d:⇑zw<TF):
  Oe H a ↑b v (zj H a (.dT (V7 zw k v))):=.inr ⟨zw,k,b,e,Xb,c,d,Xb⟩
section
variable{X:Cx}{zq:List (Ge×Lc)}{σ:St}{H:Hp}{s:Gw}{a:Ge}{y v:V}{u r:Gh}{o:Option V}{A:DW}{E:Gh->Gw->Prop}
theorem zx.big(I:zx X zq σ H s):Er<s.heap.objs.size:=by have h:El<s.heap.objs.size:=(I.mod.glob.keeps I.bk).lt;exact Hk (by decide) h
theorem QY(t:A.units+1<E3)(I:zx X zq σ H s)(g:Vv H a y (Ga v))(n:zv y u)(h:∀f m,zx X zq σ H m->zv v f->Q f m):
  wpAny (TV X.prog X.w) A (getItem ↑a u) Q E s:=by
 rcases g with⟨m,k,e,j,l⟩|⟨m,k,b,e,j,o,l⟩
 .subst j;have(z,q,m,c,i):=kQ I.Yc e;have(f,hw,d):=R1.some_of (v:=v) (o:=valueAt m k) (by rw[l];exact c.val k);exact wpAny_getItem_of (kh n) i.mapOf hw (h f _ (I.tok _) d)
 .subst j;cases(show u=Tq b from n);have(z,q,w,c,i):=mr I.Yc e;have(f,hw,d):=R1.some_of (v:=v) (o:=(atKey w k).map (·.2)) (by rw[l];exact c.val k);have(p,r,m):=Ew.mp hw;refine RD (Lj t) (j5 I.Yc o) i r ?_;rw[m];exact h f _ (I.tok _) d
theorem Zae(p:A.units+1<E3)(I:zx X zq σ H s)(g:Vv H a y o)(m:zv y u)(h:∀j,zx X zq σ H j->Q (.bool o.isSome) j):
  wpAny (TV X.prog X.w) A (Ep .In u ↑a) Q E s:=by
 rcases g with⟨j,k,e,f,l⟩|⟨j,k,b,e,f,n,l⟩
 .subst f;have(z,i,j,c,d):=kQ I.Yc e;refine wpAny_in_of (kh m) i d.mapOf ?_;rw[<-(c.val k).Va,<-l];exact h _ (I.tok _)
 .subst f;cases(show u=Tq b from m);have(z,i,j,c,d):=mr I.Yc e;refine CK (Lj p) (j5 I.Yc n) i d ?_;have q:=(c.val k).Va;rw[SG]at q;rw[<-q,<-l];exact h _ (I.tok _)
theorem SB(p:A.units+1<E3)(I:zx X zq σ H s)(g:Vv H a y o)(m:zv y u)(h:∀j,zx X zq σ H j->Q (.bool (!o.isSome)) j):
  wpAny (TV X.prog X.w) A (Ep .NotIn u ↑a) Q E s:=by
 rcases g with⟨j,k,e,f,l⟩|⟨j,k,b,e,f,n,l⟩
 .subst f;have(z,i,j,c,d):=kQ I.Yc e;refine wpAny_notIn_of (kh m) i d.mapOf ?_;rw[<-(c.val k).Va,<-l];exact h _ (I.tok _)
 .subst f;cases(show u=Tq b from m);have(z,i,j,c,d):=mr I.Yc e;refine Bo (Lj p) (j5 I.Yc n) i d ?_;have q:=(c.val k).Va;rw[SG]at q;rw[<-q,<-l];exact h _ (I.tok _)
theorem R7{c:Heap}{ob:HO}(I:zx X zq σ H s)(g:lI (H a))(hs:Eb a s.heap c)(f:∃q,c.get? a/q)(d:Yr X.prog X.w (zj H a ob) c a ob):
  zx X zq σ (zj H a ob) {s with heap:=c,toks:=t'}:=
 I.write (x:=a) (e:=a) g (.inl Xb) (λb q e z=>(hs.2 b e).trans z) f d
theorem AX{e:Heap}{b:List (Wl×V)}{d:List (Wl×Gh)}(z:⇑b<=TF)(g:(a==Er)=Gx)(c:KV b d)(f:e.DictOf (Y9 P w) a d):
  Yr P w H' e a (.dK b):=⟨z,g,d,c,f⟩
theorem Qri{Q:Unit->Gw->Prop}(N:A.units+1<E3)(I:zx X zq σ H s)(g:Oe H a y v H')(D:zv y u)(C:zv v r)(h:∀c,zx X zq σ H' c->Q () c):
  wpAny (TV X.prog X.w) A (setItem ↑a u r) Q E s:=by
 rcases g with⟨d,k,e,o,l,n⟩|⟨d,k,b,e,o,x,l,n⟩
 .subst o n;have(z,p,l,f,m):=ot I.Yc e;have w:⇑l<=TF:=by rw[<-⇑f];exact z
  have t:⇑(V7 d k v)<=TF:=by have:=Vc d k v;ext
  refine wpAny_setItem_pairs (hsz:=w) (kh D) m λB i hs=>h _ ?_;have c:∃q,B.get? a/q:=let⟨q,_,_,j,_⟩:=i;⟨q,j⟩;exact R7 I (by rw[e];exact Es) hs c (AX t p (f.put k C) i)
 .subst o n;cases(show u=Tq b from D);have(z,p,O,f,m):=tx I.Yc e;have w:⇑O<=TF:=by rw[<-GJ f];exact z
  have t:⇑(V7 d k v)<=TF:=by have:=Vc d k v;ext
  refine RE (hsz:=w) (Lj N) (j5 I.Yc x) m λB i hs=>h _ ?_;have(q,G,F,j,J,K,L,_,M):=i;refine R7 I (by rw[e];exact Es) hs ⟨q,j⟩ {t,p,_,(f.put k x C).keeps λc P l=>?_,q,G,F,j,J,K,L,M};rw[Qh (Zr l e nofun)];exact l
end
section
variable{X:Cx}{zq:List (Ge×Lc)}{σ:St}{H:Hp}{s:Gw}{a:Ge}{zw:List (Wl×V)}{k:Wl}{u:Gh}{A:DW}{E:Gh->Gw->Prop}
theorem Q6m(I:zx X zq σ H s)(e:Rd H a (.dK zw))(h:∀t b,zx X zq σ H b->Q (.int ⇑zw t) b):wpAny (TV X.prog X.w) A (call (.builtin "len") [↑a]) Q E s:=by have(z,d,f,b,c):=kQ I.Yc e;refine call_len_dict d c (by rw[<-⇑b];rw[TD]at z;lia) ?_;rw[<-⇑b];exact h _ _ (I.tok _)
end
def tI(i:Ea):Prop:=∀ov a,subscripted i Gx ov a=operate [ov,a] (getItem ov a)
theorem Qzq{a:Gn}{A:DW}{E:Gh->Gw->Prop}{j:Bh}{c b:Ea}{m:MQ}{T id:String}
  (p:typeLookup (.type T) "__getitem__"=pure (Ga (.builtin id)))(hs:tI b)
  (h:wpAny (TV a w) A (eval c j) (λo f=>wpAny (TV a w) A (eval b j) (λi d=>d.TypeIs o T/\wpAny (TV a w) A (getItem o i) Q E d) E f) E s):
  wpAny (TV a w) A (eval (.Subscript c b m) j) Q E s:=by
 refine BP (E1 h (λo f l=>E1 l (λi d e=>?_) λ_ _ x=>x) λ_ _ x=>x);have(n,e):=e;unfold subscriptTail;refine Gb ?_;rw[getitemInPython_of_ne n.not_modules];refine Gb (Sf n p ?_);have k:wpAny (TV a w) A (subscripted b Gx o i) (λr g=>wpAny (TV a w) A (letTemporaryGo c o r>>=λ_=>pure r) Q E g) E d:=by rw[hs o i];exact wpAny_operating (E1 e (λr g l=>Gb (wpAny_letTemporaryGo (Gj l))) λ_ _ x=>x)
 first
  |exact Gj (Gb k)
  |exact Gb (Gj (Gb k))
  |exact Gb k
theorem Qj5{X:Cx}{c:List (Ge×Lc)}{h:St}{o:Option V}(I:zx X c h H s)(g:Vv H a y o):s.TypeIs ↑a "dict":=by
 rcases g with⟨f,k,e,_,_⟩|⟨f,k,b,e,_,_,_⟩
 .obtain⟨_,_,i,_,d⟩:=kQ I.Yc e;exact d.typeIs
 .obtain⟨_,_,i,_,d⟩:=mr I.Yc e;exact d.typeIs
inductive An(Q:VK)(x:V)(y:V)(H2:Hp):Prop
 |mk (a:_) (v:_) (h0:x=↑a) (h1:Vv H2 a y (Ga v)) (h2:Q v H2):An Q x y H2
def l8(td ty:TE):TE:=λσ H Q=>td σ H λx H1=>ty σ H1 λy H2=>An Q x y H2
inductive zB(Q:VK)(y:V)(x:V)(H2:Hp):Prop
 |mk (a:_) (o:_) (h0:x=↑a) (h1:Vv H2 a y o) (h2:Q (.bl o.isSome) H2):zB Q y x H2
def WM(ty td:TE):TE:=λσ H Q=>ty σ H λy H1=>td σ H1 λx H2=>zB Q y x H2
inductive xG(Q:VK)(y:V)(x:V)(H2:Hp):Prop
 |mk (a:_) (o:_) (h0:x=↑a) (h1:Vv H2 a y o) (h2:Q (.bl (!o.isSome)) H2):xG Q y x H2
def Qz3(ty td:TE):TE:=λσ H Q=>ty σ H λy H1=>td σ H1 λx H2=>xG Q y x H2
inductive AL(D:Ends)(σ:St)(v:V)(x:V)(y:V)(H3:Hp):Prop
 |mk (a:_) (H4:_) (h0:x=↑a) (h1:Oe H3 a y v H4) (h2:D.nx σ H4):AL D σ v x y H3
def wu(td ty tv:TE):TS:=λD σ H=>tv σ H λv H1=>td σ H1 λx H2=>ty σ H2 λy a=>AL D σ v x y a
section
variable{X:Cx}{o i e value:Ea}{pos pos' tpos:MQ}{td ty tv:TE}
theorem Yb(p:X.A.units+1<E3)(n:PE X o td)(hi:PE X i ty)(hs:tI i):PE X (.Subscript o i pos) (l8 td ty):=by intro b s e H Q I h;refine Qzq Ms.lookup hs (Xf (n b s e H _ I h) λu z⟨x,f,k,t,q⟩=>Xf (hi b z e f _ k q) λA B⟨y,j,d,w,a,v,m,g,r⟩=>?_);subst m;obtain rfl:u=Tq a:=t;exact{Qj5 d g,QY p d g w λD C l c=>⟨v,j,l,c,r⟩}
theorem px(n:X.A.units+1<E3)(hi:PE X i ty)(m:PE X o td):PC X .In i o (WM ty td):=by intro b s c H Q I h;refine Xf (hi b s c H _ I h) λw v⟨y,d,f,t,p⟩=>Xf (m b v c d _ f p) λu z⟨x,e,j,r,a,ov,l,g,q⟩=>?_;subst l;obtain rfl:u=Tq a:=r;exact Zae n j g t λA k=>{.bl ov.isSome,e,k,1,q}
theorem QJ(n:X.A.units+1<E3)(hi:PE X i ty)(m:PE X o td):PC X .NotIn i o (Qz3 ty td):=by intro b s c H Q I h;refine Xf (hi b s c H _ I h) λw v⟨y,d,f,t,p⟩=>Xf (m b v c d _ f p) λu z⟨x,e,j,r,a,ov,l,g,q⟩=>?_;subst l;obtain rfl:u=Tq a:=r;exact SB n j g t λA k=>{.bl (!ov.isSome),e,k,1,q}
theorem Vm(q:X.A.units+1<E3)(p:PE X o td)(hi:PE X i ty)(t:PE X value tv)(hs:swapsWith value (Ga (.Subscript o i pos')) pos.line X.env=pure Gx):
  PS X (.Assign [.Subscript o i pos'] value pos) (wu td ty tv):=by
 intro b s c H D I h;refine wpAny_Assign_Subscript (Xf (t b s c H _ I h) λr F⟨v,d,j,B,w⟩=>Xf (p b F c d _ j w) λu G⟨x,e,k,C,z⟩=>Xf (hi b G c e _ k z) λK L⟨y,J,l,E,a,f,n,g,A⟩=>?_) hs;subst n;obtain rfl:u=Tq a:=C;exact Qri q l g E B λs4 m=>⟨c,f,m,A⟩
end
theorem YM(h:Heap)(a:Er<h.objs.size):Yr P w H (h.push {cls:=.type "dict",data:=.dict #[]}) h.objs.size (.dK []):=
 {Tw _,EW.mpr (GQ (T9 a)),[],.nil,JW h}
theorem Qw9(h:Heap)(a:Er<h.objs.size):Yr P w H (h.push {cls:=.type "dict",data:=.dict #[]}) h.objs.size (.dT []):=
 {Tw _,EW.mpr (GQ (T9 a)),[],.nil,_,#[],(0),Tc _ Xb,⟨Xb,Xb,Xb⟩,11,SY}
def WS:TE:=λ_ H Q=>∀p,H p=Gp->Q ↑p (zj H p (.dK []))
def K2:TE:=λ_ H Q=>∀p,H p=Gp->Q ↑p (zj H p (.dT []))
section
variable{X:Cx}{pos:MQ}
theorem Jz:PE X (.Dict [] [] pos) WS:=λa s b H Q I h=>MX {↑s.heap.objs.size,_,I.laid (a:=s.heap.objs.size) (o:=.dK []) (t':=s.toks) (λ_ _ q=>Gm _ q) (Gy _) (YM s.heap I.big),1,h _ (I.Yc.fresh (Gy _))}
theorem oF:PE X (.Dict [] [] pos) K2:=λa s b H Q I h=>MX {↑s.heap.objs.size,_,I.laid (a:=s.heap.objs.size) (o:=.dT []) (t':=s.toks) (λ_ _ q=>Gm _ q) (Gy _) (Qw9 s.heap I.big),1,h _ (I.Yc.fresh (Gy _))}
end
structure M2(X:Cx)(o:Ea)(m:TQ)(apos:MQ)(e f:Ea)(cpos:MQ):Prop where
 base:attributeBase o m X.env (eval o X.env)=eval o X.env
 few:((Se cpos (T8 [e,f] X.env)).all (λx=>!x.1)&&(backToKw cpos (keywordEach [] X.env)).all (λx=>x.1.isSome)
  &&decide (⇑([e,f]:List Ea)+⇑([]:List RU)+(if([]:List RU).isEmpty then 0 else 1)<30))=Gk
 line:(apos.endLine==cpos.line)=Gk
 trees:Se cpos (T8 [e,f] X.env)=[(Gx,eval e X.env),(Gx,eval f X.env)]
end L2
namespace Att
open PySem PySem.W PySem.Calls PyProof.Rows
theorem K1{P:Ha}{h:Heap}:∀(c:List Int)(d:List Gh),WellAll P h d (c.map JP)->Ni d c:=by
 intro c;induction c with
 |nil=>intro d w;rw[FX]at w;cases w;exact .nil
 |cons n c e=>
  intro d w;rw[TC]at w;cases w with
  |cons a b=>cases a;exact .cons _ _ (e _ b)
theorem QH{l:C8}{n:Nat}(u:l.most/n){P:Ha}{h:Heap}{args:List WData}{e:List Gh}
  (c:l.row.toRowW.claim.pre args=Gk)(k:WellAll P h e args):
  ∃a o b,e=[Tq a]/\args=[WData.list (b.map JP)]/\h.get? a=Ga {cls:=.type "list",data:=.seq o.toArray}/\Ni o b/\⇑b<=n:=by
 have j:WShape.hasAll [] args [.list .int]=Gk:=(II c).1;have m:l.pre.holds [] {args:=args}=Gk:=(II c).2;have(d,r,rfl,p,s):=hasAllW_cons j;obtain rfl:=hasAllW_nil s;have(x,rfl,t):=hasW_list p;have(b,rfl):=items_int t;have g:⇑b<=n:=by
  unfold Aj at m;have f:(WTm.not (.lt (.lit (.int (n:Int))) (.len (.arg 0)))).holds [] {args:=[.list (b.map .int)]}=Gk:=by have f:=(holds_andW m).1;rw[u]at f;exact f
  have i:=condW_of f (w_not (w_lt w_lit (w_len_list (w_arg Xb))));rw[Gq]at i;refine Bp λq=>?_;have v:(n:Int)<((⇑b:Nat):Int):=by ext
  first
   |(rw[Tk v]at i;exact absurd i (by decide))
   |(simp at i;ext)
 cases k with
 |cons v w=>
  cases w;cases v with
  |list i f=>exact{2,b,11,i,K1 b _ f,g}
theorem VU(l:C8)(args:List WData):l.row.toRowW.claim.post args (.bool Gk) args=Gk:=
 postW_of (r:=l.row.toRowW) (X:=(Gk==Gk))
  (show IJ [] (.bool Gk) .bool=Gk by first|rfl|decide|simp[IJ,WShape.arms,WShape.armsAll])
  (show(WTm.eq .res (.lit (.bool Gk))).value [] {args:=args,res:=Ga (.bool Gk),after:=args}/(.bool (Gk==Gk))from w_eq_bool (w_res Xb) w_lit) rfl
theorem OF{l:C8}{n:Nat}{q:Gn}{c:List TQ}{B:(TQ->Option Gh)->Heap->Prop}{C:Ti->Heap->Prop}{d:C9}
  (Q:l.most/n)(v:d.params.defaults=[])
  (call:∀(w:Ti)(s₀ b:Gw)(s z:TQ->Option Gh)(i:Ge)(o:Lc)(A p e:Gh)(a:Ge)(h:List Gh)(t:List Int),
   Ground q c [] B w s₀ s z b.heap->C w b.heap->
   b.heap.get? i/o->o.data=.func (docDef d.name d.params d.body d.scope A p e)->b.heap.CodeRec p d.name->s d.name/↑i->
   b.heap.get? a=Ga {cls:=.type "list",data:=.seq h.toArray}->Ni h t->⇑t<=n->b.gens=#[]->
   codeAny (TV l.prog w) callerA (.call ↑i {[↑a],[]}) (λr s'=>r=.ok (.ret (.bool Gk))/\OldK b.heap s'.heap/\s'.os=b.os/\Mx s'.gens) b):
  WalkO q c B C l.row.toRowW d [] (λf h=>M4 f h):=by
 intro w s₀ b s z G Y i o A p e I kV R M u E x N D H U m F T y O;obtain rfl:I=.none:=Dflts.none E v;obtain rfl:kV=.none:=Dflts.noKw E;have(a,h,t,rfl,rfl,k,g,j):=QH Q m y;refine enter_call (Nf (call w s₀ b s z i o A p e a h t G Y R (fd_plain M) u x k g j N) λr s' S=>?_);have(rfl,J,K,L):=S;exact{.inl {.bool Gk,.bool Gk,[],1,λ_=>rfl,.bool Gk,VU l _,λ_=>{IY,λ_ P=>(nomatch P)}},J,K,L}
end Att
namespace L2
open PySem PySem.Spec PyProof.Rows
variable{k:Nat}{fd:Du}{x qual:TQ}{st:DX}{f:Ge}{A B:Prop}{H:Hp}
theorem PM{b:List Gh}{a:List Int}(h:Ni b a):Yh (a.map V.int) b:=by
 induction h with
 |nil=>exact .nil
 |cons n t _ c=>exact .cons ⟨t,Xb⟩ c
def qY(H:Hp):Prop:=∀b,H b=Gp\/∃o xs,H b/.frz o (.lst xs)
theorem Qus{P:Gn}{y:Ti}{K:Gd}{t I:TQ->Option Gh}{J:iQ}{E f:Ge}{X:Sp}{c:Gw}{l:List Gh}{w:List Int}
  (KX:K.In c.heap)(U:c.heap.Ns El t)(i:c.heap.Ns builtinsNs I)(ab:∀x:TQ,x≠"__name__"->I x=bootBuiltins x)(ad:c.heap.NoLimit)(hg:c.gens=#[])
  (A:c.heap.get? f=Ga {cls:=.type "list",data:=.seq l.toArray})(hi:Ni l w)(T:⇑w<=TF)(hr:Yd k callerA)
  (F:∀C:Heap,K.In C->C.Ns El t->Qz P y K t C J k E fd [x] X)(ac:∀(s:Gw)(u:Gh),RS s fd {[u],[]} [(x,u)])
  (af:∀b:Hp,qY b->Vh K b f (w.map V.int)->X [↑f] b (λv _=>v=.bl Gk) λ_ _ _=>False)
  (aa:∀b e j,J [] b c (λ_ _ _=>False) e j->False):
  codeAny (TV P y) callerA (.call ↑E {[↑f],[]}) (λr j=>r=.ok (.ret (.bool Gk))/\OldK c.heap j.heap/\j.os=c.os/\Mx j.gens) c:=by
 have W:=PM hi;have ag:=⇑hi;have N:∀b:Hp,qY b->Vh K b f (w.map V.int)->Ox P y b c.heap->(∀a,b a≠Gp->a=f)->(b f≠Gp->K.lookup f=Gp)->
   codeAny (TV P y) callerA (.call ↑E {[↑f],[]}) (λr j=>r=.ok (.ret (.bool Gk))/\OldK c.heap j.heap/\j.os=c.os/\Mx j.gens) c:=by
  intro b S hS L Q hK;have M:∀{a:Ge}{h:Lc},c.heap.get? a/h->b a=Gp->(jn c.heap b).get? a/h:=λe n=>Qxl e n;have ah:∀{a:Ge}{h:Lc}{o:Array LI}{m:Nat},c.heap.get? a/h->h.data=.dict o m->b a=Gp:=λ{a h o m}e d=>by
   cases q:b a with
   |none=>rfl
   |some u=>have D:a=f:=Q a (by rw[q];simp);subst D;rw[A]at e;cases e;have Z:J8 l.toArray _=Data.dict o m:=d;cases Z
  have B:∀{a:Ge}{H:TQ->Option Gh},c.heap.Ns a H->(jn c.heap b).Ns a H:=λ{a H}⟨h,o,m,e,d,r⟩=>{h,o,m,M e (ah e d),d,r};have R:K.In (jn c.heap b):=λa h e=>M (KX a h e) (by
   cases q:b a with
   |none=>rfl
   |some u=>have D:a=f:=Q a (by rw[q];simp);subst D;rw[hK (by rw[q];simp)]at e;cases e)
  have hM:Mod K t (jn c.heap b):={R,B U,{I,B i,ab},let⟨mc,h1,h2⟩:=ad;{mc,B h1,h2}};have e0:jS P y K t (jn c.heap b) callerA [] c b:={1,hM,λa h e=>ZZ e,Ff (QG _ _),trivial,λa i=>absurd (show a∈([]:List Ge)from i) ⋯,L,.of_eq hg};refine Nf ((F _ R (B U)).run callerA [] c b {[↑f],[]} [↑f] [↑f] _ _ hr e0 (ac c ↑f) (.cons rfl .nil) (af b S hS)) λr j p=>?_;cases r with
  |error e=>exact(aa b e j p).elim
  |ok fl=>
   cases fl with
   |next=>exact False.elim p
   |brk=>exact False.elim p
   |cont=>exact False.elim p
   |ret u=>
    have(v,H',os,Y,un,ae,r',q):=p;have q':v=.bl Gk:=q;subst q';obtain rfl:u=LC Gk:=r';refine{1,OldK.of_keep λa h e=>?_,os,Y};cases q:b a with
    |none=>exact un.keep a h e q (by intro g;exact absurd (show a∈([]:List Ge)from g) ⋯) ⋯
    |some u=>
     rcases S a with g|⟨ob,xs,g⟩
     .rw[q]at g;cases g
     .have z2:=un.Qbe a ob _ g;have(O,_):=L a _ g;have(e2,_):=ae a _ z2;rw[e]at O;cases O;exact e2
 cases G:K.lookup f with
 |some h=>have e:=KX f h G;rw[A]at e;cases e;refine N (λ_=>Gp) (λ_=>.inl Xb) (.inr {_,l.toArray,_,G,111,by rw[Ts,ag];exact T,by simpa using W}) (λa u g=>by have z:(Gp:Option HO)/u:=g;cases z) (λa g=>absurd rfl g) λg=>absurd rfl g
 |none=>
  refine N (λa=>if a=f then Ga (.frz {cls:=.type "list",data:=.seq l.toArray} (.lst (w.map V.int)))else Gp) (λa=>?_) (.inl (.inr {{cls:=.type "list",data:=.seq l.toArray},GY Xb})) (λa u g=>?_) (λa g=>?_) λ_=>G
  .by_cases i:a=f
   .exact .inr {2,GY i}
   .exact .inl (Gu i)
  .by_cases i:a=f
   .have z:=(GY i).symm.trans g;cases z;subst i;exact{A,by rw[Gq];exact T,l,_,W,A}
   .have z:=(Gu i).symm.trans g;cases z
  .by_cases i:a=f
   .exact i
   .exact absurd (Gu i) g
theorem YX{l:Np}{n:Nat}{q:Gn}{i:List TQ}{L:(TQ->Option Gh)->Heap->Prop}{I:Ti->Heap->Prop}{d:C9}{K:Ha->Gd}{CX:Ti->iQ}{sp:Ti->Sp}
  (S:l.most/n)(C:n<=TF)(A:d.params.defaults=[])(T:Yd k callerA)
  (O:∀(w:Ti)(h:Heap),I w h->(K w.params).In h)
  (F:∀(w:Ti)(j:TQ->Option Gh)(r:Ge)(h:Heap),(K w.params).In h->h.Ns El j->j d.name/↑r->
   ∃y:Du,(∀(s:Gw)(u:Gh),RS s y {[u],[]} [(x,u)])/\
    ∀b:Heap,(K w.params).In b->b.Ns El j->Qz l.prog w (K w.params) j b (CX w) k r y [x] (sp w))
  (D:∀(w:Ti)(H:Hp)(a:Ge)(t:List Int),⇑t<=n->qY H->Vh (K w.params) H a (t.map V.int)->sp w [↑a] H (λv _=>v=.bl Gk) λ_ _ _=>False)
  (z:∀(w:Ti)(H:Hp)(s:Gw)(e:Gh)(E:Gw),CX w [] H s (λ_ _ _=>False) e E->False):
  CL q i L I l.row.toRowW d [] (λf J=>M4 f J):=by
 refine Att.OF S A λw b p j Z r o pm U M a J t G Y X W Q B m g c R=>?_;have KX:=O w _ Y;have(y,P,N):=F w j r _ KX G.T.g B;exact Qus KX G.T.g G.T.b G.T.builtins G.T.nolimit R m g (Dj c C) T N P (λH b o=>D w H a t c b o) λH e E=>z w H p e E
abbrev Z4:iQ:=λ_ _ _ _ _ _=>False
abbrev E0:XK:=λ_ _ _=>False
theorem Q7{X:Cx}:R6 Z4 X E0:=λ_ _ _ _ _ _ _ h=>h.elim
structure Wc(K:Gd)(x qual:TQ)(st:DX)(f:Ge)(fd:Du):Prop where
 ex:∃(oc:Gh)(od:Option Ge)(kV doc pm:Gh)(an:Option Ge)(cdv ct:Gh)(osl:Array (Option Gh)),
  fd=EK x qual (Vj st) (Zd st) (Qm st) .none kV doc pm an cdv ct/\K.lookup f=Ga {oc,od,.func fd,osl}/\F0 K cdv qual=Gk
 kp:Ee K ↑f=Gk
section
variable{P:Gn}{w:Ti}{K:Gd}{mg:TQ->Option Gh}{base:Heap}
theorem Wc.ok{N j:List TQ}{l:Sp}(F:Wc K x qual st f fd)(S:Q4 N j (Qm st))(i:∀d H Q E,l d H Q E->⇑d=⇑j)
  (c:∀(b:Gh)(A:DW)(a:List Bh)(s:Gw)(H:Hp)(d:List V)(Q:VK)(E:XK),Yd k (A.deeper (envOfC qual (Qm st) s.heap.objs.size f b))->l d H Q E->
   ∃t,Wf (jH Z4 P w K mg base N qual (Qm st) f b A a s H E).nox (Zd st) t/\t {nx:=λ_ H'=>Q .non H',rt:=Q} (start N d) H):Qz P w K mg base Z4 (k+1) f fd j l:=by
 have(v,y,kV,m,z,r,b,u,p,rfl,o,e):=F.ex;refine WL o e S i λA a s H d Q E n g=>?_;have(t,h,q):=c b A a s H d Q E n g;exact{t,h.nox,q}
theorem Wc.binds{e:List TQ}(F:Wc K x qual st f fd)
  (h:∀(kV b d:Gh)(c:Option Ge)(a ct:Gh)(g:List Gh),⇑g=⇑e->bindArgs (EK x qual (Vj st) (Zd st) (Qm st) .none kV b d c a ct) {g,[]}=pure (e.zip g)):zk K fd e []:=by
 have(k,l,kV,b,d,c,a,ct,i,rfl,j,g):=F.ex;exact .all (h kV b d c a ct)
theorem vm{h:Gh}{i e:Option Ge}{d:Array (Option Gh)}{kV b g a ct:Gh}(l:K.lookup f=Ga {h,i,.func (EK x qual (Vj st) (Zd st) (Qm st) .none kV b g e a ct),d})
  (c:F0 K a qual=Gk)(k:Ee K ↑f=Gk):Wc K x qual st f (EK x qual (Vj st) (Zd st) (Qm st) .none kV b g e a ct):={⟨h,i,kV,b,g,e,a,ct,d,Xb,l,c⟩,k}
end
theorem Jy{A:DW}(a:Yd k A):A.units+1<E3:=Sn (Nat.add_le_add_left (by decide:1<=64) _) a.units
section
variable{X:Cx}
theorem pv(i:Nat){b:MQ}(c:X.N[i]?/x:=by rfl)(e:su X.env.scope x:=by infer_instance)(d:(x==("__debug__":TQ))=Gx:=by decide)
  (a:(x==("__classdict__":TQ))=Gx:=by decide):PE X (.Name x b) (Vi i):=Pa c e d a
theorem Q6(h:B):if Gx=Gk then A else B:=by rw[Gu TH];exact h
theorem Yw(h:A):if Gk=Gk then A else B:=by rw[GY rfl];exact h
theorem Uv{c:Prop}[Decidable c](a:c->A)(b:¬c->B):if c then A else B:=by
 by_cases h:c
 .rw[GY h];exact a h
 .rw[Gu h];exact b h
theorem jY{c:Prop}[Decidable c](a:c)(h:B):if(!decide c)=Gk then A else B:=by rw[Tk a];exact Q6 h
def Q5(H H':Hp):Prop:=∀b o,H b/o->H' b/o
theorem Q5.trans{d e:Hp}(a:Q5 H d)(b:Q5 d e):Q5 H e:=λc o h=>b c o (a c o h)
theorem Q5.free{a:Hp}(e:Q5 H a){l:Ge}(h:a l=HI):H l=HI:=by
 cases q:H l with
 |none=>rfl
 |some o=>rw[e l o q]at h;cases h
theorem Q5.seq{K:Gd}{b:Hp}{a:Ge}{c:List V}(e:Q5 H b)(h:Vh K H a c):Vh K b a c:=by
 rcases h with(h|⟨o,h⟩)|h
 .exact .inl (.inl (e _ _ h))
 .exact .inl (.inr {o,e _ _ h})
 .exact .inr h
theorem Qr0:Us X (.builtin "len") (λxs H Q=>∃a b,xs=[V.ref a]/\H a/.dK b/\Q (.int ⇑b) H):=by intro c s j H xs i Q I r h;have(a,b,rfl,e,q):=h;have(u,rfl,f):=vals1 r;cases f;exact Q6m I (.inl e) λt g d=>{.int ⇑b,H,d,⟨t,Xb⟩,q}
end
end L2
namespace Sb
inductive jK{a:Type}(p:a->Prop):Prop|mk a1:p a1->jK p
inductive jT{a b:Type}(p:a->b->Prop):Prop|mk a1 b1:p a1 b1->jT p
inductive jc{a b c:Type}(p:a->b->c->Prop):Prop|mk a1 b1 c1:p a1 b1 c1->jc p
inductive iE{a b c d:Type}(p:a->b->c->d->Prop):Prop|mk a1 b1 c1 d1:p a1 b1 c1 d1->iE p
inductive iZ{a b c d e:Type}(p:a->b->c->d->e->Prop):Prop|mk a1 b1 c1 d1 e1:p a1 b1 c1 d1 e1->iZ p
inductive jk{a b c d e f:Type}(p:a->b->c->d->e->f->Prop):Prop|mk a1 b1 c1 d1 e1 f1:p a1 b1 c1 d1 e1 f1->jk p
inductive sZ{a b c d e f g:Type}(p:a->b->c->d->e->f->g->Prop):Prop|mk a1 b1 c1 d1 e1 f1 g1:p a1 b1 c1 d1 e1 f1 g1->sZ p
inductive sq{a b c d e f g h:Type}(p:a->b->c->d->e->f->g->h->Prop):Prop|mk a1 b1 c1 d1 e1 f1 g1 h1:p a1 b1 c1 d1 e1 f1 g1 h1->sq p
inductive rX{a b c d e f g h i:Type}(p:a->b->c->d->e->f->g->h->i->Prop):Prop|mk a1 b1 c1 d1 e1 f1 g1 h1 i1:p a1 b1 c1 d1 e1 f1 g1 h1 i1->rX p
inductive xW{a b c d e f g h i j:Type}(p:a->b->c->d->e->f->g->h->i->j->Prop):Prop|mk a1 b1 c1 d1 e1 f1 g1 h1 i1 j1:p a1 b1 c1 d1 e1 f1 g1 h1 i1 j1->xW p
inductive ro{a b c d e f g h i j k l m:Type}(p:a->b->c->d->e->f->g->h->i->j->k->l->m->Prop):Prop|mk a1 b1 c1 d1 e1 f1 g1 h1 i1 j1 k1 l1 m1:p a1 b1 c1 d1 e1 f1 g1 h1 i1 j1 k1 l1 m1->ro p
inductive kU(a b:Prop):Prop|mk:a->b->kU a b
inductive j8(a b c:Prop):Prop|mk:a->b->c->j8 a b c
inductive jR(a b c d:Prop):Prop|mk:a->b->c->d->jR a b c d
inductive ju(a b c d e:Prop):Prop|mk:a->b->c->d->e->ju a b c d e
inductive mw(a b c d e f:Prop):Prop|mk:a->b->c->d->e->f->mw a b c d e f
inductive jD(a b c d e f g:Prop):Prop|mk:a->b->c->d->e->f->g->jD a b c d e f g
inductive iu(a b c d e f g h:Prop):Prop|mk:a->b->c->d->e->f->g->h->iu a b c d e f g h
inductive mJ(a b c d e f g h i:Prop):Prop|mk:a->b->c->d->e->f->g->h->i->mJ a b c d e f g h i
inductive rK(a b c d e f g h i j k l:Prop):Prop|mk:a->b->c->d->e->f->g->h->i->j->k->l->rK a b c d e f g h i j k l
inductive lG(a b c d e f g h i j k l m n:Prop):Prop|mk:a->b->c->d->e->f->g->h->i->j->k->l->m->n->lG a b c d e f g h i j k l m n
inductive sL(a b c d e f g h i j k l m n o:Prop):Prop|mk:a->b->c->d->e->f->g->h->i->j->k->l->m->n->o->sL a b c d e f g h i j k l m n o
theorem hid{G:Prop}(f:(g:Prop)->(G->g)->g):G:=f G id
end Sb
namespace L2
open PySem
variable{X:Cx}{scope:Nl}{fv:List (Nat×TQ)}{env:Bh}{zq:List (Ge×Lc)}{σ:St}{H:Hp}{own:List TQ}{xs:List V}
def inB(s:DX):List DX:=match s with
 |.If _ a _ _=>a
 |.While _ a _ _=>a
 |.For _ _ a _ _=>a
 |_=>[]
def elB(s:DX):List DX:=match s with
 |.If _ _ a _=>a
 |_=>[]
noncomputable def sub:List Nat->List DX->List DX
 |i::k::p,l=>sub p (match l.drop i,k with|[],_=>[]|s::_,0=>inB s|s::_,_=>elB s)
 |[i],l=>l.drop i
 |[],l=>l
open PySem PySem.Spec PyProof.Rows
noncomputable def ccx(X:Cx)(N:List TQ)(scope:Nl)(a:List (TQ×Ge))(C:Ge)(fp:List Ge)(s:Gw)(H:Hp):Cx where
 prog:=X.prog
 w:=X.w
 K:=X.K
 mg:=X.mg
 base:=X.base
 A:=X.A
 N:=N
 s₀:=s
 H₀:=H
 env:=compEnvC scope a C X.env
 outer:=X.stack
 stack:=X.stack
 ex:=fp
 calm:=X.calm
 fn:=λ_=>Gx
 pn:=[]
 xe:=λ_ _=>False
inductive FV(X:Cx)(scope:Nl):List (Nat×TQ)->Prop
 |nil:FV X scope []
 |cons {j:Nat} {x:TQ} {r:List (Nat×TQ)}:X.N[j]?/x->(X.env.scope.names.lookup x/.cell\/X.env.scope.names.lookup x/.free)->scope.names.lookup x/.free->FV X scope r->FV X scope ((j,x)::r)
theorem FV.get{k j:Nat}{x:TQ}(h:FV X scope fv)(e:fv[k]?/(j,x)):
  X.N[j]?/x/\(X.env.scope.names.lookup x/.cell\/X.env.scope.names.lookup x/.free)/\scope.names.lookup x/.free:=by
 induction h generalizing k with
 |nil=>cases e
 |cons a b c _ d=>cases k with
  |zero=>cases e;exact⟨a,b,c⟩
  |succ=>exact d e
theorem Up{env:Bh}:∀{names:List (TQ×FD)}{x:TQ},names.lookup x/.free->
  (names.map λ(n,k)=>if(k==DA&&env.scope.kind==.function&&env.kindOf n==Ga .cell)then(n,MH)else(n,k)).lookup x/.cell\/
  (names.map λ(n,k)=>if(k==DA&&env.scope.kind==.function&&env.kindOf n==Ga .cell)then(n,MH)else(n,k)).lookup x/.free
 |[],_,h=>by simp at h
 |(n,k)::r,x,h=>by
  have b:=@Up env r x;rw[TC];dsimp only;cases hx:x==n with
  |true=>
   simp -iota only [DY,hx]at h;cases h;by_cases a:(DA==DA&&env.scope.kind==.function&&env.kindOf n==Ga .cell)=Gk
   .left;rw[GY a];simp only[DY,hx]
   .right;rw[Gu a];simp only[DY,hx]
  |false=>
   simp -iota only [DY,hx]at h;by_cases a:(k==DA&&env.scope.kind==.function&&env.kindOf n==Ga .cell)=Gk
   .rw[GY a];simp -iota only [DY,hx];exact b h
   .rw[Gu a];simp -iota only [DY,hx];exact b h
theorem Jn{env:Bh}:∀{names:List (TQ×FD)}{x:TQ},
  ((names.map λ(n,k)=>if(k==DA&&env.scope.kind==.function&&env.kindOf n==Ga .cell)then(n,MH)else(n,k)).lookup x/.cell\/
  (names.map λ(n,k)=>if(k==DA&&env.scope.kind==.function&&env.kindOf n==Ga .cell)then(n,MH)else(n,k)).lookup x/.free)->
  names.lookup x/.cell\/names.lookup x/.free
 |[],_,h=>by simp at h
 |(n,k)::r,x,h=>by
  have c:=@Jn env r x;rw[TC]at h;dsimp only at h;cases hx:x==n with
  |true=>
   by_cases a:(k==DA&&env.scope.kind==.function&&env.kindOf n==Ga .cell)=Gk
   .right;have d:(k==DA)=Gk:=(E4.mp (E4.mp a).1).1;have b:k=.free:=by simpa using d
    simp only[DY,hx,b]
   .rw[Gu a]at h;simp -iota only [DY,hx]at h⊢;exact h
  |false=>
   by_cases a:(k==DA&&env.scope.kind==.function&&env.kindOf n==Ga .cell)=Gk
   .rw[GY a]at h;simp -iota only [DY,hx]at h⊢;exact c h
   .rw[Gu a]at h;simp -iota only [DY,hx]at h⊢;exact c h
theorem Pz(names:List (TQ×FD))(b:List (TQ×Ge))(j:∀x,(x,DA)∈names->∃c,env.cells.lookup x/c)(l:∀x c,b.lookup x/c->env.cells.lookup x/c):
  ∃f:List (TQ×Ge),(forIn names b (λ(x:TQ×FD)(b:List (TQ×Ge))=>if x.2==DA then(cellOf env x.1>>=λc=>pure (Sg ((x.1,c)::b)))else pure (Sg b)):Ae (List (TQ×Ge)))=pure f/\
   (∀x c,f.lookup x/c->env.cells.lookup x/c)/\(∀x,(∃c,b.lookup x/c)\/(x,DA)∈names->∃c,f.lookup x/c):=by
 induction names generalizing b with
 |nil=>exact{b,1,l,λx h=>h.elim id λz=>nomatch z}
 |cons p r s=>
  have(n,k):=p;rw[SF];by_cases m:k=.free
  .subst m;have(c,o):=j n G8;have e:cellOf env n=pure c:=by unfold cellOf;rw[o]
   have(f,g,h,i):=s ((n,c)::b) (λx a=>j x (Gr _ a)) (λx d a=>by
    rw[DY]at a;cases q:x==n with
    |true=>
     rw[q]at a;have t:x=n:=by simpa using q
     rw[t,o];exact a
    |false=>rw[q]at a;exact l x d a)
   refine{f,?_,h,λx a=>i x ?_}
   .simp -iota only [LJ,Fz,e,pure_bind];exact g
   .rcases a with⟨d,t⟩|a
    .left;rw[DY];cases q:x==n with
     |true=>exact{40}
     |false=>exact⟨d,t⟩
    .rcases Td.mp a with z|z
     .left;have:x=n:=congrArg Prod.fst z;subst this;exact{c,by simp -iota [DY]}
     .exact .inr z
  .have e:(k==DA)=Gx:=by simpa using m
   have(f,g,h,i):=s b (λx a=>j x (Gr _ a)) l;refine{f,?_,h,λx a=>i x ?_}
   .simp -iota only [e,DQ,EN,pure_bind];exact g
   .rcases a with z|z
    .exact .inl z
    .rcases Td.mp z with z|z
     .exact absurd (congrArg Prod.snd z).symm m
     .exact .inr z
theorem ZC(i:∀x,(x,DA)∈scope.names->∃c,env.cells.lookup x/c):
  ∃a:List (TQ×Ge),closureFor scope env=pure a/\(∀x c,a.lookup x/c->env.cells.lookup x/c)/\(∀x,(x,DA)∈scope.names->∃c,a.lookup x/c):=by
 have(a,d,f,g):=Pz (env:=env) scope.names [] i (λx c h=>by simp at h);refine{a,?_,f,λx j=>g x (.inr j)};have e:closureFor scope env=((forIn scope.names ([]:List (TQ×Ge)) (λ(x:TQ×FD)(b:List (TQ×Ge))=>if x.2==DA then(cellOf env x.1>>=λc=>pure (Sg ((x.1,c)::b)))else pure (Sg b)):Ae (List (TQ×Ge)))>>=λb=>pure b):=rfl;rw[e,d];rfl
noncomputable def Io(n:Nat)(a:List (Nat×TQ))(σ:St):St:=D4 n Gp++a.map λq=>(σ[q.1]?).join
theorem Pb{s:Gw}{A:List (TQ×Ge)}{B:List Ge}{t:Heap}{ob:Lc}{J:TQ->Option Gh}{t':Nat}
  (c:zx X zq σ H s)(P:scope.kind=.function)(F:FV X scope fv)(m:∀x d,A.lookup x/d->X.env.cells.lookup x/d)(E:∀x,(x,DA)∈scope.names->∃d,A.lookup x/d)
  (T:∀y∈scope.names,y.2≠.cell)(v:∀b∈B,iq X zq H b)(R:∀b∈B,b<s.heap.objs.size)
  (S:t.Ns s.heap.objs.size J)(V:Eb s.heap.objs.size (s.heap.push ob) t):
  zx (ccx X (own++fv.map (·.2)) scope A s.heap.objs.size B s H) [] (Io ⇑own fv σ) H {s with heap:=t,toks:=t'}:=by
 have z:∀b u,s.heap.get? b/u->t.get? b/u:=λb u e=>(V.2 b (T9 (Tn e))).trans (Gm _ e);have N:∀x,(scope.names.lookup x/.cell\/scope.names.lookup x/.free)->(x,DA)∈scope.names:=λx g=>by
  rcases g with g|g
  .exact absurd rfl (T _ (EB g))
  .exact EB g
 exists ⟨c.ok.mod,P,c.ok.glob,c.ok.blt,Gy _,λx y d f a=>c.ok.inj x y d (m x d f) (m y d a),λx g=>E x (N x (Jn (env:=X.env) g)),λ_ _ g _=>(TH g).elim,
   c.ok.hd,c.ok.frames,.inl Xb,λb k=>{T9 (R b k),λx d e=>(v b k).2.2.2.2.1 x d (m x d e)},c.bs,Dj c.ok.bsz c.sz,λb o e k=>?_,λb k O=>?_,c.stack,c.xB⟩,
  Xb,c.bare,Un.kept z,{J,S,λi x l f a e3=>?_},λx d e=>?_,c.Yc.fresh (Gy _),λx d e=>c.Iw x d (m x d e),λp U=>absurd (show p∈([]:List (Ge×Lc))from U) ⋯,c.Yc.kept z
 .rcases(v b k).2.2.2.1 with h|h
  .exact c.ok.Qu9 b o e h
  .exact absurd (TZ (Tn e) (Dj c.ok.bsz h)) (ER _)
 .rcases Td.mp (c.ox b O)with h|h
  .exact(v b k).2.1 h
  .exact(v b k).2.2.1 h
 .have f:(own++fv.map (·.2))[i]?/x:=f;by_cases hi:i<⇑own
  .have a:(Io ⇑own fv σ)[i]?/Ga l:=a;unfold Io at a;rw[Tz (by simpa using hi),MU]at a;split at a<;>cases a
  .have a:(Io ⇑own fv σ)[i]?/Ga l:=a;unfold Io at a;rw[Dc (by simpa using hi),Sw,Ta]at a;rw[Dc (by lia),Ta]at f;cases q:fv[i - ⇑own]? with
   |none=>rw[q]at f;cases f
   |some p=>
    have(j,y):=p;rw[q]at f a;have f:Ga y/x:=f;cases f;have a:Ga (σ[j]?).join/Ga l:=a;have a:=T1 a;have(M,n,G):=F.get q;have L:σ[j]?/Ga l:=by
     cases r:σ[j]? with
     |none=>rw[r]at a;cases a
     |some h=>rw[r]at a;exact congrArg Ga a
    have(m0,aa,Q):=c.loc;have(u,ru,Z):=Q j x l M L (.inr n);exists u,ru;rcases Z with⟨w,_⟩|⟨w,d,W,Y⟩
    .exfalso;have w:X.env.scope.names.lookup x/.local:=w;rcases n with n|n<;>(rw[w]at n;cases n)
    .obtain⟨K,I⟩:=E x (EB G);have:=m x K I;rw[W]at this;cases this;refine .inr {Up (env:=X.env) G,d,I,?_};have(o,D,C):=Y;exact{o,z _ _ D,C}
 .obtain⟨l,o,D,C⟩:=c.cell x d (m x d e);exact{l,o,z _ _ D,C}
 .show ⇑(Io own.length fv σ)=⇑(own++fv.map (·.2));unfold Io;simp
def jV(X:Cx)(ifs:List Ea)(t:TT):Prop:=
 ∀(zq:List (Ge×Lc))(s:Gw)(σ:St)(H:Hp)(Q:Bool->Hp->Prop),zx X zq σ H s->t σ H Q->
  wpAny (TV X.prog X.w) X.A (forIn ifs Gk λc r=>if r=Gk then do let ok<-isTrue c X.env (eval c X.env);pure (Sg ok)else pure (Sg r)) (TP X zq σ Q) X.xe s
def nj:TT:=λ_ H Q=>Q Gk H
theorem Xk:jV X [] nj:=λa s b H Q I h=>wpAny_tests_nil ⟨H,I,h⟩
theorem oU{c:Ea}{t:TT}(h:PT X c t):jV X [c] t:=λa s b H Q I hw=>wpAny_tests_one (h a s b H Q I hw)
section
variable{prog:Gn}{w:Ti}{A:DW}{R:He->Gw->Prop}{s:Gw}
theorem Qh8{o a iter:Ea}{p:List Ea}{y:MQ}{z l:Gh}(I:Nat->Gw->Prop)
  (turn:∀n s,I n s->wpAny (TV prog w) A (pyNext z) (λr b=>match r with
   |none=>R (.ok .next) b
   |some v=>wpAny (TV prog w) A (letOwnedTupleGo a z v) (λ_ b=>wpAny (TV prog w) A (assign a env v) (λ_ i=>
     wpAny (TV prog w) A (forIn p Gk λc r=>if r=Gk then do let ok<-isTrue c env (eval c env);pure (Sg ok)else pure (Sg r)) (λok f=>
      if ok=Gk then wpAny (TV prog w) A (eval o env) (λx j=>wpAny (TV prog w) A (call (.builtin "list.append") [l,x]) (λ_ k=>∃m,m<n/\I m k) (λ_ _=>False) j) (λ_ _=>False) f
      else∃m,m<n/\I m f) (λ_ _=>False) i) (λ_ _=>False) b) (λ_ _=>False) b) (λ_ _=>False) s)
  (n:Nat)(h:I n s):
  codeAny (TV prog w) A (.compLoop (.ListComp o [{a,iter,p,(0)}] scope y) 0 z l env) R s:=by
 refine codeAny_loop rfl I (λn s B=>?_) n h;show wpAny _ A ((compTurn (.ListComp o [{a,iter,p,(0)}] scope y) 0 z l env).onRaise (λx=>do noteFrame x env;theTreesLotGoes x)) _ _ s;refine wpAny_noted ?_;rw[compTurn_list];refine Gb (NU (Gb (E1 (turn n s B) (λr b d=>?_) λ_ _ e=>e.elim)));cases r with
 |none=>exact Gj d
 |some v=>
  refine Gb (E1 d (λ_ b d=>?_) λ_ _ e=>e.elim);refine Gb (E1 d (λ_ i q=>Gb (E1 q (λok f g=>?_) λ_ _ e=>e.elim)) λ_ _ e=>e.elim);cases ok with
  |false=>exact Gj ⟨Xb,g⟩
  |true=>exact Gb (Gb (E1 g (λx j t=>Gb (E1 t (λ_ k u=>Gj (Gj ⟨Xb,u⟩)) λ_ _ e=>e.elim)) λ_ _ e=>e.elim))
end
def jL(p:Ge)(J:It)(g:TG)(tt:TT)(te:TE)(Q:Hp->Prop)(e:St)(j:Hp):Prop:=
 ∃W:Nat->Nat->St->Hp->Prop,(∃m,W 0 m e j)/\∀i m σ H,W i m σ H->
  (J.stop i H/\Q H)\/(J.go i H/\∃(N:V->St->Hp->Prop)(h:St->Hp->Prop),(∀v a H',N v a H'->∃ys,H' p/.lst ys/\⇑ys<TF/\∃d,d<m/\W (i+1) d a (zj H' p (.lst (ys++[v]))))/\
   (∀a H',h a H'->∃d,d<m/\W (i+1) d a H')/\
   ∀x H',J.yld i H x H'->g x σ H' λc H2=>tt c H2 λb f=>if b=Gk then te c f λv k=>N v c k else h c f)
def xc(n:Nat)(a:List (Nat×TQ))(wi:TI)(g:TG)(tt:TT)(te:TE):TE:=λσ H Q=>wi σ H λJ H1=>∀p,H1 p=Gp->jL p J g tt te (λH'=>Q ↑p H') (Io n a σ) (zj H1 p (.lst []))
section
variable{X:Cx}{elt tg iter:Ea}{ifs:List Ea}{scope:Nl}{pos:MQ}{wi:TI}{g:TG}{tt:TT}{te:TE}
structure Xm(esc scope:Nl):Prop where
 kind:scope.kind=.function
 Qwt:∀y∈scope.names,y.2≠.cell
 loc:∀x∈scope.names,x.2=.local->scope.names.lookup x.1/.local
 fre:∀y∈scope.names,y.2=.free->esc.names.lookup y.1/.cell\/esc.names.lookup y.1/.free
theorem we{t:Hp}{c:Gw}{it:Ge}{e:List Ge}{I:Nat->Heap->Prop}{ai:It}{k:List (TQ×Ge)}{Q:VK}{RR:Gh->Ge->He->Gw->Prop}{ah:Gh->Gw->Prop}
  (hc:X.calm=Gk)(S:Xm X.env.scope scope)(F:FV X scope fv)(c1:∀x v,k.lookup x/v->X.env.cells.lookup x/v)(c2:∀x,(x,DA)∈scope.names->∃v,k.lookup x/v)
  (hg:∀k f e s G,PG (ccx X (own++fv.map (·.2)) scope k f e s G) tg g)(ht:∀k f e s G,jV (ccx X (own++fv.map (·.2)) scope k f e s G) ifs tt)(he:∀k f e s G,PE (ccx X (own++fv.map (·.2)) scope k f e s G) elt te)
  (T:zx X zq σ t c)(o:i0 X.prog X.w X.K tg ai e it I)(ae:I 0 c.heap)(f2:∀b∈e,iq X zq t b)
  (q:∀p,t p=Gp->jL p ai g tt te (λH'=>Q ↑p H') (Io ⇑own fv σ) (zj t p (.lst [])))
  (ax:∀(p f:Ge)(H':Hp)(C:Gw),zx X zq σ H' C->(∃N,C.heap.Ns f N)->iq X zq H' f->Q ↑p H'->RR ↑p f (.ok .next) C):
  wpAny (TV X.prog X.w) X.A (newList []) (λaj az=>wpAny (TV X.prog X.w) X.A (newFunctionEnv scope X.env.globals k [] X.env.qual Gp .none (Ga X.env)) (λak aA=>codeAny (TV X.prog X.w) X.A (.compStart (.ListComp elt [{tg,iter,ifs,(0)}] scope pos) 0 ↑it aj {ak with scope:=relabel scope X.env}) (RR aj ak.locals) aA) ah az) ah c:=by
 have q:=q c.heap.objs.size (T.Yc.fresh (Gy _));have L:=T.vq (ys:=[]) (its:=[]) (t':=c.toks) .nil (Tw _);have aC:t c.heap.objs.size=Gp:=T.Yc.fresh (Gy _);refine DE (wpAny_newFunctionEnv S.Qwt (by intro y M;simp at M) (λan ay am=>?_) S.kind);have r:∀b∈e,iq X zq (zj t c.heap.objs.size (.lst [])) b:=λb a=>by have(B,j,_):=o.obj 0 _ ae b a;exact{by rw[Qh (T9 (Tn j))];exact(f2 b a).1,(f2 b a).2}
 have ac:∀b∈e,b<(c.heap.push {cls:=.type "list",data:=.seq ([]:List Gh).toArray}).objs.size:=λb a=>by have(B,j,_):=o.obj 0 _ ae b a;exact Tn (Gm _ j)
 have aq:I 0 an:=o.keep 0 _ _ ae λb a B j=>(am.2 b (T9 (ac b a))).trans (Gm _ (Gm _ j));have I4:=Pb (own:=own) (fv:=fv) (t':=c.toks+⇑([]:List (TQ×Gh))) L S.kind F c1 c2 S.Qwt r ac ay am;have(W,(m0,w0),turn):=q;generalize hC:(c.heap.push {cls:=.type "list",data:=.seq ([]:List Gh).toArray}).objs.size=f at*;have ao:codeAny (TV X.prog X.w) X.A (.compLoop (.ListComp elt [{tg,iter,ifs,(0)}] scope pos) 0 ↑it ↑c.heap.objs.size (compEnvC scope k f X.env)) (RR ↑c.heap.objs.size f)
   {c with heap:=an,toks:=c.toks+⇑([]:List (TQ×Gh))}:=by
  generalize l:ccx X (own++fv.map (·.2)) scope k f e {c with heap:=c.heap.push {cls:=.type "list",data:=.seq ([]:List Gh).toArray}} (zj t c.heap.objs.size (.lst []))=h at I4;have ag:∀{H':Hp},(∀b∈e,H' b=Gp)->∀b∈e,iq h [] H' b:=λ{H'}hn b a=>by
   subst l;refine{hn b a,T9 (ac b a),λE=>?_,.inl a,λx v j=>(r b a).2.2.2.2.1 x v (c1 x v j),λp hp=>absurd (show p∈([]:List (Ge×Lc))from hp) ⋯};rcases Td.mp (L.ox b E)with E|E
   .exact(r b a).2.1 E
   .exact(r b a).2.2.1 E
  have V:h.prog=X.prog:=by subst l;rfl
  have Y:h.w=X.w:=by subst l;rfl
  have eK:h.K=X.K:=by subst l;rfl
  have U:h.A=X.A:=by subst l;rfl
  have eC:h.calm=Gk:=by subst l;exact hc
  have eE:h.env=compEnvC scope k f X.env:=by subst l;rfl
  have ex:h.xe=λ_ _=>False:=by subst l;rfl
  have aa:PG h tg g:=by subst l;exact hg _ _ _ _ _
  have ab:jV h ifs tt:=by subst l;exact ht _ _ _ _ _
  have Z:PE h elt te:=by subst l;exact he _ _ _ _ _
  unfold PG at aa;unfold jV at ab;unfold PE at Z;rw[V,Y,U,eE,ex]at aa ab Z;refine Qh8 (λn C=>∃i J H',zx h [] J H' C/\I i C.heap/\(∀b∈e,H' b=Gp)/\W i n J H') ?_ m0 {(0),2,I4,aq,λb a=>(r b a).1,w0};rintro n s3 ⟨i,R,w,J3,ap,al,w3⟩;rcases turn i n R w w3 with⟨stop,qn⟩|⟨go,aB,N',hN,aw,step⟩
  .have d:=o.done h V Y eK eC i [] s3 R w (λ_ _=>False) J3 (ag al) ap stop;rw[U]at d;refine Xf d λad s4 m=>?_;have(hr,z):=m;subst hr;show RR _ f (.ok .next) s4;have u:=z.base;have Yc:=z.Yc;have os:=z.os;have au:=z.bare;have(m4,n4,_):=z.loc;have fC:=z.free;subst l;have I5:zx X zq σ w s4:=L.UL (ch:=e) os u Yc au λb a=>{(r b a).2.2.2.1,(r b a).2.1,(r b a).2.2.2.2.1,(r b a).2.2.2.2.2};refine ax _ f w s4 I5 ⟨m4,n4⟩ ?_ qn;rw[<-hC];exact L.jq (Gy _) (by show w _=Gp;rw[hC];exact fC)
  .have d:=o.item h V Y eK eC i [] s3 R w (λ_ _=>False) J3 (ag al) ap go;rw[U]at d;refine Xf d λad s4 m=>?_;have(u,hr,h4):=m;subst hr;refine Xf h4 λ_ s5 m=>?_;have(x,H5,J5,r5,y5,af,av):=m;have ar:=J5.pinned (ag av) (o.obj _ _ af);refine Xf (aa _ s5 R H5 x u _ ar r5 (step x H5 y5)) λ_ s6 m=>?_;have(K,H6,J6,q6):=m;refine Xf (ab _ s6 K H6 _ J6 q6) λok s7 m=>?_;have(H7,J7,P):=m;have again:∀{D:Gw}{H:Hp},zx h ([]++lA e s5.heap) K H D->(∃O,O<n/\W (i+1) O K H)->∃N,N<n/\∃i J H',zx h [] J H' D/\I i D.heap/\(∀b∈e,H' b=Gp)/\W i N J H':=λ{D H}A⟨O,hm,w8⟩=>by refine{O,hm,i+1,K,H,A.nt,o.keep _ _ _ af λb a B j=>(A.pin (b,B) (TL _ (TL _ (Ic a j)))).1,λb a=>?_,w8};have(B,j,d):=o.obj _ _ af b a;exact(A.pin (b,B) (TL _ (TL _ (Ic a j)))).2.1
   cases ok with
   |false=>rw[Gu TH]at P⊢;exact again J7 (aw _ _ P)
   |true=>rw[GY rfl]at P⊢;refine Xf (Z _ s7 K H7 _ J7 P) λxv D m=>?_;have(aD,H,A,r8,q8):=m;have(ys,M,hz,q8):=hN _ _ _ q8;have(E,its,n',ad,hl,j):=A.jI M;refine RB Tx {_,j,1} Cd (BQ _ _) (RV c.heap.objs.size its.toArray n' xv (by rw[Ts];lia)) {j,?_};refine again (A.o9 (its':=its++[xv]) (t':=D.toks) M j ⋯ (ad.append (.cons r8 .nil)) ?_) q8;rw[Gs,Tg];lia
 exact codeAny_compStart_list ao (o.self X.A 0 _ _ _ aq ao)
theorem tm{s:Gw}(S:Xm X.env.scope scope)(I:zx X zq σ H s):
  ∃a:List (TQ×Ge),closureFor scope X.env=pure a/\(∀x c,a.lookup x/c->X.env.cells.lookup x/c)/\(∀x,(x,DA)∈scope.names->∃c,a.lookup x/c):=
 ZC λx b=>I.ok.has x (S.fre (x,.free) b Xb)
theorem Wm(E:X.calm=Gk)(S:Xm X.env.scope scope)(F:FV X scope fv)(hi:PI X tg iter wi)
  (K:∀c C d s H,PG (ccx X (own++fv.map (·.2)) scope c C d s H) tg g)(ht:∀c C d s H,jV (ccx X (own++fv.map (·.2)) scope c C d s H) ifs tt)(G:∀c C d s H,PE (ccx X (own++fv.map (·.2)) scope c C d s H) elt te)
  (hs:∀x,foldedSetIterable iter X.env x=pure x:=by intro _;rfl):PE X (.ListComp elt [{tg,iter,ifs,(0)}] scope pos) (xc ⇑own fv wi g tt te):=by
 intro a s n H Q I h;rw[eval_ListComp];have(c,i,w,y):=tm S I;refine MI (use:=Gp) rfl hs i S.kind S.loc (Xf (hi a s n H _ I h) λv U A=>Xf A λM V B=>?_);have(R,d,W,J,O,e,u,T,l,z,q):=B;subst e;refine we (Q:=Q) (RR:=λb C=>compPost (TV X.prog X.w) X.A X.xe Gp (EP X a n Q) b C) E S F w y K ht G u T l z q λp C r N t j f L=>?_;have(m,j):=j;refine{m,j,λP k=>{↑p,r,?_,1,L}};exact t.turned (t':=N.toks) (λb o D e=>(k.2 b D).trans e) f.1 f.2.1 f.2.2.2.1 f.2.2.2.2.1 f.2.2.2.2.2
theorem V8{i:Nat}{y:TQ}{f z:MQ}(R:X.N.Nodup)(Z:X.N[i]?/y)(w:X.env.scope.names.lookup y/.local)(U:X.calm=Gk)(S:Xm X.env.scope scope)(F:FV X scope fv)(hi:PI X tg iter wi)
  (Y:∀d a e s b,PG (ccx X (own++fv.map (·.2)) scope d a e s b) tg g)(ht:∀d a e s b,jV (ccx X (own++fv.map (·.2)) scope d a e s b) ifs tt)(W:∀d a e s b,PE (ccx X (own++fv.map (·.2)) scope d a e s b) elt te)
  (ab:swapsWith (.ListComp elt [{tg,iter,ifs,(0)}] scope pos) (Ga (.Name y f)) z.line X.env=pure Gk:=by rfl)
  (hs:∀x,foldedSetIterable iter X.env x=pure x:=by intro _;rfl):PS X (.Assign [.Name y f] (.ListComp elt [{tg,iter,ifs,(0)}] scope pos) z) (oC (xc ⇑own fv wi g tt te) (Wt i)):=by
 intro o s A b l t N;rw[exec_Assign_Name_used _ _ _ _ ab];have(d,V,K,L):=tm S t;refine Gb (NU (Gb ?_));show wpAny _ X.A (do let _<-comprehension (.ListComp elt [{tg,iter,ifs,(0)}] scope pos) scope X.env _ (newList []) Gx (eval iter X.env) (Ga (assign (.Name y f) X.env))) _ _ s;refine Gb (E1 (MI (use:=Ga (assign (.Name y f) X.env)) (Q:=λ_ k=>SP X o l .next k) rfl hs V S.kind S.loc (Xf (hi o s A b _ t N) λv s1 O=>Xf O λah s2 P=>?_)) (λ_ k n=>Gj (Gj n)) λ_ _ h=>h);have(it,e,tn,ag,H2,h,G,H,ae,M,q):=P;subst h;refine we (Q:=λx C=>Wt i x A C l.nx) (RR:=λI a=>compPost (TV X.prog X.w) X.A X.xe (Ga (assign (.Name y f) X.env)) (λ_ k=>SP X o l .next k) I a) U S F K L Y ht W G H ae M q λp a B k D m c n=>?_;have(ac,m):=m;show wpAny _ X.A (assign (.Name y f) X.env ↑p) _ _ _;refine RM (uj D R Z (.inl w) (v:=↑p) rfl (λad E r=>?_) (.inr w));have(u,r,j):=r;have Q:a≠u:=by
  rcases j with j|j
  .rw[j];exact c.2.1
  .exactλaf=>c.2.2.2.2.1 y u j af.symm
 refine{ac,m.sameBut r Q,λh' aa=>{_,B,?_,n}};exact E.turned (t':=ad.toks) (λJ ai T h=>(aa.2 J T).trans h) c.1 c.2.1 c.2.2.2.1 c.2.2.2.2.1 c.2.2.2.2.2
end
theorem Ja{K:Gd}{a p:Ge}{g:TG}{t:TE}{Q:Hp->Prop}{j:St}{o:Hp}(h:⇑xs<=TF)(d:Nat->List V->St->Hp->Prop)(A:d 0 [] j (zj o p (.lst [])))
  (C:∀i b c H,i<=⇑xs->d i b c H->hB K H a xs)
  (hs:∀i x b c H,xs[i]?/x->⇑b=i->d i b c H->H p/.lst b->g x c H λk H2=>t k H2 λv r=>r p/.lst b/\d (i+1) (b++[v]) k (zj r p (.lst (b++[v]))))
  (B:∀b c H,⇑b=⇑xs->d ⇑xs b c H->H p/.lst b->Q H):jL p (jF K a) g nj t Q j (zj o p (.lst [])):=by
 exists λi m c H=>m=⇑xs - i/\i<=⇑xs/\∃b,⇑b=i/\d i b c H/\H p/.lst b,{⇑xs,by simp,Tw _,[],1,A,Qb};rintro i m c H ⟨rfl,hi,b,n,pv,s⟩;have q:=C i b c H hi pv;by_cases f:i<⇑xs
 .refine .inr {{xs,xs[i],q,by simp -iota [f]},λv h l=>l p/.lst b/\d (i+1) (b++[v]) h (zj l p (.lst (b++[v]))),λ_ _=>False,λv h l⟨u,w⟩=>{b,u,by lia,⇑xs - (i+1),by lia,1,f,b++[v],by simp -iota [n],w,Qb},λ_ _ z=>z.elim,λx l y=>?_};have(e,y):=y;subst e;exact hs i x b c _ (y xs q) n pv s
 .have e:i=⇑xs:=by lia
  subst e;exact .inl {{xs,q,Gy _},B b c H n pv s}
theorem Ve{K:Gd}{a p:Ge}{g:TG}{t:TE}{Q:Hp->Prop}{j:St}{o:Hp}(h:⇑xs<=TF)(d:Nat->List V->St->Hp->Prop)(A:d 0 [] j (zj o p (.lst [])))
  (C:∀i b c H,i<=⇑xs->d i b c H->Vh K H a xs)
  (hs:∀i x b c H,xs[i]?/x->⇑b=i->d i b c H->H p/.lst b->g x c H λk H2=>t k H2 λv r=>r p/.lst b/\d (i+1) (b++[v]) k (zj r p (.lst (b++[v]))))
  (B:∀b c H,⇑b=⇑xs->d ⇑xs b c H->H p/.lst b->Q H):jL p (iS K a) g nj t Q j (zj o p (.lst [])):=by
 exists λi m c H=>m=⇑xs - i/\i<=⇑xs/\∃b,⇑b=i/\d i b c H/\H p/.lst b,{⇑xs,by simp,Tw _,[],1,A,Qb};rintro i m c H ⟨rfl,hi,b,n,pv,s⟩;have q:=C i b c H hi pv;by_cases f:i<⇑xs
 .refine .inr {{xs,xs[i],q,by simp -iota [f]},λv h l=>l p/.lst b/\d (i+1) (b++[v]) h (zj l p (.lst (b++[v]))),λ_ _=>False,λv h l⟨u,w⟩=>{b,u,by ext,⇑xs - (i+1),by ext,1,f,b++[v],by simp -iota [n],w,Qb},λ_ _ z=>z.elim,λx l y=>?_};have(e,y):=y;subst e;exact hs i x b c _ (y xs q) n pv s
 .have e:i=⇑xs:=by ext
  subst e;exact .inl {{xs,q,Gy _},B b c H n pv s}
mutual
inductive Dt(H:Hp):V->DN->Prop
 |non:Dt H .non .none
 |bl (b:Bool):Dt H (.bl b) (.bool b)
 |int (i:Int):Dt H (.int i) (.int i)
 |str (x:TQ):Dt H (.str x) (.str x)
 |lst {a:Ge} {xs:List V} {ds:List DN}:H a/.lst xs->hF H xs ds->Dt H ↑a (.list ds)
 |tup {a:Ge} {xs:List V} {ds:List DN}:H a/.tup xs->hF H xs ds->Dt H ↑a (.tuple ds)
inductive hF(H:Hp):List V->List DN->Prop
 |nil:hF H [] []
 |cons {x:V} {xs:List V} {d:DN} {ds:List DN}:Dt H x d->hF H xs ds->hF H (x::xs) (d::ds)
end
theorem Dt.same{a:Hp}(e:Q5 H a){v:V}{d:DN}(h:Dt H v d):Dt a v d:=
 Dt.rec (motive_1:=λv d _=>Dt a v d) (motive_2:=λc b _=>hF a c b) .non .bl .int .str (λh _ t=>.lst (e _ _ h) t) (λh _ t=>.tup (e _ _ h) t) .nil (λ_ _ h t=>.cons h t) h
theorem hF.length{H:Hp}{b:List V}{a:List DN}(h:hF H b a):⇑b=⇑a:=
 hF.rec (motive_1:=λ_ _ _=>True) (motive_2:=λb a _=>⇑b=⇑a) ⟨⟩ (λ_=>⟨⟩) (λ_=>⟨⟩) (λ_=>⟨⟩) (λ_ _ _=>⟨⟩) (λ_ _ _=>⟨⟩) rfl (λ_ _ _ h=>congrArg Aa h) h
theorem hF.get{a:List DN}{i:Nat}{x:V}(h:hF H xs a)(e:xs[i]?/x):∃d,a[i]?/d/\Dt H x d:=by
 induction i generalizing xs a with
 |zero=>cases h with
  |nil=>cases e
  |cons h=>cases e;exact{0,h}
 |succ i b=>cases h with
  |nil=>cases e
  |cons _ t=>exact b t e
theorem Dt.reads{P:Gn}{w:Ti}{h:Heap}(ok:Ox P w H h){v:V}{d:DN}(k:Dt H v d):∀{u:Gh},zv v u->∃c,Mj h u d c:=by
 refine Dt.rec (motive_1:=λv d _=>∀{u:Gh},zv v u->∃c,Mj h u d c) (motive_2:=λf j _=>∀{l:List Gh},Yh f l->∃c,LV h l j c) ?_ ?_ ?_ ?_ ?_ ?_ ?_ ?_ k
 .intro u r;cases(show u=DJ from r);exact{[],.none}
 .intro b u r;cases(show u=LC b from r);exact{[],.bool b}
 .intro i u r;have(t,e):=(show∃t,u=MR i t from r);cases e;exact{[],.int i t}
 .intro x u r;have(t,e):=(show∃t,u=MT x t from r);cases e;exact{[],.str x t}
 .intro a f j e _ p u r;have(_,q,n,s,m):=(show Yr P w H h a (.lst f)from ok a _ e);have(c,g):=p s;cases(show u=Tq a from r);exact{a::c,.list m rfl rfl (by simpa using g)}
 .intro a f j e _ p u r;have(_,q,s,o,m,b,n,y):=(show Yr P w H h a (.tup f)from ok a _ e);have(c,g):=p s;cases(show u=Tq a from r);exact{c,.tuple m b y (by simpa using g)}
 .intro l r;cases r;exact{[],.nil}
 .intro x f d j _ _ o y l r;cases r with
  |cons r A=>have(c,g):=o r;have(b,z):=y A;exact{c++b,.cons g z}
inductive yJ(f:Bool->Bool)(x:V)(y:V)(H:Hp)(Q:VK):Prop
 |mk (dx:_) (dy:_) (h0:Dt H x dx) (h1:Dt H y dy) (h2:dx.canLay0=Gk) (h3:dy.canLay0=Gk) (h4:min dx.depth dy.depth<=64) (h5:Q (.bl (f (T5 dx dy))) H):yJ f x y H Q
def ko(f:Bool->Bool):R2:=λx y H Q=>yJ f x y H Q
inductive Kw(f:Bool->Bool)(x:V)(y:V)(H:Hp)(Q:VK):Prop
 |mk (dx:_) (ds:_) (h0:Dt H x dx) (h1:Dt H y (.list ds)) (h2:dx.canLay0=Gk) (h3:Gz ds=Gk) (h4:min (Db ds) dx.depth<=63) (h5:Q (.bl (f (ds.any λd=>T5 d dx))) H):Kw f x y H Q
def wZ(f:Bool->Bool):R2:=λx y H Q=>Kw f x y H Q
section
variable{X:Cx}
theorem U3(a:X.A.units+64<E3):hA X (Ep .Eq) (ko λb=>b):=by intro a s r H x y v u Q I j k h;have(n,o,e,f,c,d,p,q):=h;have(l,g):=e.reads I.Yc j;have(m,i):=f.reads I.Yc k;exact BH g i c d (by lia) {.bl _,H,I,1,q}
theorem Os(a:X.A.units+64<E3):hA X (Ep .NotEq) (ko λb=>!b):=by intro a s r H x y v u Q I j k h;have(n,o,e,f,c,d,p,q):=h;have(l,g):=e.reads I.Yc j;have(m,i):=f.reads I.Yc k;exact BI g i c d ∅ {.bl _,H,I,1,q}
theorem SC(a:X.A.units+64<E3):hA X (Ep .In) (wZ λb=>b):=by intro a s r H x y v u Q I j k h;have(o,n,e,f,c,d,p,q):=h;have(l,g):=e.reads I.Yc j;have(m,i):=f.reads I.Yc k;exact Ce i g d c ∅ {.bl _,H,I,1,q}
theorem WB(a:X.A.units+64<E3):hA X (Ep .NotIn) (wZ λb=>!b):=by intro a s r H x y v u Q I j k h;have(o,n,e,f,c,d,p,q):=h;have(l,g):=e.reads I.Yc j;have(m,i):=f.reads I.Yc k;exact BD i g d c ∅ {.bl _,H,I,1,q}
inductive tL(K:Gd)(xs:List V)(H:Hp)(Q:VK):Prop
 |mk (x:_) (n:_) (t:_) (b:_) (h0:xs=[x,.ty n]) (h1:R3 K H x t) (h2:TX K t (.type n)/b) (h3:Q (.bl b) H):tL K xs H Q
def YN(K:Gd):List V->Hp->VK->Prop:=λxs H Q=>tL K xs H Q
theorem Zu:Us X (.builtin "isinstance") (YN X.K):=by intro a s k H j i Q I r h;have(x,n,t,b,rfl,ty,e,q):=h;have(u,g,rfl,c,d):=vals2 r;cases(show g=Lf n from d);exact ZL I c ty e λf=>{.bl b,H,I.tok f,1,q}
inductive tJ(K:Gd)(xs:List V)(H:Hp)(Q:VK):Prop
 |mk (x:_) (p:_) (n:_) (m:_) (t:_) (b:_) (h0:xs=[x,↑p]) (h1:H p/.tup [.ty n,.ty m]) (h2:R3 K H x (.type t)) (h3:Sr K (.type t) [.type n,.type m]/b) (h4:Q (.bl b) H):tJ K xs H Q
def OY(K:Gd):List V->Hp->VK->Prop:=λxs H Q=>tJ K xs H Q
theorem ZK:Us X (.builtin "isinstance") (OY X.K):=by intro a s M H P O Q I r h;have(x,p,n,m,t,b,rfl,z,ty,e,q):=h;have(u,L,rfl,F,G):=vals2 r;cases(show L=Tq p from G);have(_,A,E,o,y,v,k,w):=(show Yr X.prog X.w H s.heap p (.tup [.ty n,.ty m])from I.Yc p _ z);have(J,K,g,C,D):=vals2 E;subst g;cases(show J=Lf n from C);cases(show K=Lf m from D);have(B,N,d,os):=o;cases(show B=Lf "tuple"from v);cases(show d=J8 _ k from w);have c:∀f,EP X a M Q (.bool b) {s with toks:=f}:=λf=>{.bl b,H,I.tok f,1,q};have(_,i,j,l):=vc I F ty;exact JX i I.kIn j y e l c
end
theorem j9{K:Gd}:TX K (.type "list") (.type "list")/Gk:=by rfl
theorem kj{K:Gd}:TX K (.type "tuple") (.type "tuple")/Gk:=by rfl
theorem Q48{K:Gd}:TX K (.type "list") (.type "tuple")/Gx:=by kernel_rfl
theorem xH{K:Gd}:TX K (.type "tuple") (.type "list")/Gx:=by kernel_rfl
theorem Rz{K:Gd}:TX K (.type "str") (.type "str")/Gk:=by rfl
theorem Q34{K:Gd}:TX K (.type "bool") (.type "str")/Gx:=by kernel_rfl
theorem Q4z{K:Gd}:TX K (.type "int") (.type "str")/Gx:=by kernel_rfl
theorem WE{K:Gd}:TX K (.type "NoneType") (.type "str")/Gx:=by kernel_rfl
theorem se{K:Gd}:TX K (.type "bool") (.type "bool")/Gk:=by rfl
theorem Jq{K:Gd}:TX K (.type "int") (.type "bool")/Gx:=by kernel_rfl
theorem OW{K:Gd}:TX K (.type "NoneType") (.type "bool")/Gx:=by kernel_rfl
theorem Ij{K:Gd}:TX K (.type "int") (.type "int")/Gk:=by rfl
theorem VX{K:Gd}:Sr K (.type "list") [.type "list",.type "tuple"]/Gk:=by rfl
theorem UP{K:Gd}:Sr K (.type "tuple") [.type "list",.type "tuple"]/Gk:=by unfold Sr;rw[xH];rfl
theorem oy{K:Gd}{t:String}(a:TX K (.type t) (.type "list")/Gx)(b:TX K (.type t) (.type "tuple")/Gx):Sr K (.type t) [.type "list",.type "tuple"]/Gx:=by unfold Sr;rw[a];unfold Sr;rw[b];rfl
theorem YS{K:Gd}:TX K (.type "str") (.type "list")/Gx:=by kernel_rfl
theorem WH{K:Gd}:TX K (.type "str") (.type "tuple")/Gx:=by kernel_rfl
theorem PZ{K:Gd}:TX K (.type "int") (.type "list")/Gx:=by kernel_rfl
theorem Q1{K:Gd}:TX K (.type "int") (.type "tuple")/Gx:=by kernel_rfl
theorem Q5i{K:Gd}:TX K (.type "bool") (.type "list")/Gx:=by kernel_rfl
theorem Q5k{K:Gd}:TX K (.type "bool") (.type "tuple")/Gx:=by kernel_rfl
theorem Q35{K:Gd}:TX K (.type "NoneType") (.type "list")/Gx:=by kernel_rfl
theorem UQ{K:Gd}:TX K (.type "NoneType") (.type "tuple")/Gx:=by kernel_rfl
end L2
namespace PySem
section
variable{prog:Gn}{w:Ti}{A:DW}{E:Gh->Gw->Prop}{s:Gw}
open PyProof.Rows
def Heap.q9(h:Heap)(a l:Ge)(i:Int):Prop:=∃o,h.get? a/o/\o.cls=.type "reversed"/\o.data=.fields #[↑l,rawInt i]
theorem Heap.q9.at{h b:Heap}{a l:Ge}{i:Int}(x:h.q9 a l i)(e:∀o,h.get? a/o->b.get? a/o):b.q9 a l i:=let⟨o,ho,r⟩:=x;{o,e _ ho,r}
end
section
variable{prog:Gn}{w:Ti}{K:Type}[DecidableEq K]{knd:HJ prog w K}{A:DW}{E:Gh->Gw->Prop}{s:Gw}
theorem Jl{d a:Ge}{l:List (K×Ge×Gh)}{k:K}{dflt:Gh}{Q:Gh->Gw->Prop}(u:knd.room A)(b:knd.is s.heap k a)(C:s.heap.DictOfH knd d l)
  (c:∀p,atKey l k/p->Q p.2 {s with toks:=s.toks+knd.draws k})
  (n:atKey l k=Gp->∀e,e.DictOfH knd d (l++[(k,a,dflt)])->Eb d s.heap e->Q dflt {s with heap:=e,toks:=s.toks+knd.draws k})
  (e:⇑l<=TF):
  wpAny (TV prog w) A (dictSetDefault d ↑a dflt) Q E s:=by
 have(o,e,z,i,B,h,r,m,t):=C;unfold dictSetDefault;try with_reducible refine Ej ?_
 refine Gb (knd.pyHash u b ?_);refine Gb (wpAny_dictFind_heap (s:={s with toks:=s.toks+knd.draws k}) u b i h r m t ?_ ?_)
 .intro o;have q:k∉l.map (·.1):=not_mem_keys_of_get o;have g:=atKey_none_of_get o;refine Gb (LD (Gb (wpAny_updateDictKeys (hz:=by have e:=size_of_entries r;ext) (s:={s with toks:=s.toks+knd.draws k}) i h (Gj (n g _ ⟨_,_,z+1,DU _ i (Obj.isFreed_of_dict (NF h _)),
   B.mapDictKeys _,NF h _,?_,?_,?_⟩ (D0 ..))))))
  .simp -iota [r,entryOfKey]
  .intro x f;rcases Gi.mp f with f|f
   .exact knd.keeps (m x f) i h (D0 ..)
   .simp -iota only [Tf]at f;subst f;exact knd.keeps b i h (D0 ..)
  .rw[T3,DO];exists t,⋯;intro x f y v;simp -iota only [TC,FX,Tf]at v;subst v;exactλe=>q (e▸f)
 .intro j p e;have g:=atKey_of_get t e;refine Gb (EU (s:={s with toks:=s.toks+knd.draws k}) i h ?_);rw[entry_at r j,e];exact Gb (LD (Gj (c p g)))
theorem Vk(b:HJ prog w K)(d a:Ge)(m:(d==Er)=Gx)(dflt:Gh):
  MeetsIn prog w (Builtin.«dict.setdefault» {[↑d,↑a,dflt],[]}) (λA R s=>b.room A.in1/\∃k c,b.is s.heap k a/\s.heap.DictOfH b d c/\⇑c<=TF/\
   (∀p,atKey c k/p->R (.ok (.ret p.2)) {s with toks:=s.toks+b.draws k})/\
   (atKey c k=Gp->∀e,e.DictOfH b d (c++[(k,a,dflt)])->Eb d s.heap e->R (.ok (.ret dflt)) {s with heap:=e,toks:=s.toks+b.draws k})):=
 .of_wp λA R s r=>by have(o,k,c,f,i,q,j,l):=r;unfold Builtin.«dict.setdefault»;refine Gb ?_;unfold BR;refine Gb (Fo i.typeIs ?_);show wpAny _ _ (pure (d,Tq a,Ga dflt)) _ _ s;refine Gj ?_;show wpAny _ _ (if(d==Er)=Gk then _ else(dictSetDefault d ↑a dflt>>=_)) _ _ s;rw[Gu (by rw[m];exact TH)];exact Gb (Jl o f i (λp g=>Gj {p.2,1,j p g}) (λn e g h=>Gj {dflt,1,l n e g h}) q)
end
end PySem
namespace L2
open PySem PySem.Spec PyProof.Rows
section
variable{X:Cx}{tg:Ea}
inductive yM(x:V)(vs:List V)(H:Hp)(Q:VK):Prop
 |mk (d:_) (b:_) (dv:_) (zw:_) (k:_) (h0:x=↑d) (h1:vs=[↑b,dv]) (h2:H d/.dT zw) (h3:H b/.tup (k.map kV)) (h4:⇑zw<TF) (h5:(∀v,Xq zw k/v->Q v H)) (h6:(Xq zw k=Gp->Q dv (zj H d (.dT (zw++[(k,dv)]))))):yM x vs H Q
def Q04:V->List V->Hp->VK->Prop:=λx a H Q=>yM x a H Q
theorem YP(N:X.A.units+1<E3):i4 X "dict.setdefault" Q04:=by
 intro w s aa H x vs v Z Q I U T h;have(d,b,l,a,k,rfl,rfl,e,o,Y,P,R):=h;cases(show v=Tq d from U);have(V,B,rfl,S,A):=vals2 T;cases(show V=Tq b from S);have(z,t,m,f,n):=tx I.Yc e;have O:⇑a=⇑m:=GJ f;refine Nj F.slot_dict_setdefault n.typeIs F.entry_dict_setdefault (F.args_dict_setdefault_3 _ _ _) (Vk (tupleKind (Y9 X.prog X.w)) d b t B) {Lj N,k,m,j5 I.Yc o,n,by lia,λp M=>?_,λL W j hs=>?_}
 .have g:=f.val k;rw[M]at g;cases q:Xq a k with
  |none=>rw[q]at g;exact(show False from g).elim
  |some y=>rw[q]at g;exact{y,H,I.tok _,g,P y q}
 .have g:=f.val k;rw[L]at g;cases q:Xq a k with
  |some y=>rw[q]at g;exact(show False from g).elim
  |none=>have(ob,D,C,u,E,G,J,_,K):=j;have i:KT H (a++[(k,l)]) (m++[(k,b,B)]):=E5 f ⟨Xb,o,A⟩;refine{l,_,R7 (ob:=.dT (a++[(k,l)])) I (by rw[e];exact Es) hs ⟨ob,u⟩ {by rw[Gs,Tg];lia,t,_,i.keeps λc ys r=>?_,ob,D,C,u,E,G,J,K},A,R q};rw[Qh (Zr r e nofun)];exact r
end
theorem Qf{H:Hp}{p:Ge}(h:H p=Gp)(o:HO):Q5 H (zj H p o):=λb u q=>by rw[Qh (Qd q h)];exact q
theorem nd1(x:TQ):[x].Nodup:=by simp
theorem small{n:Nat}(h:n<=16000000):n<=TF:=by rw[TD];ext
end L2
namespace Sb
open PySem
inductive Th where
 |mk (w:TQ) (ps:List Th)
mutual
def Th.size:Th->Nat
 |.mk _ ps=>Za ps+1
def Za:List Th->Nat
 |[]=>0
 |p::r=>p.size+Za r
end
mutual
def Th.depth:Th->Nat
 |.mk _ ps=>Vs ps+1
def Vs:List Th->Nat
 |[]=>0
 |p::r=>max p.depth (Vs r)
end
mutual
def Th.inside:Th->List Th
 |.mk w ps=>Zh ps++[.mk w ps]
def Zh:List Th->List Th
 |[]=>[]
 |p::r=>p.inside++Zh r
end
mutual
def Th.toD:Th->DN
 |.mk w ps=>.tuple (.str w::Wd ps)
def Wd:List Th->List DN
 |[]=>[]
 |p::r=>p.toD::Wd r
end
mutual
def Th.ok:Th->Bool
 |.mk w ps=>DK w&&okL ps
def okL:List Th->Bool
 |[]=>Gk
 |p::r=>p.ok&&okL r
end
def Oi(w:TQ):Bool:=DK w&&decide (⇑w<=200)
theorem Oi.str{w:TQ}(h:Oi w=Gk):DK w=Gk:=(E4.mp h).1
theorem Oi.len{w:TQ}(h:Oi w=Gk):⇑w<=200:=Dp (E4.mp h).2
mutual
def Th.short:Th->Bool
 |.mk w ps=>decide (⇑w<=200)&&jW ps
def jW:List Th->Bool
 |[]=>Gk
 |p::r=>p.short&&jW r
end
def Th.word:Th->TQ
 |.mk w _=>w
def Th.parts:Th->List Th
 |.mk _ ps=>ps
theorem Ux:∀a:List Th,okL a=a.all Th.ok
 |[]=>by simp[okL]
 |t::r=>by simp[okL,Ux r]
mutual
theorem Y3:∀t:Th,t.inside.length=t.size
 |.mk w a=>by simp[Th.inside,Th.size,Jm a]
theorem Jm:∀a:List Th,⇑(Zh a)=Za a
 |[]=>by simp[Zh,Za]
 |p::r=>by simp[Zh,Za,Y3 p,Jm r]
end
theorem Ry(t:Th):1<=t.size:=by cases t;simp[Th.size]
theorem qB(t:Th):1<=t.depth:=by cases t;simp[Th.depth]
theorem xr:∀{a:List Th}{t:Th},t∈a->t.size<=Za a
 |p::r,t,h=>by
  rcases Td.mp h with rfl|h
  .simp[Za]
  .have:=xr h;simp only[Za];ext
theorem Wp:∀{a:List Th}{t:Th},t∈a->t.depth<=Vs a
 |p::r,t,h=>by
  rcases Td.mp h with rfl|h
  .simp only[Vs];lia
  .have:=Wp h;simp only[Vs];lia
theorem Zn:∀a:List Th,⇑a<=Za a
 |[]=>by simp[Za]
 |p::r=>by have:=Ry p;have:=Zn r;simp only[Za,TW];lia
mutual
theorem QB:∀(t:Th){s:Th},s∈t.inside->s.size<=t.size
 |.mk w a,s,h=>by
  simp only[Th.inside,Gi,Tf]at h;rcases h with h|rfl
  .have:=A8 a h;simp only[Th.size];ext
  .exact Gy _
theorem A8:∀(a:List Th){s:Th},s∈Zh a->s.size<=Za a
 |p::r,s,h=>by
  simp only[Zh,Gi]at h;rcases h with h|h
  .have:=QB p h;simp only[Za];ext
  .have:=A8 r h;simp only[Za];ext
 |[],s,h=>by simp[Zh]at h
end
theorem sU(t:Th):t∈t.inside:=by cases t;simp[Th.inside]
theorem Xw:∀a:List Th,Zh a=a.flatMap Th.inside
 |[]=>by simp[Zh]
 |p::r=>by simp[Zh,Xw r]
theorem WN{x y:TQ}:(x==y)=decide (x=y):=by
 by_cases h:x=y
 .subst h;simp
 .simp[h]
mutual
theorem Iq:∀s t:Th,T5 s.toD t.toD=Gk↔s=t
 |.mk w a,.mk v b=>by simp only[Th.toD,T5,DB,Df,Th.mk.injEq];rw[xN a b,WN,decide_eq_true_iff]
theorem xN:∀a b:List Th,DB (Wd a) (Wd b)=Gk↔a=b
 |[],[]=>by simp[Wd,DB]
 |[],t::r=>by simp[Wd,DB]
 |s::r,[]=>by simp[Wd,DB]
 |s::r,t::q=>by simp only[Wd,DB,Df,DP];rw[Iq s t,xN r q]
end
instance:DecidableEq Th:=λs t=>if h:T5 s.toD t.toD=Gk then .isTrue ((Iq s t).mp h)else .isFalse λe=>h ((Iq s t).mpr e)
theorem m8(s t:Th):T5 s.toD t.toD=decide (s=t):=by
 by_cases h:s=t
 .rw[Tk h];exact(Iq s t).mpr h
 .rw[Tj h];exact Mz.mpr λe=>h ((Iq s t).mp e)
mutual
theorem Wj:∀t:Th,t.ok=Gk->t.toD.canLay0=Gk
 |.mk w a,h=>by simp only[Th.ok,Df]at h;simp only[Th.toD,TJ,Gz,Df];exact{h.1,lF a h.2}
theorem lF:∀a:List Th,okL a=Gk->Gz (Wd a)=Gk
 |[],_=>by simp[Wd,Gz]
 |t::r,h=>by simp only[okL,Df]at h;simp only[Wd,Gz,Df];exact{Wj t h.1,lF r h.2}
end
mutual
theorem Xi:∀t:Th,t.toD.depth=t.depth
 |.mk w a=>by simp only[Th.toD,DV,Db,Th.depth,vb a];lia
theorem vb:∀a:List Th,Db (Wd a)=Vs a
 |[]=>by simp[Wd,Db,Vs]
 |t::r=>by simp[Wd,Db,Vs,Xi t,vb r]
end
noncomputable def Xe(a:List Th)(xs:List Th):List Th:=xs.foldl (λa x=>if x∈a then a else a++[x]) a
theorem Rh(a:List Th):Xe a []=a:=rfl
theorem J9(a:List Th)(x:Th)(r:List Th):Xe a (x::r)=Xe (if x∈a then a else a++[x]) r:=rfl
theorem Jp(a b c:List Th):Xe a (b++c)=Xe (Xe a b) c:=by unfold Xe;rw[List.foldl_append]
theorem Qrp(a b:List Th)(y:Th):Xe a (b++[y])=if y∈Xe a b then Xe a b else Xe a b++[y]:=by rw[Jp];rfl
theorem oe:∀(c b:List Th)(y:Th),y∈Xe b c↔y∈b\/y∈c
 |[],b,y=>by simp[Rh]
 |x::r,b,y=>by
  rw[J9,oe r];by_cases h:x∈b
  .rw[GY h];constructor
   .rintro(a|a)
    .exact .inl a
    .exact .inr (Gr _ a)
   .rintro(a|a)
    .exact .inl a
    .rcases Td.mp a with rfl|a
     .exact .inl h
     .exact .inr a
  .rw[Gu h];simp only[Gi,Td,Ek,LW];constructor
   .rintro((a|a)|a)
    .exact .inl a
    .exact .inr (.inl a)
    .exact .inr (.inr a)
   .rintro(a|a|a)
    .exact .inl (.inl a)
    .exact .inl (.inr a)
    .exact .inr a
theorem KG:∀(b a:List Th),(∀x∈b,x∈a)->Xe a b=a
 |[],_,_=>rfl
 |x::r,a,h=>by rw[J9,GY (h x G8)];exact KG r a λy c=>h y (Gr _ c)
theorem qE:∀(b a:List Th),⇑(Xe a b)<=⇑a+⇑b
 |[],a=>by simp[Rh]
 |x::r,a=>by
  rw[J9];have:=qE r (if x∈a then a else a++[x]);split at this
  .rename_i h
   rw[GY h];simp only[TW];lia
  .rename_i h
   rw[Gu h];simp only[Gs,TW,SE]at this⊢;lia
def Uo(ts:List Th):Prop:=∀t∈ts,∀s∈t.inside,s∈ts
theorem Qob:Uo []:=λ_ h=>by simp at h
theorem wN{a:List Th}{t:Th}(h:Uo a)(ht:t∈a):Xe a t.inside=a:=KG _ _ λx b=>h t ht x b
theorem Ug:∀(b a:List Th),∃m,Xe a b=a++m
 |[],a=>{[],by simp[Rh]}
 |x::r,a=>by
  rw[J9];split
  .exact Ug r a
  .obtain⟨m,e⟩:=Ug r (a++[x]);exact{x::m,by rw[e];simp}
noncomputable def qg(t:Th):List TQ:=t.word::t.parts.map Th.word
end Sb
namespace L2
open PySem PySem.Spec PyProof.Rows
theorem iG(x:V)(a:List V):U8 (x::a) (Ga 1) Gp=a:=by
 have e:HT.Vf ⇑(x::a) 0 (Ga 1)=1:=by have q:=HT.Ib ⇑(x::a) 0 1;rw[TW]at q⊢;refine q.trans ?_;lia
 unfold U8;rw[e,HT.R0];simp
theorem Wr(x:V)(a:List V):¬(HT.Vf ⇑(x::a) 0 (Ga 1)=0/\HT.Vf ⇑(x::a) ⇑(x::a) Gp=⇑(x::a)):=by
 have e:HT.Vf ⇑(x::a) 0 (Ga 1)=1:=by have q:=HT.Ib ⇑(x::a) 0 1;rw[TW]at q⊢;refine q.trans ?_;ext
 rw[e];rintro⟨h,_⟩;exact absurd h (by decide)
end L2
namespace Sb
open PySem PySem.Spec PyProof.Rows L2
variable{H H':Hp}{v:V}{t:Th}{vs:List V}{ts:List Th}
mutual
inductive Z8(H:Hp):V->Th->Prop
 |mk {a:Ge} {w:TQ} {vs:List V} {ps:List Th}:H a/.tup (.str w::vs)->Zq H vs ps->Z8 H ↑a (.mk w ps)
inductive Zq(H:Hp):List V->List Th->Prop
 |nil:Zq H [] []
 |cons {v:V} {vs:List V} {t:Th} {ts:List Th}:Z8 H v t->Zq H vs ts->Zq H (v::vs) (t::ts)
end
def Q8(H H':Hp):Prop:=∀b xs,H b/.tup xs->H' b/.tup xs
theorem Q8.of(e:Q5 H H'):Q8 H H':=λb a h=>e b _ h
theorem Q8.trans{d e:Hp}(a:Q8 H d)(b:Q8 d e):Q8 H e:=λc f h=>b c f (a c f h)
theorem Z1{a:Ge}{o:HO}(h:∀c,H a≠Ga (.tup c)):Q8 H (zj H a o):=λb c e=>by
 by_cases d:b=a
 .subst d;exact absurd e (h c)
 .rw[Qh d];exact e
theorem Z8.Qv(e:Q8 H H')(h:Z8 H v t):Z8 H' v t:=
 Z8.rec (motive_1:=λv t _=>Z8 H' v t) (motive_2:=λv t _=>Zq H' v t) (λh _=>.mk (e _ _ h)) .nil (λ_ _=>.cons) h
theorem Zq.Qv(e:Q8 H H')(h:Zq H vs ts):Zq H' vs ts:=
 Zq.rec (motive_1:=λv t _=>Z8 H' v t) (motive_2:=λv t _=>Zq H' v t) (λh _=>.mk (e _ _ h)) .nil (λ_ _=>.cons) h
theorem Z8.same(e:Q5 H H')(h:Z8 H v t):Z8 H' v t:=h.Qv (Q8.of e)
theorem Zq.same(e:Q5 H H')(h:Zq H vs ts):Zq H' vs ts:=h.Qv (Q8.of e)
theorem Z8.dt(h:Z8 H v t):Dt H v t.toD:=
 Z8.rec (motive_1:=λv t _=>Dt H v t.toD) (motive_2:=λb a _=>hF H b (Wd a)) (λh _ t=>.tup h (.cons (.str _) t)) .nil (λ_ _=>.cons) h
theorem Zq.dts(h:Zq H vs ts):hF H vs (Wd ts):=
 Zq.rec (motive_1:=λ_ _ _=>True) (motive_2:=λvs ts _=>hF H vs (Wd ts)) (λ_ _ _=>⟨⟩) .nil (λh _ _=>.cons h.dt) h
theorem Z8.inv(h:Z8 H v t):∃a w c b,v=.ref a/\t=.mk w b/\H a/.tup (.str w::c)/\Zq H c b:=by
 cases h with
 |mk h r=>exact{3201,h,r}
theorem Zq.length{H:Hp}{b:List V}{a:List Th}(h:Zq H b a):⇑b=⇑a:=
 Zq.rec (motive_1:=λ_ _ _=>True) (motive_2:=λb a _=>⇑b=⇑a) (λ_ _ _=>⟨⟩) rfl (λ_ _ _ h=>congrArg Aa h) h
theorem Zq.append{b:List V}{a:List Th}(h:Zq H vs ts)(t:Zq H b a):Zq H (vs++b) (ts++a):=
 Zq.rec (motive_1:=λ_ _ _=>True) (motive_2:=λvs ts _=>Zq H (vs++b) (ts++a)) (λ_ _ _=>⟨⟩) t (λh _ _ t=>.cons h t) h
theorem Zq.one(h:Z8 H v t):Zq H [v] [t]:=.cons h .nil
theorem Zq.get{i:Nat}(h:Zq H vs ts)(e:vs[i]?/v):∃t,ts[i]?/t/\Z8 H v t:=by
 induction i generalizing vs ts with
 |zero=>cases h with
  |nil=>cases e
  |cons h=>cases e;exact{0,h}
 |succ i a=>cases h with
  |nil=>cases e
  |cons _ t=>exact a t e
theorem Zq.at{H:Hp}{b:List V}{a:List Th}{i:Nat}{t:Th}(h:Zq H b a)(e:a[i]?/t):∃v,b[i]?/v/\Z8 H v t:=by
 have hi:i<⇑a:=(Gg.mp e).1;have d:i<⇑b:=by rw[⇑h];exact hi
 have(g,c,f):=h.get (Gf d);rw[e]at c;cases c;exact{_,Gf d,f}
mutual
def Jf:DN->Nat
 |.none=>1|.bool _=>1|.int _=>1|.str _=>1
 |.list xs=>Z3 xs+1
 |.tuple xs=>Z3 xs+1
 |.dict _=>1
def Z3:List DN->Nat
 |[]=>0
 |x::r=>Jf x+Z3 r
end
theorem AA(d:DN):1<=Jf d:=by cases d<;>simp[Jf]
theorem Wv:∀b a:List DN,Z3 (b++a)=Z3 b+Z3 a
 |[],a=>by simp[Z3]
 |x::r,a=>by simp only[D9,Z3,Wv r a];lia
theorem Jr:∀a:List DN,⇑a<=Z3 a
 |[]=>by simp[Z3]
 |x::r=>by have:=AA x;have:=Jr r;simp only[Z3,TW];lia
mutual
theorem qP:∀t:Th,Jf t.toD=2*t.size
 |.mk w a=>by simp only[Th.toD,Jf,Z3,Th.size,vQ a];lia
theorem vQ:∀a:List Th,Z3 (Wd a)=2*Za a
 |[]=>by simp[Wd,Z3,Za]
 |t::r=>by simp only[Wd,Z3,Za,qP t,vQ r];ext
end
theorem uL(a:List Th)(n:Nat)(h:∀t∈a,t.size<=n):Za a<=⇑a*n:=by
 induction a with
 |nil=>simp[Za]
 |cons t r b=>have c:=h t G8;have d:=b λs hs=>h s (Gr _ hs);simp only[Za,TW];rw[Le];lia
structure Drawn(ts:List Th)(m:Nat):Prop where
 len:⇑ts=3+m
 ok:∀t∈ts,t.ok=Gk
 dep:∀(j:Nat)t,ts[j]?/t->t.depth<=j+1
 one:∀(j:Nat)t,ts[j]?/t->j<=2->t.size<=1
 two:∀(j:Nat)t,ts[j]?/t->j<=3->t.size<=4
 tri:∀(j:Nat)t,ts[j]?/t->j<=4->t.size<=10
 any:∀(j:Nat)t,ts[j]?/t->t.size<=12*j+1
 sh:∀t∈ts,t.short=Gk
 tab:ts[1]?/.mk "tab" []
 cl:∀t∈ts,∀p∈t.parts,p∈ts
inductive yT(K:Gd)(vs:List V)(H:Hp)(Q:VK):Prop
 |mk (a:Ge) (ns:List Int) (h0:vs=[↑a]) (h1:Vh K H a (ns.map V.int)) (h2:⇑ns<=63) (h3:∀(r:Ge)(us:List V)(ts:List Th)(H':Hp),Q5 H H'->H r=Gp->H' r/.lst us->Zq H' us ts->Drawn ts ⇑ns->Q ↑r H'):yT K vs H Q
def ze(K:Gd):Sp:=λa H Q _=>yT K a H Q
inductive zK(vs:List V)(H:Hp)(Q:VK):Prop
 |mk (n:Int) (h0:vs=[.int n]) (h1:∀(x:TQ),Oi x=Gk->Q (.str x) H):zK vs H Q
def y0:Sp:=λa H Q _=>zK a H Q
inductive yg(vs:List V)(H:Hp)(Q:VK):Prop
 |mk (x:V) (y:V) (d:DN) (h0:vs=[x,y]) (h1:Dt H x d) (h2:Dt H y d) (h3:d.canLay0=Gk) (h4:Jf d<=1000000) (h5:d.depth<=60) (h6:∀(H':Hp),Q5 H H'->Q (.bl Gk) H'):yg vs H Q
def yy:Sp:=λa H Q _=>yg a H Q
inductive yL(K:Gd)(vs:List V)(H:Hp)(Q:VK):Prop
 |mk (a:Ge) (ns:List Int) (h0:vs=[↑a]) (h1:Vh K H a (ns.map V.int)) (h2:⇑ns<=63) (h3:∀H',Q (.bl Gk) H'):yL K vs H Q
def oi(K:Gd):Sp:=λa H Q _=>yL K a H Q
end Sb
namespace L2
open PySem PySem.Spec PyProof.Rows
variable{h:Heap}{v:Gh}{as:List Ge}
inductive KD where
 |int (i:Int)
 |str (x:TQ)
 |tup (xs:List KD)
mutual
def KD.toD:KD->DN
 |.int i=>.int i
 |.str x=>.str x
 |.tup xs=>.tuple (Rv xs)
def Rv:List KD->List DN
 |[]=>[]
 |x::r=>x.toD::Rv r
end
mutual
def KD.depth:KD->Nat
 |.int _=>0
 |.str _=>0
 |.tup xs=>R4 xs+1
def R4:List KD->Nat
 |[]=>0
 |x::r=>max x.depth (R4 r)
end
mutual
def KD.hash(w:Ti):KD->Int
 |.int i=>hashInt i
 |.str x=>hashStr w x
 |.tup xs=>reduceHash (EA (U9 w xs))
def U9(w:Ti):List KD->List Int
 |[]=>[]
 |x::r=>x.hash w::U9 w r
end
mutual
def KD.draws:KD->Nat
 |.int _=>1
 |.str _=>1
 |.tup xs=>Wn xs+1
def Wn:List KD->Nat
 |[]=>0
 |x::r=>x.draws+Wn r
end
theorem Qz2:∀a:List KD,Rv a=a.map KD.toD
 |[]=>by simp[Rv]
 |x::r=>by simp[Rv,Qz2 r]
theorem yX(w:Ti):∀a:List KD,U9 w a=a.map (KD.hash w)
 |[]=>by simp[U9]
 |x::r=>by simp[U9,yX w r]
theorem Ri:∀b a:List KD,Wn (b++a)=Wn b+Wn a
 |[],a=>by simp[Wn]
 |x::r,a=>by simp only[D9,Wn,Ri r a];lia
theorem pO:∀{xs:List KD}{x:KD},x∈xs->x.depth<=R4 xs
 |y::r,x,h=>by
  simp only[R4];rcases Td.mp h with rfl|h
  .lia
  .have:=pO h;lia
mutual
theorem lE:∀a b:KD,T5 a.toD b.toD=Gk↔a=b
 |.int i,.int j=>by simp[KD.toD,T5]
 |.int i,.str y=>by simp[KD.toD,T5]
 |.int i,.tup d=>by simp[KD.toD,T5]
 |.str x,.int j=>by simp[KD.toD,T5]
 |.str x,.str y=>by simp[KD.toD,T5]
 |.str x,.tup d=>by simp[KD.toD,T5]
 |.tup c,.int j=>by simp[KD.toD,T5]
 |.tup c,.str y=>by simp[KD.toD,T5]
 |.tup c,.tup d=>by simp only[KD.toD,T5,KD.tup.injEq];exact xm c d
theorem xm:∀a b:List KD,DB (Rv a) (Rv b)=Gk↔a=b
 |[],[]=>by simp[Rv,DB]
 |[],_::_=>by simp[Rv,DB]
 |_::_,[]=>by simp[Rv,DB]
 |x::r,y::q=>by simp only[Rv,DB,Df,DP];rw[lE x y,xm r q]
end
instance:DecidableEq KD:=λa b=>if h:T5 a.toD b.toD=Gk then .isTrue ((lE a b).mp h)else .isFalse λe=>h ((lE a b).mpr e)
theorem QL(a b:KD):T5 a.toD b.toD=decide (a=b):=by
 by_cases h:a=b
 .rw[Tk h];exact(lE a b).mpr h
 .rw[Tj h];exact Mz.mpr λe=>h ((lE a b).mp e)
mutual
theorem oZ:∀a:KD,a.toD.depth=a.depth
 |.int _=>by simp[KD.toD,DV,KD.depth]
 |.str _=>by simp[KD.toD,DV,KD.depth]
 |.tup b=>by simp only[KD.toD,DV,KD.depth,xa b]
theorem xa:∀a:List KD,Db (Rv a)=R4 a
 |[]=>by simp[Rv,Db,R4]
 |x::r=>by simp only[Rv,Db,R4,oZ x,xa r]
end
theorem U2{c:List DN}(r:Mj h v (.tuple c) as):∃a o b n,v=.ref a/\h.get? a/o/\o.cls=.type "tuple"/\o.data=.seq b n/\LV h b.toList c as:=by
 cases r with
 |tuple d e f g=>exact{320,d,e,f,g}
theorem KD.ind{p:KD->Prop}(hi:∀i,p (.int i))(hs:∀x,p (.str x))(ht:∀c,(∀k∈c,p k)->p (.tup c))(k:KD):p k:=
 KD.rec (motive_1:=p) (motive_2:=λc=>∀k∈c,p k) hi hs ht (λ_ h=>nomatch h) (λx r a b k h=>(Td.mp h).elim (λe=>e▸a) (b k)) k
theorem PU{g:Heap}{d:Ge}{o:Lc}{s:Array LI}{y:Nat}(A:h.get? d/o)(z:o.data=.dict s y)(hs:Eb d h g){x:DN}(k:Mj h v x as):x.canLay0=Gk->Mj g v x as:=by
 have j:∀{a:Ge}{p:Lc}{u:Array Gh}{n:Nat},h.get? a/p->p.data=.seq u n->g.get? a/p:=by intro a p u n f e;refine(hs.2 a ?_).trans f;rintro rfl;rw[A]at f;cases f;rw[z]at e;cases e
 refine Reads.rec (motive_1:=λv x as _=>x.canLay0=Gk->Mj g v x as) (motive_2:=λl m as _=>Gz m=Gk->LV g l m as) (λ_=>.none) (λb _=>.bool b) (λi t _=>.int i t) (λx t _=>.str x t) ?_ ?_ ?_ (λ_=>.nil) ?_ k
 .intro a o l n m as f q e _ r c;simp only[TJ]at c;exact .list (j f e) q e (r c)
 .intro a o l n m as f q e _ r c;simp only[TJ]at c;exact .tuple (j f e) q e (r c)
 .intro a o s n b as w _ _ _ _ _ _ _ c;simp[TJ]at c
 .intro v l d C as w _ _ b B c;simp only[Gz,Df]at c;exact .cons (b c.1) (B c.2)
theorem Uz{i:Int}(r:Mj h v (.int i) as):∃t,v=.int i t:=by cases r;exact{40}
theorem U1{x:TQ}(r:Mj h v (.str x) as):∃t,v=.str x t:=by cases r;exact{40}
theorem R8{a:List Gh}(r:LV h a [] as):a=[]:=by cases r;rfl
theorem V9{c:List Gh}{d:DN}{a:List DN}(r:LV h c (d::a) as):∃v b f e,c=v::b/\Mj h v d f/\LV h b a e:=by cases r with|cons g i=>exact⟨_,_,_,_,Xb,g,i⟩
theorem VY(a b:KD){c:List Ge}(r:Mj h v a.toD as)(q:Mj h v b.toD c):a=b:=by
 refine KD.rec (motive_1:=λa=>∀(b:KD){v:Gh}{as c:List Ge},Mj h v a.toD as->Mj h v b.toD c->a=b) (motive_2:=λm=>∀(d:List KD){f:List Gh}{as c:List Ge},LV h f (Rv m) as->LV h f (Rv d) c->m=d) ?_ ?_ ?_ ?_ ?_ a b r q
 .intro i b v as c r q;have(t,rfl):=Uz r;cases b with
  |int j=>have(g,e):=Uz q;cases e;rfl
  |str y=>have(g,e):=U1 q;cases e
  |tup d=>have(a,o,f,n,e,_):=U2 q;cases e
 .intro i b v as c r q;have(t,rfl):=U1 r;cases b with
  |int j=>have(g,e):=Uz q;cases e
  |str y=>have(g,e):=U1 q;cases e;rfl
  |tup d=>have(a,o,f,n,e,_):=U2 q;cases e
 .intro m A b v as c r q;have(a,o,f,n,rfl,l,p,w,z):=U2 r;cases b with
  |int j=>have(g,e):=Uz q;cases e
  |str y=>have(g,e):=U1 q;cases e
  |tup d=>have(D,F,C,E,e,k,s,u,B):=U2 q;cases e;rw[l]at k;cases k;rw[w]at u;cases u;rw[A d z B]
 .intro d f as c r t;cases R8 r;cases d with
  |nil=>rfl
  |cons=>have(_,_,_,_,e,_):=V9 t;cases e
 .intro x A u w d f as c r t;have(v,z,_,_,rfl,l,p):=V9 r;cases d with
  |nil=>cases R8 t
  |cons y q=>have(v,z,_,_,e,k,s):=V9 t;cases e;rw[u y l k,w q p s]
section
variable{prog:Gn}{w:Ti}
theorem Qq6:∀(k:KD){A:DW}{E:Gh->Gw->Prop}{s:Gw}{v:Gh}{j:List Ge}{Q:Int->Gw->Prop},A.units+k.depth<E3->Mj s.heap v k.toD j->Q (k.hash w) {s with toks:=s.toks+k.draws}->
  wpAny (TV prog w) A (pyHash v) Q E s:=by
 intro k;induction k using KD.ind with
 |hi i=>intro A E s v j Q _ r h;have(t,rfl):=Uz r;exact Bf h
 |hs x=>intro A E s v j Q _ r h;have(t,rfl):=U1 r;exact Bg h
 |ht xs m=>
  intro A E s v j Q K r h;simp only[KD.depth]at K;simp only[KD.hash,KD.draws]at h;have(a,o,B,n,rfl,D,I,J,hi):=U2 r;have q:s.TypeIs ↑a "tuple":=⟨o,D,I⟩;unfold pyHash;first|unfold pyHashByItsType|skip
  first|refine Gb (wpAny_cRoomFor_or (.inr (by lia)) ?_)|skip
  refine Gb (Sf q F.slot_tuple_hash.lookup ?_);show wpAny _ _ (if(Ga (Value.builtin "tuple.__hash__")==Ga DJ)=Gk then _ else _) Q E s;rw[Gu (by rw[beq_builtin_none];exact TH)];refine Gb (Sf q F.slot_tuple_hash.lookup ?_);show wpAny _ _ (callSpecialIfBoundUnlessNone? ↑a "__hash__" _>>=_) Q E s;refine Gb (wpAny_callSpecialIfBoundUnlessNone?_slot q F.slot_tuple_hash (Dy F.slot_tuple_hash q F.entry_tuple_hash ?_ (F.args_tuple_hash_1 _)));show wpAny _ _ (Mi ↑a>>=_) _ _ s;refine Gb (wpAny_tupleItemsOf D J ?_);refine Gb ?_;rw[<-L9];refine Bq _
   (λWa(b:Array Int)C=>∃done left g,xs=done++left/\LV s.heap Wa (Rv left) g/\b.toList=U9 w done/\C={s with toks:=s.toks+Wn done})
   _ ?_ ?_ _ _ {[],xs,j,1,hi,11}
  .rintro x Wa b C ⟨done,left,g,rfl,u,y,rfl⟩;cases left with
   |nil=>cases R8 u
   |cons k f=>
     have(v,M,_,_,e,H,z):=V9 u;cases e;have L:=pO (xs:=done++k::f) (x:=k) ⋯;refine Gb (m k ⋯ (A:=A.in1) (s:={s with toks:=s.toks+Wn done}) (by show A.units+1+k.depth<E3;lia) H ?_);have G:s.toks+Wn done+k.draws=s.toks+Wn (done++[k]):=by rw[Ri];simp only[Wn];lia
     have p:∃c d l,done++k::f=c++d/\LV s.heap Wa (Rv d) l/\(b.push (k.hash w)).toList=U9 w c/\({s with toks:=s.toks+Wn done+k.draws}:Gw)={s with toks:=s.toks+Wn c}:=
      {done++[k],f,_,by simp,z,by simp[y,yX],by rw[G]}
     first
      |exact Gj p
      |exact Gb (Gj (Gj p))
  .rintro b C ⟨done,left,g,rfl,u,y,rfl⟩;cases left with
   |cons k f=>have(_,_,_,_,e,_):=V9 u;cases e
   |nil=>
    rw[D2]at h;show wpAny _ _ (retInt (EA b.toList)) _ _ _;rw[y];refine BE ?_;show wpAny _ _ (if(decide (-(2:Int)^63<=EA (U9 w done))&&decide (EA (U9 w done)<2^63))=Gk then _ else _) Q E _;unfold reduceHash at h;by_cases c:(decide (-(2:Int)^63<=EA (U9 w done))&&decide (EA (U9 w done)<2^63))=Gk
    .rw[GY c];rw[GY c]at h;exact Gj (by simpa[CM]using h)
    .rw[Gu c];rw[Gu c]at h;exact Gb (LD (Gj (by simpa[CM]using h)))
theorem Qtq:∀(k:KD)(n:Nat){A:DW}{E:Gh->Gw->Prop}{s:Gw}{v:Gh}{d:List Ge}{Q:Bool->Gw->Prop},k.depth<=n->Mj s.heap v k.toD d->Q Gk s->wpAny (TV prog w) A (eqIsQuiet n v) Q E s:=by
 intro k;induction k using KD.ind with
 |hi i=>intro n A E s v d Q _ r h;have(t,rfl):=Uz r;rw[RX n rfl];exact Gj h
 |hs x=>intro n A E s v d Q _ r h;have(t,rfl):=U1 r;rw[RX n rfl];exact Gj h
 |ht D g=>
  intro n A E s v d Q B r h;cases n with
  |zero=>simp[KD.depth]at B
  |succ n=>
  simp only[KD.depth]at B;have(a,o,c,m,rfl,C,H,I,hi):=U2 r;have u:s.TypeIs ↑a "tuple":=⟨o,C,H⟩;unfold eqIsQuiet;refine Gb (Sf u F.slot_tuple_eq.lookup ?_);show wpAny _ _ (isInstance ↑a (.type "tuple")>>=_) _ _ s;refine Gb (S0 u isSubtype_tuple_tuple ?_);simp only[CO,DQ,EN];refine Gb (DD C I ?_);refine Gb ?_;show wpAny _ _ (forIn c _ _) _ _ s;rw[<-L9];refine Bq _ (λWa r q=>r.1=Gp/\q=s/\∃left f,(∀k∈left,k∈D)/\LV s.heap Wa (Rv left) f) _ ?_ ?_ _ _ {11,D,d,λ_ z=>z,hi}
  .rintro v Wa r q ⟨l,rfl,left,f,b,y⟩;cases left with
   |nil=>cases R8 y
   |cons k p=>have(v,L,_,_,e,G,j):=V9 y;cases e;have K:=pO (b k ⋯);refine Gb (g k (b k ⋯) n (by lia) G ?_);simp only[CO,DQ,EN];exact Gj {11,p,_,λz J=>b z (Gr _ J),j}
  .rintro⟨b,e⟩ q ⟨l,rfl,_⟩;simp only at l;subst l;exact Gj h
def V6(prog:Gn)(w:Ti):HJ prog w KD where
 is:=λh k a=>(∃c,Mj h ↑a k.toD c)/\k.toD.canLay0=Gk/\k.depth<=8
 hash:=KD.hash w
 draws:=KD.draws
 room:=λA=>A.units+10<E3
 inj:=λ⟨⟨_,h1⟩,_⟩⟨⟨_,h2⟩,_⟩=>VY _ _ h1 h2
 keeps:=λ⟨⟨c,h1⟩,h2,d⟩f e hs=>{{c,PU f e hs h1 h2},h2,d}
 pyHash:=λ{A E s k a Q}g⟨⟨c,h1⟩,_,d⟩h=>Qq6 k ∅ h1 h
 eqBool:=λ{A E s x y a b Q}g⟨⟨c,h1⟩,h2,d⟩⟨⟨l,i⟩,j,m⟩h=>Hl x.toD y.toD A s _ _ _ _ h1 i h2 j (by rw[oZ,oZ];ext) prog w E Q (by rw[QL];exact h)
 quiet:=λ{A E s k a Q}⟨⟨c,h1⟩,_,d⟩h=>Qtq k 8 d h1 h
end
end L2
namespace PySem
def Heap.I8(h:Heap)(d:Ge)(es:Array LI)(ep:Nat):Prop:=∃o,h.get? d/o/\o.ExactDict/\o.data=.dict es ep
section
variable{prog:Gn}{w:Ti}{A:DW}{E:Gh->Gw->Prop}{s:Gw}{d:Ge}{es:Array LI}{ep:Nat}
theorem Heap.I8.typeIs(x:s.heap.I8 d es ep):s.TypeIs ↑d "dict":=let⟨o,ho,hc,_⟩:=x;{o,ho,hc.1}
theorem Heap.I8.at{h a:Heap}(x:h.I8 d es ep)(e:∀o,h.get? d/o->a.get? d/o):a.I8 d es ep:=let⟨o,ho,r⟩:=x;{o,e _ ho,r}
theorem Heap.I8.lt{h:Heap}(x:h.I8 d es ep):d<h.objs.size:=let⟨_,ho,_⟩:=x;Tn ho
theorem PR{Q:Gh->Gw->Prop}(e:(d==Er)=Gx)(b:s.heap.I8 d es ep)(c:(es.size:Int)<2^63)
  (h:Q (.int es.size (s.toks+1)) {s with toks:=s.toks+1+1}):wpAny (TV prog w) A (call (.builtin "len") [↑d]) Q E s:=by
 have(o,f,c,a):=id b;refine Mt kind_len plain_len entry_len (args_len1 _) ?_;unfold Builtin.«len»;refine Gb (m:=oneArg "len" _) (Gj ?_);refine Gb (m:=callSpecial? ↑d (Ev "__len__")) (Dz (name:=Ev "__len__") b.typeIs F.slot_dict_len
  (Dy F.slot_dict_len b.typeIs F.entry_dict_len ?_ (F.args_dict_len_1 _)))
 show wpAny _ _ (dictSize d>>=_) _ _ s;unfold dictSize;refine Gb (Gb (EU f a (Gj ?_)));show wpAny _ _ (Cf d>>=_) _ _ s;refine Gb (wpAny_pendingCount_other e ?_);refine BE ?_;rw[RY];show wpAny _ _ _ _ _ {s with toks:=s.toks+1};refine Gb (Ej (Gj ?_));refine Gb (LF ?_);show wpAny _ _ (if((es.size:Nat):Int)<0 then _ else _) _ _ _;rw[Gu (by lia)];show wpAny _ _ (if((es.size:Nat):Int)>=2^63 then _ else _) _ _ _;rw[Gu (by lia)];exact Gb (wpAny_mkInt (Gj {0,h}))
theorem XD{Q:Gh->Gw->Prop}(g:(d==Er)=Gx)(c:s.heap.I8 d es ep)
  (f:Q ↑s.heap.objs.size {s with heap:=s.heap.push {cls:=.type "dict_keyiterator",data:=.fields #[↑d,.int 0 0,.int es.size 0,.int ep 0]}}):
  wpAny (TV prog w) A (pyIter ↑d) Q E s:=by
 have(o,e,h,a):=id c;have b:=c.typeIs;refine MA b F.slot_dict_iter (Dy F.slot_dict_iter b F.entry_dict_iter ?_ (F.args_dict_iter_1 _));unfold Builtin.«dict.__iter__»;refine Gb ?_;unfold Ci;refine Gb (Fo b ?_);show wpAny _ _ (pure (Tq d)) _ _ s;refine Gj ?_;show wpAny _ _ (Ly d>>=_) _ _ s;unfold Ly;rw[Gu (by rw[g];exact TH)];refine Gb (Gj ?_);refine Gb (EU e a ?_);refine Gb (Lo e a ?_);refine Gb (DE (Gj {0,"dict_keyiterator",_,{_,Tc _ Xb,1},F.slot_dict_keyiterator_next.lookup,?_}));simpa[rawInt]using f
theorem YO{f:Ge}{i:Nat}{e:LI}{Q:Option Gh->Gw->Prop}(a:s.heap.IsKeyIter f d i es.size ep)(u:s.heap.I8 d es ep)(m:es[i]?/e)
  (p:∀h,h.IsKeyIter f d (i+1) es.size ep->Eb f s.heap h->Q (Ga e.key) {s with heap:=h}):
  wpAny (TV prog w) A (pyNext ↑f) Q E s:=by
 have(o,n,q,l):=id a;have(v,j,r,g):=id u;unfold pyNext;refine Gb (Lv (Dz (name:=Ev "__next__") a.typeIs F.slot_dict_keyiterator_next
  (Dy F.slot_dict_keyiterator_next a.typeIs F.entry_dict_keyiterator_next ?_ (F.args_dict_keyiterator_next_1 _))))
 refine Gb (Gj ?_);refine Gb ?_;refine Gb ?_;first|refine Gb (E6 a.typeIs (Gj ?_))|refine Gb (SO a.typeIs (Gj ?_))
 refine Gb (Ml n l ?_);have k:EL "dict_keyiterator"=Gx:=by decide
 simp -iota only [k,DQ,EN];show wpAny _ _ (if(Tq d==DJ)=Gk then _ else _) _ _ s;rw[Gu (show¬((Tq d==DJ)=Gk)from TH)];refine Gb (Gj ?_);refine Gb (EU j g ?_);rw[Gu ⋯];refine Gb (Gj ?_);refine Gb (Lo j g ?_);rw[Gu ⋯];refine Gj ?_;have c:i<es.size:=by
  rcases Dn i es.size with h|h
  .exact h
  .rw[Ed h]at m;cases m
 have t:es[i]=e:=by rw[Dg c]at m;exact T1 m
 simp only[show¬((i:Int)<0)from by ext,EN,EE,Dg c];refine Gb ?_;first|refine Gb (E6 a.typeIs (Gj ?_))|refine Gb (SO a.typeIs (Gj ?_))
 refine Gb (Nu a.typeIs ?_);show wpAny _ _ (setField ↑f 1 (rawInt ((i:Int)+1))>>=_) _ _ s;refine Gb (LG n l ⋯ ?_);have b:(s.heap.update f (FA (·.setIfInBounds 1 (rawInt ((i:Int)+1))))).IsKeyIter f d (i+1) es.size ep:=
  {_,DU _ n (Fp (Ss l _)),(MC ..).trans q,by rw[Ss l];simp -iota [rawInt]}
 refine Gb (Ej ?_);refine Gb (Nu (s:={s with heap:=s.heap.update f (FA (·.setIfInBounds 1 (rawInt ((i:Int)+1))))}) b.typeIs ?_);show wpAny _ _ (pure es[i].key) _ _ _;rw[t];exact Gj (Gj {0,Gj (p _ b (D0 ..))})
theorem VQ{f:Ge}{i:Nat}{Q:Option Gh->Gw->Prop}(n:A.handled=Gp)(a:s.heap.IsKeyIter f d i es.size ep)(p:s.heap.I8 d es ep)(g:es.size<=i)
  (l:∀h,NG f s.heap h->Q Gp {s with heap:=h}):wpAny (TV prog w) A (pyNext ↑f) Q E s:=by
 have(o,k,h,j):=id a;have(q,c,m,b):=id p;unfold pyNext;refine Gb (Lv (Dz (name:=Ev "__next__") a.typeIs F.slot_dict_keyiterator_next
  (Dy F.slot_dict_keyiterator_next a.typeIs F.entry_dict_keyiterator_next ?_ (F.args_dict_keyiterator_next_1 _))))
 refine Gb (Gj ?_);refine Gb ?_;refine Gb ?_;first|refine Gb (E6 a.typeIs (Gj ?_))|refine Gb (SO a.typeIs (Gj ?_))
 refine Gb (Ml k j ?_);have e:EL "dict_keyiterator"=Gx:=by decide
 simp -iota only [e,DQ,EN];show wpAny _ _ (if(Tq d==DJ)=Gk then _ else _) _ _ s;rw[Gu (show¬((Tq d==DJ)=Gk)from TH)];refine Gb (Gj ?_);refine Gb (EU c b ?_);rw[Gu ⋯];refine Gb (Gj ?_);refine Gb (Lo c b ?_);rw[Gu ⋯];refine Gj ?_;simp only[show¬((i:Int)<0)from by ext,EN,EE,Ed g];refine Gb ?_;first|refine Gb (E6 a.typeIs (Gj ?_))|refine Gb (SO a.typeIs (Gj ?_))
 show wpAny _ _ (setField ↑f 0 .none>>=_) _ _ s;refine Gb (LG k j ⋯ ?_);show wpAny _ _ (newExc (.type "StopIteration") []>>=_) _ _ _;refine Gb ?_;simp -iota only [newExc,newTuple];refine Gb (DE ?_ (by size_fits));refine Gb (m:=firstArgMember _ _) (Bx (a:=DJ) (by first|rfl|(simp -iota only [firstArgMember];rfl)) ?_);refine DE ?_ (by size_fits);simp -iota only [raiseNew];refine Gb (NW ?_);rw[show A.in1.handled=Gp from n];refine Gb (Gj (By ?_));refine Gb (S0 (T:="StopIteration") (b:=Gk) {_,Tc _ Xb,1} Mm ?_);exact Gj (l _ (((D0 ..).extBut.push _).push _))
theorem Walks.Q0a(t:A.handled=Gp)(I d:Ge)(n:d≠I)(c:Array LI)(p:Nat):
  Walks prog w A I [I,d] [I] c.size (λi v=>∃e,c[i]?/e/\v=e.key) (λi h=>h.IsKeyIter I d i c.size p/\h.I8 d c p) where
 sub:=λb f=>by simp at f;simp -iota [f]
 frame:=λ_ _ _ a q=>{a.1.at λo e=>q I ⋯ o e,a.2.at λo e=>q d ⋯ o e}
 item:=λi s Q E hi a g=>by have r:c[i]?/c[i]:=Dg hi;refine YO a.1 a.2 r λl j k=>?_;exact g _ l s.toks {_,r,1} {j,a.2.at λo e=>(k.2 d n).trans e} λb o f e=>k.extBut b o (λh=>f (by simp -iota [h])) e
 done:=λs Q E a g=>VQ t a.1 a.2 (Gy _) λl m=>g l s.toks λb o f e=>m b o (λh=>f (by simp -iota [h])) e
 self:=λ_ _ _ _ a g=>NH a.1 g
theorem ZJ(g:(d==Er)=Gx):BS prog w "dict" d d es.size (λi v=>∃e,es[i]?/e/\v=e.key) (λh=>h.I8 d es ep) where
 type:=λ_ a=>a.typeIs
 there:=λ_ a=>{a.lt,a.lt}
 keep:=λ_ _ a f=>a.at λo e=>f d (.inl Xb) o e
 notList:=by decide
 notTuple:=by decide
 hint:=λ_ _ _ _ a b=>Hs a.typeIs b
 iter:=λ_ _ c a=>{2,(λ_ _ b=>XD g a b),Walks.Q0a c _ d (T9 a.lt) es ep,{{_,Tc _ Xb,11},a.at λo e=>Gm _ e}}
end
end PySem
namespace L2
open PySem PySem.Spec PyProof.Rows
variable{k:KD}
abbrev KE:=KD×Ge×V
variable{zw:List KE}
noncomputable def Yp(zw:List KE)(k:KD):Option V:=(zw.find? λp=>decide (p.1=k)).map (·.2.2)
noncomputable def Vg(zw:List KE)(k:KD)(b:Ge)(v:V):List KE:=if(Yp zw k).isSome=Gk then zw.map (λp=>if p.1=k then(p.1,p.2.1,v)else p)else zw++[(k,b,v)]
abbrev KX:List KE->List (KD×Ge×Gh)->Prop:=Dm λp q=>p.1=q.1/\p.2.1=q.2.1/\zv p.2.2 q.2.2
def qM(P:Gn)(w:Ti)(a:Ge)(zw:List KE)(h:Heap):Prop:=
 ⇑zw<=TF/\(a==Er)=Gx/\∃xs,KX zw xs/\∃o es ep,h.get? a/o/\o.ExactDict/\o.data=.dict es ep/\es.toList=xs.map (entryOfKey (V6 P w))/\(xs.map (·.1)).Nodup
def Ut(P:Gn)(w:Ti)(a:Ge)(zw:List KE):HO:=.ext (qM P w a zw)
def Jd(H:Hp)(zw:List KE):Prop:=∀p∈zw,Dt H ↑p.2.1 p.1.toD/\p.1.toD.canLay0=Gk/\p.1.depth<=8
def iw(H:Hp)(b:Ge)(k:KD):Prop:=Dt H ↑b k.toD/\k.toD.canLay0=Gk/\k.depth<=8
theorem rR{P:Gn}{w:Ti}{H:Hp}{h:Heap}{a:Ge}(x:qM P w a zw h):Yr P w H h a (Ut P w a zw):=by
 exists x,?_
 .obtain⟨_,_,_,_,o,_,_,e,_⟩:=x;exact⟨o,e⟩
 .rintro i j ⟨f,g,d,r,o,c,b,e,q⟩ k;exact{f,g,d,r,o,c,b,k o e,q}
theorem KX.val{i:List (KD×Ge×Gh)}(r:KX zw i)(k:KD):R1 (Yp zw k) ((atKey i k).map (·.2)):=by
 induction r with
 |nil=>exact Es
 |@cons p q d f h t l=>
  have(g,_,j):=h;by_cases e:p.1=k
  .have a:q.1=k:=g.symm.trans e;have b:atKey (q::f) k/q.2:=by simp[atKey,Eg,a]
   have c:Yp (p::d) k/p.2.2:=by simp[Yp,Eg,e]
   rw[c,b];exact j
  .have a:¬q.1=k:=λz=>e (g.trans z);have b:atKey (q::f) k=atKey f k:=by simp[atKey,Eg,a]
   have c:Yp (p::d) k=Yp d k:=by simp[Yp,Eg,e]
   rw[c,b];exact l
theorem KX.put{c:List (KD×Ge×Gh)}(r:KX zw c)(k:KD)(b:Ge){v:V}{u:Gh}(f:zv v u):KX (Vg zw k b v) (storedH c k b u):=by
 have e:(Yp zw k).isSome=(atKey c k).isSome:=by rw[(r.val k).Va,SG]
 unfold Vg storedH;rw[e];by_cases q:(atKey c k).isSome=Gk
 .rw[GY q,GY q];clear q e;induction r with
  |nil=>exact .nil
  |@cons p q j l h t i=>
   rw[TC,TC];refine .cons ?_ i;have(a,d,g):=h;unfold putAt;by_cases e:p.1=k
   .rw[GY e,GY (a.symm.trans e)];exact⟨a,d,f⟩
   .rw[Gu e,Gu (λz=>e (a.trans z))];exact⟨a,d,g⟩
 .rw[Gu q,Gu q];exact E5 r ⟨Xb,Xb,f⟩
theorem Rg(a:List KE)(k:KD)(b:Ge)(v:V):⇑(Vg a k b v)<=⇑a+1:=by
 unfold Vg;split
 .rw[Gq];ext
 .rw[Gs,Tg];ext
theorem wL(b:Ge)(v:V)(h:Yp zw k=Gp):Vg zw k b v=zw++[(k,b,v)]:=by unfold Vg;rw[h];exact Gu (by decide)
theorem xo{u:V}(b:Ge)(v:V)(h:Yp zw k/u):Vg zw k b v=zw.map (λp=>if p.1=k then(p.1,p.2.1,v)else p):=by unfold Vg;rw[h];exact GY rfl
theorem Xc{p:KE}{r:List KE}(e:p.1=k):Yp (p::r) k/p.2.2:=by simp[Yp,Eg,e]
theorem Xd{p:KE}{r:List KE}(e:¬p.1=k):Yp (p::r) k=Yp r k:=by simp[Yp,Eg,e]
theorem rD(k j:KD)(b:Ge)(y:V):∀a:List KE,Yp a k=Gp->Yp (a++[(k,b,y)]) j=if j=k then Ga y else Yp a j
 |[],_=>by
  by_cases e:k=j
  .rw[GY e.symm];exact Xc (p:=(k,b,y)) e
  .rw[Gu (λz=>e z.symm)];exact Xd (p:=(k,b,y)) e
 |p::r,c=>by
  rw[D9];have d:¬p.1=k:=λz=>by rw[Xc z]at c;cases c
  rw[Xd d]at c;have f:=rD k j b y r c;by_cases e:p.1=j
  .rw[Xc e,Xc e,Gu (λz=>d (e.trans z))]
  .rw[Xd e,Xd e,f]
theorem xT(k j:KD)(y:V):∀a:List KE,Yp (a.map λp=>if p.1=k then(p.1,p.2.1,y)else p) j=(Yp a j).map λx=>if j=k then y else x
 |[]=>rfl
 |p::r=>by
  have b:=xT k j y r;rw[TC];by_cases h:p.1=k
  .rw[GY h];by_cases e:p.1=j
   .rw[Xc (p:=(p.1,p.2.1,y)) e,Xc e,Eh,GY (e.symm.trans h)]
   .rw[Xd (p:=(p.1,p.2.1,y)) e,Xd e,b]
  .rw[Gu h];by_cases e:p.1=j
   .rw[Xc (p:=p) e,Xc e,Eh,Gu (λz=>h (e.trans z))]
   .rw[Xd (p:=p) e,Xd e,b]
theorem U7(a:List KE)(k j:KD)(b:Ge)(y:V):Yp (Vg a k b y) j=if j=k then Ga y else Yp a j:=by
 cases q:Yp a k with
 |none=>rw[wL b y q,rD k j b y a q]
 |some u=>
  rw[xo b y q,xT];by_cases e:j=k
  .rw[GY e,e,q,Eh,GY rfl]
  .rw[Gu e];cases Yp a j with
   |none=>rfl
   |some x=>rw[Eh,Gu e]
theorem KY(a:List KE)(k:KD)(b:Ge)(v:V):∀p∈Vg a k b v,(p.1=k/\p.2.1=b)\/∃u,(p.1,p.2.1,u)∈a:=λp c=>by
 unfold Vg at c;split at c
 .obtain⟨q,d,e⟩:=Tv.mp c;right;split at e
  .subst e;exact{q.2.2,d}
  .subst e;exact{q.2.2,d}
 .rcases Gi.mp c with h|h
  .exact .inr {p.2.2,h}
  .rw[Tf]at h;subst h;exact .inl ⟨Xb,Xb⟩
theorem Jd.put{H:Hp}{b:Ge}{v:V}(h:Jd H zw)(d:iw H b k):Jd H (Vg zw k b v):=λp e=>by
 rcases KY zw k b v p e with⟨a,c⟩|⟨u,f⟩
 .rw[a,c];exact d
 .exact h (p.1,p.2.1,u) f
section
variable{X:Cx}{zq:List (Ge×Lc)}{σ:St}{H:Hp}{s:Gw}{a b:Ge}{zw:List KE}{k:KD}
theorem iw.is(I:zx X zq σ H s)(h:iw H b k):(V6 X.prog X.w).is s.heap k b:=by have(c,d,e):=h;have(a,r):=c.reads I.Yc (u:=↑b) rfl;exact{⟨a,r⟩,d,e}
theorem kx(I:zx X zq σ H s)(e:H a/Ut X.prog X.w a zw):qM X.prog X.w a zw s.heap:=(I.Yc a _ e).1
theorem kI(I:zx X zq σ H s)(e:H a/Ut X.prog X.w a zw)(v:Jd H zw):⇑zw<=TF/\(a==Er)=Gx/\∃c,KX zw c/\s.heap.DictOfH (V6 X.prog X.w) a c:=by
 have(z,y,c,r,o,g,f,i,j,k,n,u):=kx I e;refine{z,y,c,r,o,g,f,i,j,k,n,λx b=>?_,u};have all:∀{l:List KE}{m:List (KD×Ge×Gh)},KX l m->(∀p∈l,p∈zw)->∀x∈m,(V6 X.prog X.w).is s.heap x.1 x.2.1:=by
  intro l m q;induction q with
  |nil=>intro _ x b;exact nomatch b
  |@cons p q A B d t w=>
   intro sub x b;rcases Td.mp b with e|b
   .subst e;rw[<-d.1,<-d.2.1];exact iw.is I (v p (sub p ⋯))
   .exact w (λp h=>sub p (Gr _ h)) x b
 exact all r (λ_ h=>h) x b
end
def sH(P:Gn)(w:Ti):TE:=λ_ H Q=>∀p,H p=Gp->Q ↑p (zj H p (Ut P w p []))
structure DH(P:Gn)(w:Ti)(H:Hp)(d:Ge)(zw:List KE):Prop where
 at_:H d/Ut P w d zw
 keys:Jd H zw
section
variable{X:Cx}
theorem Ju{a:MQ}:PE X (.Dict [] [] a) (sH X.prog X.w):=λb s c H Q I h=>
 MX ⟨↑s.heap.objs.size,_,I.laid (a:=s.heap.objs.size) (o:=Ut X.prog X.w s.heap.objs.size []) (t':=s.toks) (λ_ _ q=>Gm _ q) (Gy _)
  (rR {Tw _,EW.mpr (GQ (T9 I.big)),[],.nil,_,#[],(0),Tc _ Xb,⟨Xb,Xb,Xb⟩,11,SY}),Xb,h _ (I.Yc.fresh (Gy _))⟩
inductive yD(P:Gn)(w:Ti)(f:Bool->Bool)(x:V)(y:V)(H:Hp)(Q:VK):Prop
 |mk (b:_) (d:_) (k:_) (zw:_) (h0:x=↑b) (h1:y=↑d) (h2:DH P w H d zw) (h3:iw H b k) (h4:Q (.bl (f (Yp zw k).isSome)) H):yD P w f x y H Q
def pF(P:Gn)(w:Ti)(f:Bool->Bool):R2:=λx y H Q=>yD P w f x y H Q
theorem Q8v(a:X.A.units+64<E3):hA X (Ep .In) (pF X.prog X.w λb=>b):=by intro c s o H x y v u Q I l m h;have(b,d,k,j,rfl,rfl,D,i,q):=h;cases(show v=Tq b from l);cases(show u=Tq d from m);have(z,g,n,a,f):=kI I D.at_ D.keys;refine CK (knd:=V6 X.prog X.w) (show X.A.units+1+10<E3 by ext) (i.is I) g f ?_;have e:=(a.val k).Va;rw[SG]at e;rw[<-e];exact{.bl _,H,I.tok _,1,q}
theorem O3(a:X.A.units+64<E3):hA X (Ep .NotIn) (pF X.prog X.w λb=>!b):=by intro c s o H x y v u Q I l m h;have(b,d,k,j,rfl,rfl,D,i,q):=h;cases(show v=Tq b from l);cases(show u=Tq d from m);have(z,g,n,a,f):=kI I D.at_ D.keys;refine Bo (knd:=V6 X.prog X.w) (show X.A.units+1+10<E3 by ext) (i.is I) g f ?_;have e:=(a.val k).Va;rw[SG]at e;rw[<-e];exact{.bl _,H,I.tok _,1,q}
inductive xR(P:Gn)(w:Ti)(x:V)(y:V)(H:Hp)(Q:VK):Prop
 |mk (d:_) (b:_) (k:_) (zw:_) (v:_) (h0:x=↑d) (h1:y=↑b) (h2:DH P w H d zw) (h3:iw H b k) (h4:Yp zw k/v) (h5:Q v H):xR P w x y H Q
def lX(P:Gn)(w:Ti):R2:=λx y H Q=>xR P w x y H Q
theorem Oh(a:X.A.units+64<E3):iV X (lX X.prog X.w):=by
 intro g f j s B H x y v u Q I o t h hs;have(d,b,k,n,r,rfl,rfl,D,l,m,q):=h;cases(show v=Tq d from o);cases(show u=Tq b from t);have(z,A,w,c,i):=kI I D.at_ D.keys;have a:=c.val k;rw[m]at a;cases e:atKey w k with
 |none=>rw[e]at a;exact(show False from a).elim
 |some p=>rw[e]at a;refine Fj (x:=p.2) i.typeIs Ms.lookup ?_ hs;exact RD (knd:=V6 X.prog X.w) (show X.A.units+1+10<E3 by ext) (l.is I) i e {1,r,H,I.tok _,a,q}
inductive zL(P:Gn)(w:Ti)(o:V)(i:V)(v:V)(H:Hp)(Q:Hp->Prop):Prop
 |mk (d:_) (b:_) (k:_) (zw:_) (h0:o=↑d) (h1:i=↑b) (h2:DH P w H d zw) (h3:iw H b k) (h4:⇑zw<TF) (h5:Q (zj H d (Ut P w d (Vg zw k b v)))):zL P w o i v H Q
def nZ(P:Gn)(w:Ti):pe:=λo i v H Q=>zL P w o i v H Q
theorem O8(a:X.A.units+64<E3):xf X (nZ X.prog X.w):=by
 intro g s K H o i v ov A u Q I C B E h;have(d,b,k,a,rfl,rfl,D,x,G,q):=h;cases(show ov=Tq d from C);cases(show A=Tq b from B);have(z,w,J,c,j):=kI I D.at_ D.keys;have y:⇑(Vg a k b v)<=TF:=by have:=Rg a k b v;ext
 refine RE (knd:=V6 X.prog X.w) (hsz:=by rw[<-GJ c];exact z) (show X.A.units+1+10<E3 by ext) (x.is I) j λF e hs=>?_;have(ob,m,l,f,n,p,r,_,t):=e;refine{_,R7 (ob:=Ut X.prog X.w d (Vg a k b v)) I (by rw[D.at_];exact Es) hs ⟨ob,f⟩ (rR {y,w,_,c.put k b E,ob,m,l,f,n,p,r,t}),q}
theorem UE:Us X (.builtin "len") (λxs H Q=>∃d a,xs=[↑d]/\DH X.prog X.w H d a/\Q (.int ⇑a) H):=by
 intro c s w H xs t Q I r h;have(d,a,rfl,D,q):=h;have(u,rfl,m):=vals1 r;cases(show u=Tq d from m);have(z,l,v,b,o,f,n,g,i,j,k,_):=kx I D.at_;have p:=O9;have e:f.size=⇑a:=by rw[GJ b,<-Gq (f:=entryOfKey (V6 X.prog X.w)),<-k,DI]
 refine PR l ⟨o,g,i,j⟩ (by lia) ?_;rw[e];exact{.int ⇑a,H,I.tok _,{40},q}
theorem PP(G:X.calm=Gk):Us X (.type "list") (λxs H Q=>∃d b,xs=[↑d]/\DH X.prog X.w H d b/\∀l,H l=Gp->Q ↑l (zj H l (.lst (b.map λp=>↑p.2.1)))):=by
 intro l s P H xs T Q I r h;have(d,b,rfl,D,q):=h;have(u,rfl,N):=vals1 r;cases(show u=Tq d from N);have(z,J,O,m,o,es,ep,B,C,E,n,j):=kx I D.at_;have e:es.size=⇑b:=by rw[GJ m,<-Gq (f:=entryOfKey (V6 X.prog X.w)),<-n,DI]
 refine Br (ZJ (es:=es) (ep:=ep) J) (I.ok.hd G) ⟨o,B,C,E⟩ (by rw[e];exact z) λw x a A M F c=>?_;have g:⇑(b.map λp=>V.ref p.2.1)<=TF:=by rw[Gq];exact z
 have v:Yh (b.map λp=>V.ref p.2.1) a.toList:=by
  have k:es.toList.map (·.key)=O.map λq=>Tq q.2.1:=by rw[n,Ds];rfl
  have f:a.toList=es.toList.map (·.key):=by
   refine Fk λi=>?_;by_cases hi:i<a.size
   .obtain⟨L,K,v⟩:=c.2 i a[i] (Dg hi);rw[Em,Dg hi,Ta,Em,K,v];rfl
   .have K:=c.1;rw[Dl (by simp;lia),Dl (by simp;lia)]
  rw[f,k];clear q z n k f g e c D j;induction m with
  |nil=>exact .nil
  |@cons p q R S K t L=>rw[TC,TC];refine .cons ?_ L;show Tq q.2.1=Tq p.2.1;rw[K.2.1]
 have y:zx X l P (zj H s.heap.objs.size (.lst (b.map λp=>↑p.2.1))) {s with heap:=w,toks:=x}:=
  I.laid (t':=x) M (Gy _) (show Yr X.prog X.w _ w _ (.lst _)from{g,a.toList,A,v,by rw[SH];exact F})
 exact{↑s.heap.objs.size,_,y,1,q _ (I.Yc.fresh (Gy _))}
end
end L2
namespace Sb
open PySem
variable{S:List Th}{L:Th->Int}{t x y:Th}{b d:Ge}{H H':Hp}{P:Gn}{w:Ti}
abbrev Tl:=List (Bool×Th×Th)
variable{tl:Tl}
mutual
inductive Cg(tl:Tl):Th->Th->Prop
 |refl (t:Th):Cg tl t t
 |symm {s t:Th}:Cg tl s t->Cg tl t s
 |trans {r s t:Th}:Cg tl r s->Cg tl s t->Cg tl r t
 |told {s t:Th}:(Gk,s,t)∈tl->Cg tl s t
 |cong {w:TQ} {ps qs:List Th}:jm tl ps qs->Cg tl (.mk w ps) (.mk w qs)
inductive jm(tl:Tl):List Th->List Th->Prop
 |nil:jm tl [] []
 |cons {p q:Th} {ps qs:List Th}:Cg tl p q->jm tl ps qs->jm tl (p::ps) (q::qs)
end
theorem jm.of{b a:List Th}(h:⇑b=⇑a)(f:∀(i:Nat)p q,b[i]?/p->a[i]?/q->Cg tl p q):jm tl b a:=by
 induction b generalizing a with
 |nil=>cases a with
  |nil=>exact .nil
  |cons=>cases h
 |cons p b c=>cases a with
  |nil=>cases h
  |cons q a=>exact .cons (f 0 p q rfl rfl) (c (Hm h) λi=>f (i+1))
inductive Dv where
 |cls (i:Int)
 |node (w:TQ) (ds:List Dv)
open Classical in
noncomputable def act(S:List Th)(L:Th->Int)(w:TQ)(ds:List Dv):Dv:=
 if h:∃a,Th.mk w a∈S/\a.map (λq=>Dv.cls (L q))=ds then .cls (L (.mk w (Ft h)))else .node w ds
mutual
noncomputable def ev(S:List Th)(L:Th->Int):Th->Dv
 |.mk w ps=>act S L w (evL S L ps)
noncomputable def evL(S:List Th)(L:Th->Int):List Th->List Dv
 |[]=>[]
 |p::r=>ev S L p::evL S L r
end
structure jg(tl:Tl)(S:List Th)(L:Th->Int):Prop where
 closed:∀w ps,Th.mk w ps∈S->∀p∈ps,p∈S
 told:∀a b,(Gk,a,b)∈tl->a∈S/\b∈S/\L a=L b
 cong:∀w ps qs,Th.mk w ps∈S->Th.mk w qs∈S->ps.map L=qs.map L->L (.mk w ps)=L (.mk w qs)
theorem vY{L:Th->Int}:∀{a b:List Th},a.map (λq=>Dv.cls (L q))=b.map (λq=>Dv.cls (L q))->a.map L=b.map L
 |[],[],_=>rfl
 |[],_::_,h=>by simp at h
 |_::_,[],h=>by simp at h
 |p::a,q::b,h=>by simp only[TC,DP,Dv.cls.injEq]at h⊢;exact{h.1,vY h.2}
mutual
theorem lq{g:Tl}{S:List Th}{L:Th->Int}(T:jg g S L):∀t:Th,t∈S->ev S L t=.cls (L t)
 |.mk w a,h=>by
  have e:evL S L a=a.map (λq=>Dv.cls (L q)):=vf T a (T.closed w a h);have b:∃d,Th.mk w d∈S/\d.map (λq=>Dv.cls (L q))=a.map (λq=>Dv.cls (L q)):=⟨a,h,Xb⟩;have f:ev S L (.mk w a)=act S L w (evL S L a):=by simp only[ev]
  rw[f,e];unfold act;rw[dif_pos b];have c:=Nv b;rw[T.cong w _ a c.1 h (vY c.2)]
theorem vf{c:Tl}{S:List Th}{L:Th->Int}(T:jg c S L):∀a:List Th,(∀p∈a,p∈S)->evL S L a=a.map (λq=>Dv.cls (L q))
 |[],_=>by simp[evL]
 |p::r,h=>by simp only[evL,TC];rw[lq T p (h p G8),vf T r λq b=>h q (Gr _ b)]
end
theorem UY(T:jg tl S L){s:Th}(c:Cg tl s t):ev S L s=ev S L t:=
 Cg.rec (motive_1:=λs t _=>ev S L s=ev S L t) (motive_2:=λs t _=>evL S L s=evL S L t) (λ_=>rfl) (λ_ h=>h.symm) (λ_ _ h k=>h.trans k)
  (λm=>by have(a,b,d):=T.told _ _ m;rw[lq T _ a,lq T _ b,d]) (λ_ h=>by simp only[ev,h]) rfl (λ_ _ h k=>by simp only[evL,h,k]) c
theorem jg.complete(T:jg tl S L)(a:x∈S)(b:y∈S)(c:Cg tl x y):L x=L y:=by have e:=UY T c;rw[lq T x a,lq T y b]at e;injection e
structure Tells(tl:Tl)(S:List Th)(L:Th->Int):Prop where
 tab:jg tl S L
 sound:∀x∈S,∀y∈S,L x=L y->Cg tl x y
theorem Tells.iff(T:Tells tl S L)(a:x∈S)(b:y∈S):L x=L y↔Cg tl x y:={T.sound x a y b,T.tab.complete a b}
def mrg(L:Th->Int)(o n:Int):Th->Int:=λt=>if L t=o then n else L t
theorem yO{o n:Int}(h:L x=L y):mrg L o n x=mrg L o n y:=by unfold mrg;rw[h]
theorem PJ{a b:Th}(i:a∈S)(j:b∈S)(s:∀x∈S,∀y∈S,L x=L y->Cg tl x y)(c:Cg tl a b):∀x∈S,∀y∈S,mrg L (L a) (L b) x=mrg L (L a) (L b) y->Cg tl x y:=by
 intro x g y h e;unfold mrg at e;by_cases f:L x=L a
 .by_cases d:L y=L a
  .exact s x g y h (f.trans d.symm)
  .rw[GY f,Gu d]at e;exact .trans (s x g a i f) (.trans c (s b j y h e))
 .by_cases d:L y=L a
  .rw[Gu f,GY d]at e;exact .trans (s x g b j e) (.trans (.symm c) (.symm (s y h a i d)))
  .rw[Gu f,Gu d]at e;exact s x g y h e
open PySem PySem.Spec PyProof.Rows L2
mutual
def kd:Th->KD
 |.mk w ps=>.tup (.str w::kds ps)
def kds:List Th->List KD
 |[]=>[]
 |p::r=>kd p::kds r
end
mutual
theorem On:∀t:Th,(kd t).toD=t.toD
 |.mk w a=>by simp only[kd,KD.toD,Rv,Th.toD,vR a]
theorem vR:∀a:List Th,Rv (kds a)=Wd a
 |[]=>by simp[kds,Rv,Wd]
 |t::r=>by simp only[kds,Rv,Wd,On t,vR r]
end
theorem Qlc(t:Th):(kd t).depth=t.depth:=by rw[<-oZ,On,Xi]
theorem lr{s:Th}(h:kd s=kd t):s=t:=by
 have e:s.toD=t.toD:=by rw[<-On,<-On,h]
 exact(Iq s t).mp (by rw[e];exact(Iq t t).mpr Xb)
mutual
theorem zi{H:Hp}:∀(t:Th){v:V},Dt H v t.toD->Z8 H v t
 |.mk w c,v,h=>by
  simp only[Th.toD]at h;cases h with
  |tup e r=>
   cases r with
   |cons a b=>cases a;exact .mk e (uk c b)
theorem uk{H:Hp}:∀(b:List Th){a:List V},hF H a (Wd b)->Zq H a b
 |[],a,h=>by simp only[Wd]at h;cases h;exact .nil
 |t::r,a,h=>by
  simp only[Wd]at h;cases h with
  |cons c d=>exact .cons (zi t c) (uk r d)
end
theorem O0(h:Z8 H ↑b t)(ok:t.ok=Gk)(a:t.depth<=8):iw H b (kd t):={by rw[On];exact h.dt,by rw[On];exact Wj t ok,by rw[Qlc];exact a}
mutual
theorem uZ{H a:Hp}(e:Q8 H a):∀(k:KD){v:V},Dt H v k.toD->Dt a v k.toD
 |.int i,v,h=>by simp only[KD.toD]at h⊢;cases h;exact .int i
 |.str x,v,h=>by simp only[KD.toD]at h⊢;cases h;exact .str x
 |.tup d,v,h=>by
  simp only[KD.toD]at h⊢;cases h with
  |tup b c=>exact .tup (e _ _ b) (vh e d c)
theorem vh{H b:Hp}(e:Q8 H b):∀(c:List KD){a:List V},hF H a (Rv c)->hF b a (Rv c)
 |[],a,h=>by simp only[Rv]at h⊢;cases h;exact .nil
 |k::r,a,h=>by
  simp only[Rv]at h⊢;cases h with
  |cons d f=>exact .cons (uZ e k d) (vh e r f)
end
theorem Zf(e:Q8 H H'){a:List KE}(h:Jd H a):Jd H' a:=λp b=>{uZ e p.1 (h p b).1,(h p b).2}
structure Num(P:Gn)(w:Ti)(H:Hp)(d:Ge)(S:List Th)(L:Th->Int):Prop where
 ex:∃zw:List KE,H d/Ut P w d zw/\Jd H zw/\zw.map (·.1)=S.map kd/\∀t∈S,Yp zw (kd t)/.int (L t)
 ok:∀t∈S,t.ok=Gk/\t.depth<=8
theorem Num.at(N:Num P w H d S L):∃o,H d/.ext o:=by have(a,h,_):=N.ex;exact{_,h}
theorem Num.keep(N:Num P w H d S L)(h:∀o,H d/o->H' d/o)(e:Q8 H H'):Num P w H' d S L:=by have(a,b,c,f,g):=N.ex;exact{{a,h _ b,Zf e c,f,g},N.ok}
theorem Num.same(N:Num P w H d S L)(e:Q5 H H'):Num P w H' d S L:=N.keep (λo h=>e d o h) (Q8.of e)
theorem Num.get{Q:VK}(N:Num P w H d S L)(ht:t∈S)(h:Z8 H ↑b t)(q:Q (.int (L t)) H):lX P w ↑d ↑b H Q:=by have(a,c,e,g,f):=N.ex;exact{d,b,kd t,a,01,⟨c,e⟩,O0 h (N.ok t ht).1 (N.ok t ht).2,f t ht,q}
theorem Num.put{P:Gn}{w:Ti}{H:Hp}{d b:Ge}{S:List Th}{L:Th->Int}{t:Th}{i:Int}{Q:Hp->Prop}(N:Num P w H d S L)(f:⇑S<=1000000)(ht:t∈S)(h:Z8 H ↑b t)
  (q:∀f,(∀c o,H c/o->c≠d->f c/o)->Num P w f d S (λu=>if u=t then i else L u)->Q f):nZ P w ↑d ↑b (.int i) H Q:=by
 have(a,g,j,k,l):=N.ex;have s:⇑a=⇑S:=by have:=congrArg Sk k;simpa using this
 have m:=O0 h (N.ok t ht).1 (N.ok t ht).2;refine{d,b,kd t,a,11,⟨g,j⟩,m,by rw[TD];ext,q _ (λc o e f=>by rw[Qh f];exact e) ?_};have r:Q8 H (zj H d (Ut P w d (Vg a (kd t) b (.int i)))):=Z1 λv e=>by rw[g]at e;cases e
 refine{{_,Qb,Zf r (j.put m),?_,λu n=>?_},N.ok}
 .rw[xo b _ (l t ht),Ds];rw[<-k];refine De λp _=>?_;show(if p.1=kd t then(p.1,p.2.1,V.int i)else p).1=p.1;split<;>rfl
 .rw[U7];by_cases e:u=t
  .subst e;rw[GY Xb,GY rfl]
  .rw[Gu (λz=>e (lr z)),Gu e];exact l u n
theorem Num.add{i:Int}{Q:Hp->Prop}(N:Num P w H d S L)(j:⇑S<=1000000)(ht:¬t∈S)(ok:t.ok=Gk)(l:t.depth<=8)(h:Z8 H ↑b t)
  (q:∀j,(∀c o,H c/o->c≠d->j c/o)->Num P w j d (S++[t]) (λu=>if u=t then i else L u)->Q j):nZ P w ↑d ↑b (.int i) H Q:=by
 have(f,m,n,k,y):=N.ex;have C:⇑f=⇑S:=by have:=congrArg Sk k;simpa using this
 have s:=O0 h ok l;have g:Yp f (kd t)=Gp:=by
  cases e:Yp f (kd t)with
  |none=>rfl
  |some v=>exfalso;unfold Yp at e;have(p,r,_):=Ew.mp e;have z:=FM r;have A:p.1=kd t:=Dp z;have j:kd t∈f.map (·.1):=Tv.mpr {p,Sz r,A};rw[k]at j;have(u,a,x):=Tv.mp j;exact ht (lr x▸a)
 refine{d,b,kd t,f,11,⟨m,n⟩,s,by rw[TD];ext,q _ (λc o e j=>by rw[Qh j];exact e) ?_};have B:Q8 H (zj H d (Ut P w d (Vg f (kd t) b (.int i)))):=Z1 λD e=>by rw[m]at e;cases e
 refine{{_,Qb,Zf B (n.put s),?_,λu a=>?_},λu a=>?_}
 .rw[wL b _ g,T3,k,T3];rfl
 .rw[U7];by_cases e:u=t
  .subst e;rw[GY Xb,GY rfl]
  .rw[Gu (λz=>e (lr z)),Gu e];rcases Gi.mp a with a|a
   .exact y u a
   .rw[Tf]at a;exact absurd a e
 .rcases Gi.mp a with a|a
  .exact N.ok u a
  .rw[Tf]at a;subst a;exact⟨ok,l⟩
theorem Num.YY{Q:VK}(N:Num P w H d S L)(ok:t.ok=Gk)(g:t.depth<=8)(h:Z8 H ↑b t)(q:Q (.bl (!decide (t∈S))) H):pF P w (λb=>!b) ↑b ↑d H Q:=by
 have(a,j,k,l,m):=N.ex;exists b,d,kd t,a,11,⟨j,k⟩,O0 h ok g;have e:(Yp a (kd t)).isSome=decide (t∈S):=by
  by_cases ht:t∈S
  .rw[Tk ht,m t ht];rfl
  .rw[Tj ht];cases e:Yp a (kd t)with
   |none=>rfl
   |some v=>exfalso;unfold Yp at e;have(p,f,_):=Ew.mp e;have n:=FM f;have o:p.1=kd t:=Dp n;have c:kd t∈a.map (·.1):=Tv.mpr {p,Sz f,o};rw[l]at c;have(u,r,i):=Tv.mp c;exact ht (lr i▸r)
 rw[e];exact q
theorem Num.names(N:Num P w H d S L):∃a,DH P w H d a/\⇑a=⇑S/\Zq H (a.map λp=>V.ref p.2.1) S:=by
 have(a,f,b,c,j):=N.ex;have i:⇑a=⇑S:=by have:=congrArg Sk c;simpa using this
 exists a,⟨f,b⟩,i;have all:∀(l:List KE)(S:List Th),(∀p∈l,p∈a)->l.map (·.1)=S.map kd->Zq H (l.map λp=>V.ref p.2.1) S:=by
  intro l;induction l with
  |nil=>intro S _ e;cases S with
   |nil=>exact .nil
   |cons t r=>simp at e
  |cons p l h=>intro S sub e;cases S with
   |nil=>simp at e
   |cons t r=>simp only[TC,DP]at e;refine .cons (zi t ?_) (h r (λq g=>sub q (Gr _ g)) e.2);have:=(b p (sub p G8)).1;rw[e.1,On]at this;exact this
 exact all a S (λ_ h=>h) c
def tw(b:Bool):TQ:=if b then"same"else"unlike"
def J0(H:Hp):List V->Tl->Prop:=Dm λx p=>∃a v u,x=.ref a/\H a/.tup [.str (tw p.1),v,u]/\Z8 H v p.2.1/\Z8 H u p.2.2
theorem J0.Qv{H b:Hp}(e:Q8 H b){d:List V}{c:Tl}(h:J0 H d c):J0 b d c:=Qr h λx p k=>by have(a,v,u,f,g,i,j):=k;exact{a,v,u,f,e _ _ g,i.Qv e,j.Qv e}
def iA(H:Hp):List V->List (Th×Th)->Prop:=Dm λx p=>∃a v u,x=.ref a/\H a/.tup [v,u]/\Z8 H v p.1/\Z8 H u p.2
theorem iA.Qv{H b:Hp}(e:Q8 H b){c:List V}{l:List (Th×Th)}(h:iA H c l):iA b c l:=Qr h λx p j=>by have(a,v,u,d,f,g,i):=j;exact{a,v,u,d,e _ _ f,g.Qv e,i.Qv e}
theorem Qy{a d:Type}{F:a->d->Prop}{b:List a}{c:List d}{i:Nat}{x:a}(h:Dm F b c)(e:b[i]?/x):∃y,c[i]?/y/\F x y:=by
 induction h generalizing i with
 |nil=>cases e
 |cons h _ f=>cases i with
  |zero=>cases e;exact{0,h}
  |succ=>exact f e
theorem Yx{e f:Type}{F:e->f->Prop}{a b:List e}{c d:List f}(h:Dm F a c)(t:Dm F b d):Dm F (a++b) (c++d):=by
 induction h with
 |nil=>exact t
 |cons h _ g=>exact .cons h g
noncomputable def Oj(tl:Tl):List (Th×Th):=(tl.filter (·.1)).map (·.2)
theorem yj{a b:Th}:(a,b)∈Oj tl↔(Gk,a,b)∈tl:=by
 unfold Oj;rw[Tv];constructor
 .rintro⟨⟨c,x⟩,h,e⟩;rw[FK]at h;have(d,f):=h;have:c=Gk:=f;subst this;cases e;exact d
 .intro h;exact{(Gk,a,b),FK.mpr ⟨h,Xb⟩,1}
inductive AU(P:Gn)(w:Ti)(vs:List V)(H:Hp)(Q:VK):Prop
 |mk (a:Ge) (b:Ge) (us:List V) (vs':List V) (tl:Tl) (ts:List Th) (h0:vs=[↑a,↑b]) (h1:H a/.lst us) (h2:J0 H us tl) (h3:H b/.lst vs') (h4:Zq H vs' ts) (h5:(∀t∈ts,t.ok=Gk/\t.depth<=8)) (h6:(∀p∈tl,(p.2.1.ok=Gk/\p.2.1.depth<=8)/\p.2.2.ok=Gk/\p.2.2.depth<=8)) (h7:Za ts+Za (tl.map (·.2.1))+Za (tl.map (·.2.2))<=3000) (h8:∀(d:Ge)(S:List Th)(L:Th->Int)(H':Hp),Q5 H H'->H d=Gp->Num P w H' d S L->Tells tl S L->(∀t∈ts,t∈S)->(∀p∈tl,p.2.1∈S/\p.2.2∈S)->Q ↑d H'):AU P w vs H Q
def vL(P:Gn)(w:Ti):Sp:=λa H Q _=>AU P w a H Q
end Sb
namespace L2
open PySem PySem.Spec PyProof.Rows
variable{d:Ge}{H:Hp}
theorem Rl{K:Gd}{a p:Ge}{xs:List V}{g:TG}{A:TT}{z:TE}{Q:Hp->Prop}{n:St}{t:Hp}(f:⇑xs<=TF)(h:Nat->List V->St->Hp->Prop)(B:h 0 [] n (zj t p (.lst [])))
  (D:∀i c d H,i<=⇑xs->h i c d H->Vh K H a xs)
  (hs:∀i x c d H,xs[i]?/x->h i c d H->H p/.lst c->g x d H λj H2=>A j H2 λb o=>if b=Gk then z j o λv u=>u p/.lst c/\h (i+1) (c++[v]) j (zj u p (.lst (c++[v])))else o p/.lst c/\h (i+1) c j o)
  (C:∀c d H,h ⇑xs c d H->H p/.lst c->Q H):jL p (iS K a) g A z Q n (zj t p (.lst [])):=by
 exists λi m d H=>m=⇑xs - i/\i<=⇑xs/\∃c,⇑c<=i/\h i c d H/\H p/.lst c,{⇑xs,by simp,Tw _,[],Gy _,B,Qb};rintro i m d H ⟨rfl,hi,c,E,pv,w⟩;have q:=D i c d H hi pv;by_cases l:i<⇑xs
 .refine .inr ⟨{xs,xs[i],q,by simp[l]},λv f k=>k p/.lst c/\h (i+1) (c++[v]) f (zj k p (.lst (c++[v]))),λf k=>k p/.lst c/\h (i+1) c f k,
   λv f k⟨r,s⟩=>{c,r,by lia,⇑xs - (i+1),by lia,1,l,c++[v],by simp[E],s,Qb},λf k⟨r,s⟩=>{⇑xs - (i+1),by lia,1,l,c,by lia,s,r},λx k y=>?_⟩
  have(e,y):=y;subst e;exact hs i x c d _ (y xs q) pv w
 .have e:i=⇑xs:=by lia
  subst e;exact .inl {{xs,q,Gy _},C c d H pv w}
def Tr(t:TS)(c a:St->Hp->Prop):Prop:=∀D σ H,c σ H->(∀b H',a b H'->D.nx b H')->t D σ H
def Rb(d:Ge)(H H':Hp):Prop:=∀c o,H c/o->c≠d->H' c/o
theorem Rb.refl:Rb d H H:=λ_ _ e _=>e
theorem Rb.trans{f g:Hp}(a:Rb d H f)(b:Rb d f g):Rb d H g:=λc o e h=>b c o (a c o e h) h
theorem Rb.of{a:Hp}(e:Q5 H a):Rb d H a:=λc o h _=>e c o h
end L2
namespace Sb
open PySem PySem.Spec PyProof.Rows L2
variable{H:Hp}{tl:Tl}
theorem _root_.L2.Rb.Qv{d:Ge}{f:Hp}{o:HO}(b:Rb d H f)(h:H d/o)(g:∀a,o≠.tup a):Q8 H f:=λc a e=>b c _ e λz=>by subst z;rw[h]at e;exact g a (T1 e)
theorem ZW{b:Type}{p q:b->Bool}{l:List b}(h:∀x∈l,p x=Gk->q x=Gk):l.countP p<=l.countP q:=by
 induction l with
 |nil=>exact Gy _
 |cons x r a=>
  have a:=a (λy d=>h y (Gr _ d));have c:=h x G8;rw[Fu,Fu];cases e:p x with
  |true=>rw[c e];exact MO a
  |false=>exact Dj a (DM _ _)
theorem yt{g:Type}{p q:g->Bool}{l:List g}(h:∀x∈l,p x=Gk->q x=Gk)(k:∃x∈l,q x=Gk/\p x=Gx):l.countP p<l.countP q:=by
 induction l with
 |nil=>have(x,a,_):=k;cases a
 |cons x r b=>
  have f:∀x∈r,p x=Gk->q x=Gk:=λy a=>h y (Gr _ a);have(y,a,c,d):=k;rw[Fu,Fu];rcases Td.mp a with rfl|a
  .rw[c,d];exact MO (ZW f)
  .have b:=b f ⟨y,a,c,d⟩;have i:=h x G8;cases e:p x with
   |true=>rw[i e];exact Nat.succ_lt_succ b
   |false=>exact TZ b (DM _ _)
noncomputable def dis(S:List Th)(L:Th->Int):Nat:=(S.flatMap λx=>S.map λy=>(x,y)).countP λp=>decide (L p.1≠L p.2)
theorem UG{S:List Th}{L a:Th->Int}(h:∀x∈S,∀y∈S,L x=L y->a x=a y)(i:∃x∈S,∃y∈S,L x≠L y/\a x=a y):dis S a<dis S L:=by
 have(x,c,y,d,f,g):=i;refine yt (λp b e=>?_) {(x,y),?_,Tk f,by simp[g]}
 .rw[Ey]at b;have(x,c,b):=b;have(y,d,rfl):=Tv.mp b;exact Tk λz=>(Dp e) (h x c y d z)
 .rw[Ey];exact{x,c,Tv.mpr ⟨y,d,Xb⟩}
theorem Ue{H:Hp}:∀l:List Int,hF H (l.map V.int) (l.map Eu)
 |[]=>.nil
 |i::r=>.cons (.int i) (Ue r)
theorem Uc(l:List Int):Gz (l.map Eu)=Gk:=by
 induction l with
 |nil=>simp[Gz]
 |cons i r a=>simp[Gz,TJ,a]
theorem O1(l:List Int):Db (l.map Eu)<=1:=by
 induction l with
 |nil=>simp[Db]
 |cons i r a=>simp only[TC,Db,DV];ext
theorem qi(l m:List Int):DB (l.map Eu) (m.map Eu)=decide (l=m):=by
 induction l generalizing m with
 |nil=>cases m<;>simp[DB]
 |cons i l a=>cases m with
  |nil=>simp[DB]
  |cons j m=>
   simp only[TC,DB,T5,a m];by_cases h:i=j
   .subst h;simp
   .simp[h]
theorem y8{P:Gn}{w:Ti}{K:Gd}{r p d:Ge}{k:List V}{g S:List Th}{L:Th->Int}{Q:Hp->Prop}(u:H r/.tup k)(f:Zq H k g)(c:∀t∈g,t∈S)(N:Num P w H d S L)(m:H p=Gp)(b:⇑k<=3000)
  (q:∀b,Q5 H b->b p/.lst ((g.map L).map V.int)->Q b):jL p (jF K r) (Wt 0) nj (tOp (lX P w) (Vi 1) (Vi 0)) Q [Gp,Ga ↑d] (zj H p (.lst [])):=by
 refine Ja (K:=K) (a:=r) (xs:=k) (small ∅) (λi h l j=>(∃s,l=[s,Ga ↑d])/\h=((g.take i).map L).map V.int/\j=zj H p (.lst h)) {{40},by simp,1} (λi h l j _⟨_,_,e⟩=>Qk (by rw[e];exact Qf m _ _ _ u)) ?_ ?_
 .rintro i x h l j hi n ⟨⟨s,rfl⟩,rfl,rfl⟩ a;have(t,ht,e):=f.get hi;have(b,_,_,_,rfl,_,_,_):=e.inv;have o:=Qf m (.lst (((g.take i).map L).map V.int));refine{00,(N.same o).get (c t (Gc ht)) (e.same o) {a,{40},?_,?_}}
  .rw[Tt,ht];simp
  .rw[X9]
 .rintro h l j n ⟨_,rfl,rfl⟩ a;rw[⇑f,Tu]at a⊢;exact q _ (Qf m _) a
inductive Dd where
 |tell (b:Bool) (x y:Th)
 |ask (x y:Th)
 |back (i:Int)
variable{d:Dd}
def Dd.fits(ts:List Th):Dd->Prop
 |.tell _ x y=>x∈ts/\y∈ts
 |.ask x y=>x∈ts/\y∈ts
 |.back _=>True
def jo(H:Hp)(x:V):Dd->Prop
 |.tell b t u=>∃a c d,x=.ref a/\H a/.tup [.str (tw b),c,d]/\Z8 H c t/\Z8 H d u
 |.ask t u=>∃a c d,x=.ref a/\H a/.tup [.str "ask",c,d]/\Z8 H c t/\Z8 H d u
 |.back i=>∃a,x=.ref a/\H a/.tup [.str "back",.int i]
theorem jo.Qv{H f:Hp}(e:Q8 H f){x:V}{d:Dd}(h:jo H x d):jo f x d:=by
 cases d with
 |back=>have(a,b,c):=h;exact{a,b,e _ _ c}
 |_=>have(a,j,k,b,c,g,i):=h;exact{a,j,k,b,e _ _ c,g.Qv e,i.Qv e}
def Ur(H:Hp):List V->List Dd->Prop:=Dm λx d=>jo H x d
theorem Ur.Qv{H a:Hp}(e:Q8 H a){c:List V}{b:List Dd}(h:Ur H c b):Ur a c b:=Qr h λ_ _ h=>h.Qv e
theorem Ur.same{a:Hp}(e:Q5 H a){c:List V}{b:List Dd}(h:Ur H c b):Ur a c b:=h.Qv (Q8.of e)
inductive wW(K:Gd)(vs:List V)(H:Hp)(Q:VK):Prop
 |mk (a:Ge) (b:Ge) (ns:List Int) (us:List V) (ts:List Th) (h0:vs=[↑a,↑b]) (h1:Vh K H a (ns.map V.int)) (h2:⇑ns<=63) (h3:H b/.lst us) (h4:Zq H us ts) (h5:0<⇑ts) (h6:⇑ts<=1000) (h7:∀(r:Ge)(es:List V)(dl:List Dd)(H':Hp),Q5 H H'->H r=Gp->H' r/.lst es->Ur H' es dl->⇑dl=⇑ns->(∀d∈dl,d.fits ts)->Q ↑r H'):wW K vs H Q
def xg(K:Gd):Sp:=λa H Q _=>wW K a H Q
inductive uG(vs:List V)(H:Hp)(Q:VK):Prop
 |mk (n:Int) (h0:vs=[.int n]) (h1:∀(m:Int)(H':Hp),Q5 H H'->Q (.int m) H'):uG vs H Q
def tX:Sp:=λa H Q _=>uG a H Q
inductive wM(K:Gd)(vs:List V)(H:Hp)(Q:VK):Prop
 |mk (a:Ge) (ns:List Int) (m:Int) (b:Int) (h0:vs=[↑a,.int m,.int b]) (h1:Vh K H a (ns.map V.int)) (h2:⇑ns<=63) (h3:Q (.int m) H):wM K vs H Q
def yP(K:Gd):Sp:=λa H Q _=>wM K a H Q
inductive Vp(tl:Tl):Prop
 |mk (a:_) (b:_) (h0:(Gx,a,b)∈tl) (h1:Cg tl a b):Vp tl
open Classical in
noncomputable def kindOf(tl:Tl)(x y:Th):TQ:=if Cg tl x y then"equal"else if∃a b,(Gx,a,b)∈tl/\Cg (tl++[(Gk,x,y)]) a b then"unlike"else"open"
open Classical in
noncomputable def Jt(tl:Tl):Dd->Tl×V
 |.ask x y=>(tl,.str (kindOf tl x y))
 |.back i=>if 0<=i/\i<=(⇑tl:Int)then(tl.take i.toNat,.int ((⇑tl:Int) - i))else(tl,.str "no moment")
 |.tell b x y=>if Vp (tl++[(b,x,y)])then(tl,.str "clash")else(tl++[(b,x,y)],.int ((⇑tl:Int)+1))
noncomputable def after(tl:Tl):List Dd->Tl
 |[]=>tl
 |d::ds=>after (Jt tl d).1 ds
theorem ym(c:Tl):∀(b a:List Dd),after c (b++a)=after (after c b) a
 |[],a=>rfl
 |d::b,a=>ym (Jt c d).1 b a
theorem O5{a:List Dd}{k:Nat}(h:a[k]?/d):after tl (a.take (k+1))=(Jt (after tl (a.take k)) d).1:=by rw[Tt,h,ym];rfl
def Th.good(t:Th):Prop:=t.ok=Gk/\t.depth<=8/\t.size<=100
def Dd.good:Dd->Prop
 |.tell _ x y=>x.good/\y.good
 |.ask x y=>x.good/\y.good
 |.back _=>True
def iy(tl:Tl):Prop:=∀p∈tl,p.2.1.good/\p.2.2.good
theorem Quu(h:iy tl)(g:d.good):iy (Jt tl d).1:=by
 cases d with
 |ask x y=>exact h
 |back i=>
  simp only[Jt];split
  .exactλp a=>h p (DL a)
  .exact h
 |tell b x y=>
  simp only[Jt];split
  .exact h
  .intro p a;rcases Gi.mp a with z|z
   .exact h p z
   .rw[Tf]at z;subst z;exact g
theorem Qzz:⇑(Jt tl d).1<=⇑tl+1:=by
 cases d with
 |ask x y=>exact Fd _
 |back i=>
  simp only[Jt];split
  .rw[Dq];ext
  .exact Fd _
 |tell b x y=>
  simp only[Jt];split
  .exact Fd _
  .rw[Gs,Tg];ext
theorem O4:∀{ds:List Dd}{tl:Tl},iy tl->(∀d∈ds,d.good)->iy (after tl ds)
 |[],_,h,_=>h
 |d::ds,tl,h,g=>by have:=O4 (ds:=ds) (tl:=(Jt tl d).1) (Quu h (g d G8)) λe a=>g e (Gr _ a);simp only[after];exact this
theorem Oa:∀{ds:List Dd}{tl:Tl},⇑(after tl ds)<=⇑tl+⇑ds
 |[],tl=>Gy _
 |d::ds,tl=>by have a:=Oa (ds:=ds) (tl:=(Jt tl d).1);have b:=Qzz (tl:=tl) (d:=d);simp only[after,TW];lia
theorem WQ(h:iy tl):Za (tl.map (·.2.1))<=⇑tl*100/\Za (tl.map (·.2.2))<=⇑tl*100:=by
 have b:=uL (tl.map (·.2.1)) 100 λt ht=>by have(p,a,rfl):=Tv.mp ht;exact(h p a).1.2.2
 have c:=uL (tl.map (·.2.2)) 100 λt ht=>by have(p,a,rfl):=Tv.mp ht;exact(h p a).2.2.2
 rw[Gq]at b c;exact⟨b,c⟩
noncomputable def tlD(p:Bool×Th×Th):DN:=.tuple [.str (tw p.1),p.2.1.toD,p.2.2.toD]
theorem J0.dts{b:List V}(h:J0 H b tl):hF H b (tl.map tlD):=by
 unfold J0 at h;induction h with
 |nil=>exact .nil
 |cons h r g=>have(a,v,u,c,d,e,f):=h;subst c;exact .cons (.tup d (.cons (.str _) (.cons e.dt (.cons f.dt .nil)))) g
def pQ(d:DN):Prop:=d.canLay0=Gk/\Jf d<=1000/\d.depth<=20
theorem Pe{a:List DN}(h:∀d∈a,pQ d)(f:⇑a<=100):(FE a).canLay0=Gk/\Jf (FE a)<=1000000/\(FE a).depth<=60:=by
 have all:Gz a=Gk/\Z3 a<=⇑a*1000/\Db a<=20:=by
  clear f;induction a with
  |nil=>simp[Gz,Z3,Db]
  |cons d r i=>
   have(b,j,k):=h d G8;have(g,l,m):=i λe c=>h e (Gr _ c);exists by simp[Gz,b,g],?_
   .simp only[Z3,TW];lia
   .simp only[Db];lia
 exists by simp only[TJ];exact all.1,?_
 .simp only[Jf];lia
 .simp only[DV];lia
theorem uw(b:Bool):DK (tw b)=Gk:=by cases b<;>decide+kernel
theorem Pf{s:TQ}{x y:Th}(hs:DK s=Gk)(a:x.good)(b:y.good):pQ (.tuple [.str s,x.toD,y.toD]):=by
 have c:=Wj x a.1;have d:=Wj y b.1;have n1:=qP x;have n2:=qP y;have e:=Xi x;have f:=Xi y;have:=a.2;have:=b.2;exists by simp[TJ,Gz,c,d,hs],?_
 .simp only[Jf,Z3];lia
 .simp only[DV,Db];lia
theorem UF(h:iy tl):∀d∈tl.map tlD,pQ d:=λd b=>by have(p,a,rfl):=Tv.mp b;exact Pf (uw p.1) (h p a).1 (h p a).2
structure iO(U:List Th):Prop where
 cl:Uo U
 good:∀t∈U,t.good
 len:⇑U<=60
theorem iO.Q90{U:List Th}(h:iO U)(f:d.fits U):d.good:=by
 cases d with
 |tell b x y=>exact{h.good x f.1,h.good y f.2}
 |ask x y=>exact{h.good x f.1,h.good y f.2}
 |back i=>exact Es
theorem AQ{a:List Th}(h:∀t∈a,∀p∈t.parts,p∈a):Uo a:=by
 have b:∀n:Nat,∀t∈a,t.depth<=n->∀s∈t.inside,s∈a:=by
  intro n;induction n with
  |zero=>intro t _ c;have:=qB t;lia
  |succ n e=>
   intro t ht c s hs;cases t with
   |mk u f=>
    simp only[Th.inside,Gi,Tf]at hs;rcases hs with hs|rfl
    .rw[Xw,Ey]at hs;have(p,d,hs):=hs;have:=Wp d;simp only[Th.depth]at c;exact e p (h _ ht p d) (by lia) s hs
    .exact ht
 exactλt ht=>b _ t ht (Gy _)
def Sub(tl a:Tl):Prop:=∀b x y,(b,x,y)∈tl->(b,x,y)∈a\/(b,y,x)∈a
theorem Cg.sub{a:Tl}(h:Sub tl a){s t:Th}(c:Cg tl s t):Cg a s t:=
 Cg.rec (motive_1:=λs t _=>Cg a s t) (motive_2:=λs t _=>jm a s t) .refl (λ_=>.symm) (λ_ _=>.trans) (λm=>(h _ _ _ m).elim .told λz=>.symm (.told z)) (λ_=>.cong) .nil (λ_ _=>.cons) c
theorem QR{a:Tl}(h:Sub tl a)(b:Vp tl):Vp a:=by
 have(x,y,m,c):=b;rcases h _ _ _ m with z|z
 .exact{x,y,z,c.sub h}
 .exact{y,x,z,.symm (c.sub h)}
theorem KW(n:Nat):Sub (tl.take n) tl:=λ_ _ _ m=>.inl (DL m)
theorem Qel:¬Vp []:=λ⟨_,_,m,_⟩=>nomatch m
theorem Qm4(h:¬Vp tl):¬Vp (Jt tl d).1:=by
 cases d with
 |ask x y=>exact h
 |back i=>
  simp only[Jt];split
  .exactλb=>h (QR (KW _) b)
  .exact h
 |tell b x y=>
  simp only[Jt];split
  .exact h
  .rename_i z;exact z
theorem uF:∀{ds:List Dd}{tl:Tl},¬Vp tl->¬Vp (after tl ds)
 |[],_,h=>h
 |d::ds,tl,h=>by have:=uF (ds:=ds) (tl:=(Jt tl d).1) (Qm4 h);simp only[after];exact this
end Sb
namespace L2
open PySem PySem.Spec PyProof.Rows
def lM(K:Gd)(a:Ge)(n:Nat):It:=
 {λi H=>∃xs,Vh K H a xs/\⇑xs=n/\i<n,λi H x H'=>H'=H/\∀xs,Vh K H a xs->xs[n - 1 - i]?/x,λi _=>i=n}
theorem Pc{P:Gn}{w:Ti}{K:Gd}{tg:Ea}(a m:Ge)(n:Nat):i0 P w K tg (lM K a n) [m] m (λi h=>i<=n/\h.IsRevIter m a ((n:Int) - 1 - (i:Int))) where
 mem:=by simp
 obj:=λi h g b l=>by
  have e:b=m:=by simpa using l
  subst e;have(_,o,e,c,d):=g;exact{o,e,λv z=>by rw[d]at z;cases z}
 keep:=λi h r g k=>{g.1,g.2.at λo e=>k m ⋯ o e}
 item:=by
  intro X G hw F J i j s N H E I t g x;subst G hw F;have(M,v,hn,hi):=x;have(V,L,p,hz):=I.list v;have Z:=⇑L;have z:M[n - 1 - i]?/M[n - 1 - i]'∅:=Gf ∅;have(u,T,W):=L.get z;have(y,A,S,B,C,D):=t m ⋯;have e:(n:Int) - 1 - (i:Int)=((n - 1 - i:Nat):Int):=by ext
  have f:=g.2;rw[e]at f;refine Nw f p.isList (x:=u) (by simpa using T) λr q Y=>?_;have O:zx X j N H {s with heap:=r}:=I.turned (t':=s.toks) (λb o l e=>(Y.2 b l).trans e) y A B C D;have Q:((n - 1 - i:Nat):Int) - 1=(n:Int) - 1 - ((i+1:Nat):Int):=by ext
  rw[Q]at q;have(o,R,c,d):=id q;exact{u,1,ku (s:={s with heap:=r}) R c d (by decide) {_,H,O,W,{1,λys U=>by rw[I.Jv U v];exact z},⟨hi,q⟩,λb l=>(t b l).1}}
 done:=by intro X G hw F J i j s N H E I t g x;subst G hw F;have x:i=n:=x;have(y,A,S,B,C,D):=t m ⋯;have f:=g.2;rw[show(n:Int) - 1 - (i:Int)= -1 by ext]at f;exact NI (I.ok.hd J) f λr q=>{1,I.turned (t':=s.toks) (λb o l e=>q b o l e) y A B C D}
 self:=λ_ _ _ _ _ g h=>FF g.2 h
inductive zY(K:Gd)(R:It->Hp->Prop)(vs:List V)(H1:Hp):Prop
 |mk (a:_) (xs:_) (h0:vs=[↑a]) (h1:Vh K H1 a xs) (h2:R (lM K a ⇑xs) H1):zY K R vs H1
def Q54(K:Gd)(ta:TA):TI:=λσ H R=>ta σ H λa H1=>zY K R a H1
section
variable{X:Cx}{tg:Ea}
theorem xP{a:Ea}{n:TA}{p i:MQ}(y:Gl X "reversed")(z:X.mg "reversed"=Gp)(w:PA X [a] n)(hs:T8 [a] X.env=[(Gx,eval a X.env)]:=by rfl):PI X tg (.Call (.Name "reversed" p) [a] [] i) (Q54 X.K n):=by
 intro d s r H R I h;refine IM (Uk I y z CQ (Eo (Xf (w i d s r H _ I h) λL f G=>?_) hs Xb));have(M,l,j,D,C):=G;have(b,k,e,A,q):=C;subst e;have(u,rfl,E):=vals1 D;cases(show u=Tq b from E);have(g,F,B,K):=j.list A;have J:=⇑F;refine RF B.isList ?_;have t:zx X d r l {f with heap:=f.heap.push (revObj b ((g.toArray.size:Int) - 1))}:=j.kept (t':=f.toks) λb o e=>Gm _ e;have m:(f.heap.push (revObj b ((g.toArray.size:Int) - 1))).IsRevIter f.heap.objs.size b ((⇑k:Int) - 1 - ((0:Nat):Int)):=by
  have v:(⇑k:Int) - 1 - ((0:Nat):Int)=(g.toArray.size:Int) - 1:=by rw[Ts];lia
  rw[v];exact{_,Tc _ Xb,11}
 refine FF m {f.heap.objs.size,[f.heap.objs.size],2,l,1,t,Pc b _ ⇑k,{Tw _,m},λc x=>?_,q};have e:c=f.heap.objs.size:=by simpa using x
 subst e;exact j.jq (Gy _) (j.Yc.fresh (Gy _))
end
theorem za{K:Gd}{a:Ge}{xs:List V}{g:TG}{l:TS}{D:Ends}{b:St}{H:Hp}(c:Nat->St->Hp->Prop)(n:c 0 b H)(r:∀i b H,i<=⇑xs->c i b H->Vh K H a xs)
  (hs:∀i x b H,xs.reverse[i]?/x->c i b H->g x b H λk H2=>l {D with nx:=c (i+1),ct:=c (i+1),bk:=D.nx} k H2)(o:∀b H,c ⇑xs b H->D.nx b H):
  ∃W:Nat->Nat->St->Hp->Prop,(∃m,W 0 m b H)/\∀i m b H,W i m b H->
   ((lM K a ⇑xs).stop i H/\D.nx b H)\/((lM K a ⇑xs).go i H/\∃N:St->Hp->Prop,(∀j d,N j d->∃h,h<m/\W (i+1) h j d)/\∀x d,(lM K a ⇑xs).yld i H x d->g x b d λk H2=>l {D with nx:=N,ct:=N,bk:=D.nx} k H2):=by
 exists λi m b H=>m=⇑xs - i/\i<=⇑xs/\c i b H,{⇑xs,by simp,Tw _,n};rintro i m b H ⟨rfl,hi,p⟩;have q:=r i b H hi p;by_cases f:i<⇑xs
 .refine .inr {⟨xs,q,Xb,f⟩,c (i+1),λj d h=>{⇑xs - (i+1),by lia,1,f,h},λx d y=>?_};have(e,y):=y;subst e;exact hs i x b _ (by rw[EY f];exact y xs q) p
 .have e:i=⇑xs:=by lia
  subst e;exact .inl {1,o b H p}
end L2
namespace Sb
open PySem PySem.Spec PyProof.Rows L2
variable{H:Hp}{d a f:Ge}{ts:List Th}{t:Th}
structure Mp(P:Gn)(w:Ti)(H:Hp)(d:Ge)(S:Th->Prop)(F:Th->Th):Prop where
 ex:∃zw:List KE,H d/Ut P w d zw/\Jd H zw/\∀t,S t->∃b,Yp zw (kd t)/↑b/\Z8 H ↑b (F t)
theorem Mp.at{P:Gn}{w:Ti}{S:Th->Prop}{F:Th->Th}(N:Mp P w H d S F):∃o,H d/.ext o:=by have(a,h,_):=N.ex;exact{_,h}
def jv(j:Nat):V:=.int (j:Int)
theorem Q3i{i j:Nat}(h:jv i=jv j):i=j:=by unfold jv at h;injection h with h;lia
abbrev Fm:=TQ×List Nat
noncomputable def fm(ts:List Th)(t:Th):Fm:=(t.word,t.parts.map λp=>ts.idxOf p)
def ik(i:Nat):KD:=.int (i:Int)
noncomputable def Y2(f:Fm):KD:=.tup [.str f.1,.tup (f.2.map ik)]
theorem wo:∀{a b:List Nat},a.map ik=b.map ik->a=b
 |[],[],_=>rfl
 |[],_::_,h=>by simp at h
 |_::_,[],h=>by simp at h
 |x::a,y::b,h=>by
  simp only[TC,DP]at h;have e:(x:Int)=(y:Int):=by have:=h.1;unfold ik at this;injection this
  have t:=wo h.2;rw[t,show x=y by ext]
theorem Jj{f g:Fm}(h:Y2 f=Y2 g):f=g:=by unfold Y2 at h;simp only[KD.tup.injEq,DP,KD.str.injEq,BU]at h;exact RT h.1 (wo h.2)
theorem Oc(h:t∈ts):ts[ts.idxOf t]?/t:=by have a:ts.idxOf t<⇑ts:=Si h;rw[Gf a,Mn a]
theorem Rq{j:Nat}(nd:ts.Nodup)(h:ts[j]?/t):ts.idxOf t=j:=by have(a,e):=Gg.mp h;subst e;exact nd.idxOf_getElem j a
theorem qj{s:Th}(hs:s∈ts)(ht:t∈ts)(e:ts.idxOf s=ts.idxOf t):s=t:=by have a:=Oc hs;have b:=Oc ht;rw[e,b]at a;exact(T1 a).symm
theorem QU{a:List Th}(h:t∈ts):(ts++a).idxOf t=ts.idxOf t:=by rw[RZ,GY h]
theorem zp{c:List Th}:∀{a b:List Th},(∀x∈a,x∈c)->(∀x∈b,x∈c)->a.map (λp=>c.idxOf p)=b.map (λp=>c.idxOf p)->a=b
 |[],[],_,_,_=>rfl
 |[],_::_,_,_,h=>by simp at h
 |_::_,[],_,_,h=>by simp at h
 |x::a,y::b,e,f,h=>by simp only[TC,DP]at h;rw[qj (e x G8) (f y G8) h.1,zp (λz d=>e z (Gr _ d)) (λz d=>f z (Gr _ d)) h.2]
theorem Wb(b:Uo ts)(h:t∈ts):∀p∈t.parts,p∈ts:=λp a=>by
 refine b t h p ?_;cases t with
 |mk w c=>simp only[Th.parts]at a;simp only[Th.inside,Gi];left;rw[Xw,Ey];exact{p,a,sU p}
theorem qt{s:Th}(hs:∀p∈s.parts,p∈ts)(ht:∀p∈t.parts,p∈ts)(e:fm ts s=fm ts t):s=t:=by
 cases s with
 |mk w a=>
  cases t with
  |mk v b=>unfold fm at e;simp only[Th.word,Th.parts,EJ]at e hs ht;rw[e.1,zp hs ht e.2]
theorem pM{b:List Th}(h:∀p∈t.parts,p∈ts):fm (ts++b) t=fm ts t:=by unfold fm;refine RT rfl (De λp a=>QU (h p a))
inductive I0(H:Hp)(x:V)(f:Fm):Prop
 |mk (c:_) (e:_) (h0:x=↑c) (h1:H c/.tup [.str f.1,↑e]) (h2:H e/.tup (f.2.map jv)):I0 H x f
theorem I0.Qv{a:Hp}{x:V}{f:Fm}(e:Q8 H a)(h:I0 H x f):I0 a x f:=by have(c,d,b,g,i):=h;exact{c,d,b,e _ _ g,e _ _ i}
theorem vt{H:Hp}:∀l:List Nat,hF H (l.map jv) (Rv (l.map ik))
 |[]=>by simp only[FX,Rv];exact .nil
 |i::r=>by simp only[TC,Rv,ik,KD.toD];exact .cons (.int _) (vt r)
theorem xU:∀l:List Nat,Gz (Rv (l.map ik))=Gk
 |[]=>by simp[Rv,Gz]
 |i::r=>by simp only[TC,Rv];simp only[Gz,xU r,Lw];simp[ik,KD.toD,TJ]
theorem wx:∀l:List Nat,R4 (l.map ik)=0
 |[]=>by simp[R4]
 |i::r=>by simp only[TC,R4,wx r];simp[ik,KD.depth]
theorem I0.key{c:Ge}{f:Fm}(h:I0 H ↑c f)(ok:DK f.1=Gk):iw H c (Y2 f):=by
 have(g,e,a,b,d):=h;cases a;unfold Y2;exists ?_,?_
 .simp only[KD.toD,Rv];exact .tup b (.cons (.str _) (.cons (.tup d (vt f.2)) .nil))
 .simp only[KD.toD,Rv,TJ,Gz,ok,xU,LX]
 .simp only[KD.depth,R4,wx];decide
noncomputable def I9(a f d:Ge):List (TQ×V):=[("things",↑a),("forms",↑f),("known",↑d)]
structure Pl(P:Gn)(w:Ti)(C:Ge)(H:Hp)(p a f d:Ge)(ts:List Th):Prop where
 ob:∃dx,H p/.ins C dx (I9 a f d)
 th:∃us,H a/.lst us/\Zq H us ts
 fo:∃ws,H f/.lst ws/\Dm (I0 H) ws (ts.map (fm ts))
 kn:∃zw,DH P w H d zw/\⇑zw<=⇑ts/\(∀(j:Nat)t,ts[j]?/t->Yp zw (Y2 (fm ts t))/jv j)/\∀k v,Yp zw k/v->∃t∈ts,k=Y2 (fm ts t)
 af:a≠f
 nd:ts.Nodup
 cl:Uo ts
 ok:∀t∈ts,t.ok=Gk/\t.depth<=50
structure hI(a f d:Ge)(H H':Hp):Prop where
 keep:∀b o,H b/o->b≠a->b≠f->b≠d->H' b/o
 there:∀b,H' b=Gp->H b=Gp
theorem hI.refl:hI a f d H H:={λ_ _ e _ _ _=>e,λ_ h=>h}
theorem hI.trans{c g:Hp}(x:hI a f d H c)(y:hI a f d c g):hI a f d H g:={λb o e i j k=>y.keep b o (x.keep b o e i j k) i j k,λb h=>x.there b (y.there b h)}
theorem hI.of{c:Hp}(g:Q5 H c):hI a f d H c:={λb o e _ _ _=>g b o e,λb h=>g.free h}
section
variable{P:Gn}{w:Ti}{C:Ge}{H H':Hp}{p a f d:Ge}{ts:List Th}
theorem hI.Qv(x:hI a f d H H')(y:Pl P w C H p a f d ts):Q8 H H':=λb k e=>by have(i,h,_):=y.th;have(j,c,_):=y.fo;have(g,n1,_):=y.kn;exact x.keep b _ e (Zr e h nofun) (Zr e c nofun) (Zr e n1.at_ nofun)
theorem Pl.keep(x:Pl P w C H p a f d ts)(m:∀o,H p/o->H' p/o)(j:∀o,H a/o->H' a/o)(l:∀o,H f/o->H' f/o)(k:∀o,H d/o->H' d/o)(c:Q8 H H'):Pl P w C H' p a f d ts:=by have(e,q):=x.ob;have(t,r,s):=x.th;have(u,g,i):=x.fo;have(b,n1,n2,n3,n):=x.kn;exact{{e,m _ q},{t,j _ r,s.Qv c},{u,l _ g,Qr i λ_ _ h=>h.Qv c},{b,{k _ n1.at_,Zf c n1.keys},n2,n3,n},x.af,x.nd,x.cl,x.ok}
theorem Pl.same(g:Q5 H H')(x:Pl P w C H p a f d ts):Pl P w C H' p a f d ts:=x.keep (g _) (g _) (g _) (g _) (Q8.of g)
theorem Pl.but{b:Ge}{l g:List V}(x:Pl P w C H p a f d ts)(c:H b/.lst l)(h:b≠a)(i:b≠f):Pl P w C (zj H b (.lst g)) p a f d ts:=by
 have(m,k):=x.ob;have(j,n1,_):=x.kn;refine x.keep (λo e=>?_) (λo e=>by rw[Qh (GQ h)];exact e) (λo e=>by rw[Qh (GQ i)];exact e) (λo e=>?_) (Z1 λn e=>by rw[c]at e;cases e)
 .rw[Qh (Zr k c nofun)];exact e
 .rw[Qh (Zr n1.at_ c nofun)];exact e
end
structure oK(a f d dn:Ge)(S S':List Ge)(H H':Hp):Prop where
 keep:∀b o,H b/o->b≠a->b≠f->b≠d->b≠dn->b∉S->H' b/o
 own:∀b∈S',b∈S\/H b=Gp
 sub:∀b∈S,b∈S'
 there:∀b,H' b=Gp->H b=Gp
theorem oK.trans{c:Ge}{S j k:List Ge}{g i:Hp}(x:oK a f d c S j H g)(y:oK a f d c j k g i):oK a f d c S k H i:=by
 refine{λb o e l m n p q=>y.keep b o (x.keep b o e l m n p q) l m n p λz=>?_,λb r=>?_,λb h=>y.sub b (x.sub b h),λb h=>x.there b (y.there b h)}
 .rcases x.own b z with z|z
  .exact q z
  .rw[e]at z;cases z
 .rcases y.own b r with h|h
  .exact x.own b h
  .exact .inr (x.there b h)
inductive zd(P:Gn)(w:Ti)(C:Ge)(vs:List V)(H:Hp)(Q:VK):Prop
 |mk (p:Ge) (dx:Ge) (h0:vs=[↑p]) (h1:H p/.ins C dx []) (h2:∀(a f d:Ge)(H':Hp),Pl P w C H' p a f d []->(∀b o,H b/o->b≠p->H' b/o)->H a=Gp->H f=Gp->H d=Gp->Q .non H'):zd P w C vs H Q
def qI(P:Gn)(w:Ti)(C:Ge):Sp:=λa H Q _=>zd P w C a H Q
inductive zC(P:Gn)(w:Ti)(C:Ge)(vs:List V)(H:Hp)(Q:VK):Prop
 |mk (p:Ge) (c:Ge) (v:V) (t:Th) (a:Ge) (f:Ge) (d:Ge) (ts:List Th) (h0:vs=[↑p,v,↑c]) (h1:Pl P w C H p a f d ts) (h2:Z8 H v t) (h3:t.ok=Gk) (h4:t.depth<=50) (h5:(∀q∈t.parts,q∈ts)) (h6:I0 H ↑c (fm ts t)) (h7:⇑ts<1000000) (h8:∀(j:Nat)(H':Hp),Pl P w C H' p a f d (if t∈ts then ts else ts++[t])->(if t∈ts then ts else ts++[t])[j]?/t->hI a f d H H'->Q (jv j) H'):zC P w C vs H Q
def qf(P:Gn)(w:Ti)(C:Ge):Sp:=λa H Q _=>zC P w C a H Q
inductive xC(P:Gn)(w:Ti)(C:Ge)(vs:List V)(H:Hp)(Q:VK):Prop
 |mk (p:Ge) (v:V) (t:Th) (a:Ge) (f:Ge) (d:Ge) (ts:List Th) (h0:vs=[↑p,v]) (h1:Pl P w C H p a f d ts) (h2:Z8 H v t) (h3:t.ok=Gk) (h4:t.depth<=50) (h5:⇑ts+t.size<=500000) (h6:∀(j:Nat)(H':Hp),Pl P w C H' p a f d (Xe ts t.inside)->(Xe ts t.inside)[j]?/t->hI a f d H H'->Q (jv j) H'):xC P w C vs H Q
def Ob(P:Gn)(w:Ti)(C:Ge):Sp:=λa H Q _=>xC P w C a H Q
end Sb
namespace L2
open PySem PySem.Spec PyProof.Rows
variable{G:Prop}
theorem UT{K:Gd}{a p:Ge}{xs:List V}{g:TG}{B:TT}{A:TE}{Q:Hp->Prop}{n:St}{t:Hp}(h:Nat->List V->St->Hp->Prop)(f:⇑xs<=TF)(C:h 0 [] n (zj t p (.lst [])))
  (E:∀i c d H,i<=⇑xs->h i c d H->hB K H a xs)
  (hs:∀i x c d H,xs[i]?/x->h i c d H->H p/.lst c->g x d H λj H2=>B j H2 λb o=>if b=Gk then A j o λv u=>u p/.lst c/\h (i+1) (c++[v]) j (zj u p (.lst (c++[v])))else o p/.lst c/\h (i+1) c j o)
  (D:∀c d H,⇑c<=⇑xs->h ⇑xs c d H->H p/.lst c->Q H):jL p (jF K a) g B A Q n (zj t p (.lst [])):=by
 exists λi m d H=>m=⇑xs - i/\i<=⇑xs/\∃c,⇑c<=i/\h i c d H/\H p/.lst c,{⇑xs,by simp,Tw _,[],Gy _,C,Qb};rintro i m d H ⟨rfl,hi,c,z,pv,w⟩;have q:=E i c d H hi pv;by_cases l:i<⇑xs
 .refine .inr ⟨{xs,xs[i],q,by simp[l]},λv f k=>k p/.lst c/\h (i+1) (c++[v]) f (zj k p (.lst (c++[v]))),λf k=>k p/.lst c/\h (i+1) c f k,
   λv f k⟨r,s⟩=>{c,r,by lia,⇑xs - (i+1),by lia,1,l,c++[v],by simp[z],s,Qb},λf k⟨r,s⟩=>{⇑xs - (i+1),by lia,1,l,c,by lia,s,r},λx k y=>?_⟩
  have(e,y):=y;subst e;exact hs i x c d _ (y xs q) pv w
 .have e:i=⇑xs:=by lia
  subst e;exact .inl {{xs,q,Gy _},D c d H z pv w}
theorem Qt1{X:Cx}{a b:Ea}{l:MQ}{i j:Nat}(A:PE X a (Vi i))(B:PE X b (Vi j)):PE X (.BoolOp .Or [a,b] l) (λσ H Q=>∃x y,σ[i]?/Ga (.int x)/\σ[j]?/Ga (.int y)/\∀z:Int,Q (.int z) H):=by
 intro d s σ H Q I h;have(x,y,u,w,q):=h;refine BoolOp_or (Xf (A d s σ H (λv f=>v=.int x/\f=H) I {_,u,11}) λv C m=>?_);have(E,f,p,o,r,t):=m;subst r t;refine Xf (xV d C σ f (.int x) v (λk g=>g=f) p o {401}) λc D m=>?_;have(g,n,e):=m;subst e;cases c with
 |true=>exact{.int x,g,n,o,q x}
 |false=>exact nU B d D σ g Q n {_,w,q y}
theorem Q6q{T:Int->Prop}(k:(∀i,T i)->G)(h:∀i,T i):G:=k h
theorem Q7w{F T:Ge->Hp->Prop}(k:(∀a H,F a H->T a H)->G)(h:∀a H,F a H->T a H):G:=k h
theorem Q3u{A B:Prop}(k:A->B->G)(a:A)(b:B):G:=k a b
theorem Qz4(a:List V)(h:0<⇑a):∃v,Rt a (-1)/v/\a[⇑a - 1]?/v:=by
 have hi:⇑a - 1<⇑a:=by ext
 refine{_,?_,Gf hi};unfold Rt ixN;rw[Gu (by decide),GY ∅];have e:((-1:Int)+(⇑a:Int)).toNat=⇑a - 1:=by ext
 rw[e];show a[⇑a - 1]?=_;exact Gf hi
end L2
namespace Sb
open PySem PySem.Spec PyProof.Rows L2
variable{a f d wk:Ge}{H H':Hp}{D S:List Ge}{m:Nat}{ts:List Th}
noncomputable def wfl(p:Ge)(n:Int):List (TQ×V):=[("places",↑p),("steps",.int n)]
theorem OV(p:Ge)(n k:Int):Y0 "steps" (.int k) (wfl p n)=wfl p k:=by
 have h:¬(("places":TQ)="steps"):=by decide+kernel
 simp only[wfl,Y0,Gu h,Fz]
theorem P6(p:Ge):Y0 "steps" (.int 0) (Y0 "places" ↑p [])=wfl p 0:=by
 have h:¬(("places":TQ)="steps"):=by decide+kernel
 simp only[wfl,Y0,Gu h]
inductive ih(CW:Ge)(H:Hp)(wk p:Ge):Prop
 |mk (dx:_) (n:_) (h0:H wk/.ins CW dx (wfl p n)):ih CW H wk p
theorem Q7u{C b e c p:Ge}{n:Int}:HO.ins C e (I9 a f d)≠HO.ins b c (wfl p n):=by intro z;injection z with _ _ z;have:=congrArg Sk z;simp[I9,wfl]at this
structure hH(H:Hp)(D S:List Ge)(m:Nat)(ts:List Th):Prop where
 at_:∀dn∈D,∃zw,H dn/.dT zw/\⇑zw<=m/\∀k v,Xq zw k/v->∃l∈S,v=.ref l
 ls:∀l∈S,∃es,H l/.lst es/\⇑es<=m/\∀e∈es,∃c v,∃(j:Nat)(t:Th),e=.ref c/\H c/.tup [v,jv j]/\Z8 H v t/\ts[j]?/t
theorem hH.keep{i:Nat}{a:List Th}(x:hH H D S m ts)(r:∀d∈D,∀o,H d/o->H' d/o)(u:∀l∈S,∀o,H l/o->H' l/o)(k:Q8 H H')(b:∀(j:Nat)t,ts[j]?/t->a[j]?/t)(c:m<=i):hH H' D S i a:=by
 refine{λf g=>?_,λl h=>?_}
 .obtain⟨c,e,p,n⟩:=x.at_ f g;exact{c,r f g _ e,by ext,n}
 .obtain⟨q,n,B,p⟩:=x.ls l h;refine{q,u l h _ n,by ext,λe s=>?_};have(c,v,j,t,w,y,z,A):=p e s;exact{c,v,j,t,w,k _ _ y,z.Qv k,b j t A}
theorem hH.same(g:Q5 H H')(x:hH H D S m ts):hH H' D S m ts:=x.keep (λd _=>g d) (λl _=>g l) (Q8.of g) (λ_ _ h=>h) (Gy _)
theorem hH.mono{a:Nat}(x:hH H D S m ts)(h:m<=a):hH H D S a ts:=x.keep (λ_ _ _ h=>h) (λ_ _ _ h=>h) (λ_ _ h=>h) (λ_ _ h=>h) h
theorem hH.more{c:Ge}(x:hH H D S m ts)(d:H c=Gp):hH (zj H c (.dT [])) (c::D) S m ts:=by
 have y:=x.same (Qf d (.dT []));refine{λb a=>?_,y.ls};rcases Td.mp a with rfl|a
 .exact{[],Qb,Tw _,λk v e=>by rw[ql]at e;cases e}
 .exact y.at_ b a
structure hP(a f d wk:Ge)(D D' S S':List Ge)(H H':Hp):Prop where
 keep:∀b o,H b/o->b≠a->b≠f->b≠d->b≠wk->b∉D->b∉S->H' b/o
 Qms:∀b∈D',b∈D\/H b=Gp
 Qh1:∀b∈S',b∈S\/H b=Gp
 Qq3:∀b∈D,b∈D'
 Qs8:∀b∈S,b∈S'
 there:∀b,H' b=Gp->H b=Gp
theorem hP.of(g:Q5 H H'):hP a f d wk D D S S H H':={λb o e _ _ _ _ _ _=>g b o e,λ_ h=>.inl h,λ_ h=>.inl h,λ_ h=>h,λ_ h=>h,λb h=>g.free h}
theorem hP.trans{g i l m:List Ge}{j k:Hp}(x:hP a f d wk D g S l H j)(y:hP a f d wk g i l m j k):hP a f d wk D i S m H k:=by
 refine{λb o e n p q r s t=>y.keep b o (x.keep b o e n p q r s t) n p q r (λz=>?_) (λz=>?_),λb c=>?_,λb c=>?_,λb h=>y.Qq3 b (x.Qq3 b h),λb h=>y.Qs8 b (x.Qs8 b h),λb h=>x.there b (y.there b h)}
 .rcases x.Qms b z with z|z
  .exact s z
  .rw[e]at z;cases z
 .rcases x.Qh1 b z with z|z
  .exact t z
  .rw[e]at z;cases z
 .rcases y.Qms b c with h|h
  .exact x.Qms b h
  .exact .inr (x.there b h)
 .rcases y.Qh1 b c with h|h
  .exact x.Qh1 b h
  .exact .inr (x.there b h)
theorem hP.Qv{P:Gn}{w:Ti}{C g:Ge}{p:Ge}{i j:List Ge}(x:hP a f d wk D i S j H H')(W:ih g H wk p)(y:Pl P w C H p a f d ts)(z:hH H D S m ts):Q8 H H':=λb v e=>by
 have(t,q,_):=y.th;have(u,k,_):=y.fo;have(l,n1,_):=y.kn;have(r,n,o):=W;refine x.keep b _ e (Zr e q nofun) (Zr e k nofun) (Zr e n1.at_ nofun) (Zr e o nofun) (λc=>?_) λc=>?_
 .obtain⟨s,h,_⟩:=z.at_ b c;rw[e]at h;cases h
 .obtain⟨s,h,_⟩:=z.ls b c;rw[e]at h;cases h
theorem Q1p{i n:Hp}{g q:Ge}{k:List Wl}{l:List (List Wl×V)}{w:V}(x:hH H D S m ts)(M:g∈D)(v:H g/.dT l)(B:Q5 H i)(E:i q=Gp)
  (P:(Xq l k/w/\n=zj i q (.lst []))\/(Xq l k=Gp/\w=.ref q/\n=zj (zj i q (.lst [])) g (.dT (l++[(k,↑q)])))):
  ∃e p,w=.ref e/\e∈p/\hH n D p (m+1) ts/\(∀b∈S,b∈p)/\(∀b∈p,b∈S\/H b=Gp)/\(∀b s,H b/s->b≠g->n b/s)/\(∀b,n b=Gp->H b=Gp):=by
 have f:=B.trans (Qf E (.lst []));have R:H q=Gp:=B.free E;have(aa,n1,n2,n3):=x.at_ g M;rw[v]at n1;cases n1;rcases P with⟨T,rfl⟩|⟨O,rfl,rfl⟩
 .obtain⟨e,h,rfl⟩:=n3 _ _ T;exact{e,S,1,h,x.keep (λd _=>f d) (λe _=>f e) (Q8.of f) (λ_ _ c=>c) (Fd _),λ_ c=>c,λ_ c=>.inl c,λb s a _=>f _ _ a,λb c=>f.free c}
 .have C:=f _ _ v;have F:(zj i q (.lst [])) q/.lst []:=Qb;have Q:q≠g:=Zr F C (by intro y;cases y);have Y:Q8 (zj i q (.lst [])) (zj (zj i q (.lst [])) g (.dT (l++[(k,↑q)]))):=Z1 λI a=>by rw[C]at a;cases a
  have G:Q8 H (zj (zj i q (.lst [])) g (.dT (l++[(k,↑q)]))):=λb I a=>Y b I (f _ _ a);refine{q,q::S,1,G8,{λz N=>?_,λe h=>?_},λb c=>Gr _ c,λb c=>?_,λb s a c=>by rw[Qh c];exact f _ _ a,λb c=>?_}
  .by_cases u:z=g
   .subst u;refine{_,Qb,by rw[Gs,Tg];lia,λo L a=>?_};rw[sJ (κ:=List Wl) k o _ l O]at a;by_cases A:o=k
    .rw[GY A]at a;cases a;exact⟨q,G8,Xb⟩
    .rw[Gu A]at a;have(e,h,r):=n3 _ _ a;exact{e,Gr _ h,r}
   .obtain⟨K,A,U,J⟩:=x.at_ z N;refine{K,by rw[Qh u];exact f _ _ A,by lia,λo L a=>?_};have(e,h,r):=J _ _ a;exact{e,Gr _ h,r}
  .rcases Td.mp h with rfl|h
   .exact{[],by rw[Qh Q];exact F,Tw _,λa u=>nomatch u}
   .obtain⟨L,A,r,K⟩:=x.ls e h;refine{L,?_,by lia,λa u=>?_}
    .rw[Qh (Zr A v (by intro y;cases y))];exact f _ _ A
    .obtain⟨J,Z,j,t,U,o,W,X⟩:=K a u;exact{J,Z,j,t,U,G _ _ o,W.Qv G,X}
  .rcases Td.mp c with rfl|c
   .exact .inr R
   .exact .inl c
  .by_cases u:b=g
   .subst u;rw[Qb]at c;cases c
   .rw[Qh u]at c;exact f.free c
inductive xy(CW:Ge)(vs:List V)(H:Hp)(Q:VK):Prop
 |mk (wk:Ge) (dx:Ge) (p:Ge) (h0:vs=[↑wk,↑p]) (h1:H wk/.ins CW dx []) (h2:∀H',ih CW H' wk p->(∀b o,H b/o->b≠wk->H' b/o)->(∀b,H' b=Gp->H b=Gp)->Q .non H'):xy CW vs H Q
def uT(a:Ge):Sp:=λb H Q _=>xy a b H Q
inductive yA(vs:List V)(H:Hp)(Q:VK):Prop
 |mk (l:Ge) (v:V) (t:Th) (es:List V) (ts:List Th) (h0:vs=[↑l,v]) (h1:H l/.lst es) (h2:(∀e∈es,∃c v,∃(j:Nat)(t:Th),e=.ref c/\H c/.tup [v,jv j]/\Z8 H v t/\ts[j]?/t)) (h3:(∀t∈ts,t.ok=Gk/\t.depth<=50)) (h4:Z8 H v t) (h5:t.ok=Gk) (h6:t.depth<=50) (h7:(∀j:Nat,ts[j]?/t->Q (jv j) H)) (h8:Q .non H):yA vs H Q
def rh:Sp:=λa H Q _=>yA a H Q
inductive wq(vs:List V)(H:Hp)(Q:VK):Prop
 |mk (i:Int) (j:Int) (h0:vs=[.int i,.int j]) (h1:j<1000000) (h2:∀r:Int,Q (.int r) H):wq vs H Q
def qZ:Sp:=λa H Q _=>wq a H Q
inductive uQ(P:Gn)(w:Ti)(C:Ge)(CW:Ge)(n:Nat)(vs:List V)(H:Hp)(Q:VK):Prop
 |mk (wk:Ge) (p:Ge) (dn:Ge) (v:V) (sp:Int) (t:Th) (a:Ge) (f:Ge) (d:Ge) (D:List Ge) (S:List Ge) (m:Nat) (ts:List Th) (h0:vs=[↑wk,v,↑dn,.int sp]) (h1:ih CW H wk p) (h2:Pl P w C H p a f d ts) (h3:hH H D S m ts) (h4:dn∈D) (h5:a∉S) (h6:f∉S) (h7:Z8 H v t) (h8:t.ok=Gk) (h9:t.depth<=n) (h10:t.depth<=50) (h11:m+2*t.size<=1000000) (h12:⇑ts+t.size<=1000000) (h13:∀(j:Nat)(D' S':List Ge)(H':Hp),ih CW H' wk p->Pl P w C H' p a f d (Xe ts t.inside)->hH H' D' S' (m+2*t.size) (Xe ts t.inside)->(Xe ts t.inside)[j]?/t->hP a f d wk D D' S S' H H'->Q (jv j) H'):uQ P w C CW n vs H Q
def kr(P:Gn)(w:Ti)(C a:Ge)(n:Nat):Sp:=λb H Q _=>uQ P w C a n b H Q
theorem Ig:∀(l:List Th)(i:Nat),Za (l.take i)<=Za l
 |[],_=>by simp
 |x::l,0=>by simp[Za]
 |x::l,i+1=>by have:=Ig l i;simp only[SU,Za];lia
theorem Qi1(a:List Th)(i:Nat)(t:Th)(h:a[i]?/t):Zh (a.take (i+1))=Zh (a.take i)++t.inside:=by rw[Tt,h,Xw,NR,<-Xw];simp
theorem O6:∀(a:List Th)(i:Nat)(t:Th),a[i]?/t->Za (a.take (i+1))=Za (a.take i)+t.size
 |[],_,_,h=>by simp at h
 |x::r,0,t,h=>by simp at h;subst h;simp[Za]
 |x::r,i+1,t,h=>by have:=O6 r i t (by simpa using h);simp only[SU,Za]at this⊢;lia
theorem pk{a b:List Th}{j:Nat}{t:Th}(h:a[j]?/t):(Xe a b)[j]?/t:=by have(m,e):=Ug b a;rw[e,Tz (Gg.mp h).1];exact h
end Sb
namespace L2
open PySem PySem.Spec PyProof.Rows
inductive ya(x:V)(vs:List V)(H:Hp)(Q:VK):Prop
 |mk (d:_) (b:_) (dv:_) (zw:_) (k:_) (h0:x=↑d) (h1:vs=[↑b,dv]) (h2:H d/.dT zw) (h3:H b/.tup (k.map kV)) (h4:⇑zw<TF) (h5:∀v H',((Xq zw k/v/\H'=H)\/(Xq zw k=Gp/\v=dv/\H'=zj H d (.dT (zw++[(k,dv)]))))->Q v H'):ya x vs H Q
def Qxz:V->List V->Hp->VK->Prop:=λx a H Q=>ya x a H Q
theorem Qnl{X:Cx}(n:X.A.units+1<E3):i4 X "dict.setdefault" Qxz:=by intro a s w H x u v t Q I r p h;have(d,b,e,c,k,f,g,i,j,l,q):=h;exact YP n a s w H x u v t Q I r p {d,b,e,c,k,f,g,i,j,l,λv o=>q v H (.inl ⟨o,Xb⟩),λm=>q e _ (.inr ⟨m,Xb,Xb⟩)}
end L2
namespace Sb
open PySem L2
abbrev KI(K:Gd)(f:Ge):Prop:=Ee K ↑f=Gk
abbrev MG(mg:TQ->Option Gh)(x:TQ)(f:Ge):Prop:=mg x=Ga ↑f
abbrev Vr(X:Cx)(s:DX)(n:Nat):=Subtype (Wf X ((Zd s).drop n))
end Sb
namespace K04
open PySem L2 Sb
variable{f C f0 CW:Ge}{fd:Du}
structure Ie(mg:TQ->Option Gh):Prop where
 len:mg "len"=Gp
 list:mg "list"=Gp
 tuple:mg "tuple"=Gp
 range:mg "range"=Gp
 reversed:mg "reversed"=Gp
 enumerate:mg "enumerate"=Gp
 zip:mg "zip"=Gp
 sorted:mg "sorted"=Gp
theorem Of(x:V)(a:List V):Rt (x::a) (0:Int)/x:=Zi (xs:=x::a) (j:=0) rfl
def nE(t:Th):List Wl:=(qg t).map M7
theorem ZF(t:Th):(nE t).map kV=(qg t).map V.str:=by unfold nE;rw[Ds];rfl
inductive uR(vs:List V)(H:Hp)(Q:VK):Prop
 |mk (v:V) (t:Th) (h0:vs=[v]) (h1:Z8 H v t) (h2:t.size<=1000000) (h3:∀(r:Ge)(H':Hp),Q5 H H'->H' r/.tup ((nE t).map kV)->Q ↑r H'):uR vs H Q
def rL:Sp:=λa H Q _=>uR a H Q
section
variable{P:Gn}{w:Ti}{K:Gd}{mg:TQ->Option Gh}{base:Heap}
theorem XO:Q4 ["thing"] ["thing"] (Qm nq):=by eq_refl
theorem UO(F:Wc K "top_words" "top_words" nq f fd)(E:Ie mg):Qz P w K mg base Z4 1 f fd ["thing"] rL:=by
 refine F.ok XO (λb u H G d=>?_) (λX W ab s u b H G Y d=>?_)
 .obtain⟨T,t,rfl,_⟩:=d;rfl
 ac_nf;have(T,t,rfl,ht,O,q):=d;have(a,m,b,j,rfl,rfl,z,B):=ht.inv;intros;exists _,Qg (Qu (Yq Wh rfl E.tuple Di (Qa (Zy Jg (Zz (Qa (Qn Qt {0} Qj) Qe))
  (Wm (own:=["part"]) (fv:=[]) rfl (S:=(by eq_refl:Xm (Qm nq) _)) .nil (Ui (Yg Um {0} (Yn Qj) Xl))
   (λ_ _ _ _ _=>Z5 (i:=0) (nd1 _) rfl (DG Xb) (Ez Xb)) (λ_ _ _ _ _=>Xk) (λ_ _ _ _ _=>Qn (r:=jx K) Qt {0} Qj (λ_ _=>rfl)))) Qe)))
 simp only[Th.size]at O;have Z:=Zn j;have S:=⇑B;refine{0,a,2,.str m,11,Qk z,Of _ _,Uu,λv L=>?_};have k:=Qf L (.lst [.str m]);refine{00,a,0,Qk (k _ _ z),Wr _ _,λr N=>?_};rw[iG];have l:=Qf N (.tup b);refine{r,1,{_,Qk Qb},λp A=>?_};have C:=Qf A (.lst []);have ac:=(k.trans l).trans C;refine Ja (K:=K) (a:=r) (xs:=b) (small (by lia)) (λi n o e=>(∃D,o=[D])/\Q5 (zj (zj u v (.lst [.str m])) r (.tup b)) e/\n=(j.take i).map λt=>V.str t.word)
  {{40},C,by simp} (λi n o e _ d=>Qk (d.2.1 _ _ Qb)) ?_ ?_
 .rintro i x n o e hi R ⟨⟨D,rfl⟩,c,rfl⟩ h;ac_nf;have(t,M,Q):=B.get hi;have(I,U,us,qs,rfl,rfl,J,_):=Q.inv;intros;exists 0,I,2,.str U,11,Qk (c _ _ (l _ _ (k _ _ J))),Of _ _,h,{40},λy aa g=>?_
  .rw[Qh (Qd g A)];exact c _ _ g
  .rw[Tt,M,T3];rfl
 .rintro n o e R ⟨_,c,rfl⟩ h;have g:j.take ⇑b=j:=by rw[S,Tu]
  rw[g]at h;have I:=c _ _ (l _ _ (@Qb u v (.lst [.str m])));refine{v,p,301,I,h,small (by rw[Gq,Tg];lia),λy J=>?_};refine{y,0,.inl {Qi Qb,λQ M=>?_}};refine q Q _ ((((k.trans l).trans c).trans (Qf J _)).trans (Qf M _)) ?_;rw[Qb,ZF];simp[qg,Th.word,Th.parts]
theorem n1:¬(("things":TQ)="forms"):=by decide+kernel
theorem n2:¬(("things":TQ)="known"):=by decide+kernel
theorem n3:¬(("forms":TQ)="known"):=by decide+kernel
theorem YU(a f d:Ge):Y0 "known" ↑d (Y0 "forms" ↑f (Y0 "things" ↑a []))=I9 a f d:=by simp only[Y0,Gu n1,Gu n2,Gu n3,I9]
theorem vN(a f d:Ge):(I9 a f d).lookup ("things":TQ)/↑a:=by rfl
theorem Qww(a f d:Ge):(I9 a f d).lookup ("forms":TQ)/↑f:=by rfl
theorem nY(a f d:Ge):(I9 a f d).lookup ("known":TQ)/↑d:=by rfl
theorem VE(a f d:Ge):(I9 a f d).lookup ("place_by_form":TQ)=Gp:=by rfl
theorem UU(a f d:Ge):(I9 a f d).lookup ("place_of":TQ)=Gp:=by rfl
structure iC(K:Gd)(mg:TQ->Option Gh)(C:Ge):Prop where
 cl:ie K C
 nT:Xh K C "things"
 nF:Xh K C "forms"
 nN:Xh K C "known"
 mgC:mg "Places"/↑C
theorem VI:Q4 ["self"] ["self"] (Qm qA):=by eq_refl
theorem K4(F:Wc K "__init__" "Places.__init__" qA f fd)(T:iC K mg C):Qz P w K mg base Z4 1 f fd ["self"] (qI P w C):=by
 refine F.ok VI (λN H Q E h=>?_) (λM A L s H N Q E O h=>?_)
 .obtain⟨p,x,rfl,_⟩:=h;rfl
 have(p,x,rfl,G,q):=h;exists _,Qc (Xn {0} (Zz Qe) rfl) (Qc (Xn {0} (Zz Qe) rfl) (Qg (Xn {0} Ju Xb)));refine{Tw _,λa I=>?_};have c:p≠a:=Qd G I;refine{0,p,C,x,[],1,(by rw[Qh c];exact G),T.cl,T.nT,by show 0<1000;decide,Tw _,λf u=>?_};have g:p≠f:=Qd Qb u;have i:a≠f:=Qd (o:=.lst []) (by rw[Qh (GQ c),Qb]) u;refine{0,p,C,x,0,(by rw[Qh g,Qb]),T.cl,T.nF,by show 1<1000;decide,λd n=>?_};have l:p≠d:=Qd Qb n;have D:f≠d:=Qd (o:=.lst []) (by rw[Qh (GQ g),Qb]) n;have B:a≠d:=Qd (o:=.lst []) (by rw[Qh (GQ c),Qh i,Qh (GQ c),Qb]) n;exists 0,p,C,x,0,(by rw[Qh l,Qb]),T.cl,T.nN,(by show 2<1000;decide);refine q a f d _ {{x,?_},{[],?_,.nil},{[],?_,.nil},{[],{?_,λp G=>nomatch G},Gy _,λj t e=>?_,λk v e=>?_},i,SY,Qob,λt ht=>by simp at ht} (λb o e r=>?_) I ?_ ?_
 .rw[Qb,YU]
 .rw[Qh (GQ c),Qh B,Qh (GQ c),Qh i,Qh (GQ c),Qb]
 .rw[Qh (GQ g),Qh D,Qh (GQ g),Qb]
 .rw[Qh (GQ l),Qb];rfl
 .simp at e
 .simp[Yp]at e
 .have m:b≠a:=Qd e I;have y:b≠f:=λz=>by subst z;rw[Qh r,Qh m,e]at u;cases u
  have J:b≠d:=λz=>by subst z;rw[Qh r,Qh y,Qh r,Qh m,e]at n;cases n
  rw[Qh r,Qh J,Qh r,Qh y,Qh r,Qh m];exact e
 .rw[Qh (GQ g),Qh (GQ i)]at u;exact u
 .rw[Qh (GQ l),Qh (GQ D),Qh (GQ l),Qh (GQ B)]at n;exact n
theorem XQ:Q4 ["self","thing","form"] ["self","thing","form"] (Qm nG):=by eq_refl
theorem wY{P:Gn}{w:Ti}{H:Hp}{p a d:Ge}{b:List Th}{c:List KE}{t:Th}(x:Pl P w C H p a f d b)(ht:∀q∈t.parts,q∈b)(i:∀(j:Nat)t,b[j]?/t->Yp c (Y2 (fm b t))/jv j)(l:∀k v,Yp c k/v->∃t∈b,k=Y2 (fm b t)):
  (Yp c (Y2 (fm b t))).isSome=decide (t∈b):=by
 by_cases h:t∈b
 .rw[Tk h,i _ t (Oc h)];rfl
 .rw[Tj h];cases e:Yp c (Y2 (fm b t))with
  |none=>rfl
  |some v=>exfalso;have(s,hs,g):=l _ _ e;exact h (qt ht (Wb x.cl hs) (Jj g)▸hs)
theorem Q4w{P:Gn}{w:Ti}{H:Hp}{p a d c:Ge}{g:List Th}{i:List KE}{E F:List V}{v:V}{t:Th}(x:Pl P w C H p a f d g)(A:DH P w H d i)(h:⇑i<=⇑g)(G:∀(j:Nat)t,g[j]?/t->Yp i (Y2 (fm g t))/jv j)(I:∀k v,Yp i k/v->∃t∈g,k=Y2 (fm g t))
  (o:H a/.lst E)(L:Zq H E g)(hw:H f/.lst F)(M:Dm (I0 H) F (g.map (fm g)))(T:Z8 H v t)(ok:t.ok=Gk)(Q:t.depth<=50)(ht:∀q∈t.parts,q∈g)(J:I0 H ↑c (fm g t))(m:¬t∈g):
  Pl P w C (zj (zj (zj H d (Ut P w d (Vg i (Y2 (fm g t)) c (jv ⇑g)))) a (.lst (E++[v]))) f (.lst (F++[↑c]))) p a f d (g++[t]):=by
 have(R,B):=x.ob;have N:d≠a:=Zr A.at_ o nofun;have O:d≠f:=Zr A.at_ hw nofun;have X:p≠d:=Zr B A.at_ nofun;have W:p≠a:=Zr B o nofun;have Y:p≠f:=Zr B hw nofun;have D:Q8 H (zj (zj (zj H d (Ut P w d (Vg i (Y2 (fm g t)) c (jv ⇑g)))) a (.lst (E++[v]))) f (.lst (F++[↑c]))):=λb xs e=>by rw[Qh (Zr e hw nofun),Qh (Zr e o nofun),Qh (Zr e A.at_ nofun)];exact e
 have Z:Yp i (Y2 (fm g t))=Gp:=by
  have:=wY x ht G I;rw[Tj m]at this;cases e:Yp i (Y2 (fm g t))with
  |none=>rfl
  |some u=>rw[e]at this;cases this
 have U:iw H c (Y2 (fm g t)):=J.key (by cases t;simp only[Th.ok,Df]at ok;exact ok.1);have n:∀s∈g,fm (g++[t]) s=fm g s:=λs hs=>pM (Wb x.cl hs);have l:fm (g++[t]) t=fm g t:=pM ht;exists {R,?_},{_,?_,(L.append (.one T)).Qv D},{_,Qb,?_},{Vg i (Y2 (fm g t)) c (jv ⇑g),{?_,Zf D (A.keys.put U)},?_,λj s e=>?_,λk y e=>?_},x.af,?_,?_
 .rw[Qh Y,Qh W,Qh X];exact B
 .rw[Qh x.af,Qb]
 .have r:(g++[t]).map (fm (g++[t]))=g.map (fm g)++[fm g t]:=by rw[T3,De n,TC,FX,l]
  rw[r];exact Yx (Qr M λ_ _ h=>h.Qv D) (.cons (J.Qv D) .nil)
 .rw[Qh O,Qh N,Qb]
 .have:=Rg i (Y2 (fm g t)) c (jv ⇑g);rw[Gs,Tg];lia
 .rw[U7];rcases Dn j ⇑g with h|h
  .rw[Tz h]at e;have hs:=Gc e;rw[n s hs,Gu (λz=>m (qt (Wb x.cl hs) ht (Jj z)▸hs))];exact G j s e
  .rw[Dc h]at e;have r:j - ⇑g=0:=by have:=(Gg.mp e).1;simp at this;lia
   rw[r]at e;simp at e;subst e;have:j=⇑g:=by lia
   subst this;rw[l,GY rfl]
 .rw[U7]at e;by_cases h:k=Y2 (fm g t)
  .exact{t,by simp,by rw[l];exact h}
  .rw[Gu h]at e;have(s,hs,r):=I _ _ e;exact{s,Gv _ hs,by rw[n s hs];exact r}
 .rw[DO];refine{x.nd,by simp,λs hs u o=>?_};simp at o;subst o;exactλz=>m (z▸hs)
 .intro s hs r h;rcases Gi.mp hs with hs|hs
  .exact Gv _ (x.cl s hs r h)
  .simp at hs;subst hs;cases s with
   |mk w0 ps=>
    simp only[Th.inside,Gi,Tf]at h;rcases h with h|h
    .rw[Xw,Ey]at h;have(K,S,h):=h;exact Gv _ (x.cl K (ht K S) r h)
    .subst h;simp
 .intro s hs;rcases Gi.mp hs with hs|hs
  .exact x.ok s hs
  .simp at hs;subst hs;exact⟨ok,Q⟩
theorem XR(F:Wc K "place_by_form" "Places.place_by_form" nG f0 fd)(e:iC K mg C)(ab:Ie mg):Qz P w K mg base Z4 1 f0 fd ["self","thing","form"] (qf P w C):=by
 refine F.ok XQ (λvs h ad ac L=>?_) (λai ah ak s h vs ad ac hr L=>?_)
 .obtain⟨p,c,D,t,b,f,d,a,rfl,_⟩:=L;rfl
 have(p,c,D,t,b,f,d,a,rfl,x,hv,ok,dp,ht,M,hl,q):=L;have N:=hr.units;show∃t,Wf ?my _ t/\_;let ag:Subtype (Wf ?my (sub [0,0,1] (Zd nG))):={_,Qc (Zl (Xx Te Tx TB Z0 (Qx {0}) (Qa {1} Qe))) (Qg (Zl (Xx Te Tx TB Z0 (Qx {0}) (Qa {2} Qe))))}
 exists _,Qc (Zc (Qo (O3 N) {2} (Qx {0}) rfl) (Qc (Il (Qp Zm rfl ab.len Tp (Qa (Qx {0}) Qe)) (Oy (Qx {0}) {2} (O8 N))) ag.2) Qw) (Qg (Qu (Qn (Oh N) (Qx {0}) {2})));ac_nf;have(l,n):=x.ob;have(g,z,u2):=x.th;have(H,G,w2):=x.fo;have(m,o,kl,O,X):=x.kn;intros;have Q:iw h c (Y2 (fm a t)):=M.key (by cases t;simp only[Th.ok,Df]at ok;exact ok.1);have ul:=⇑u2;have wl:⇑H=⇑a:=by rw[GJ w2,Gq]
 exists 00,p,C,l,30,n,e.cl,e.nN,nY _ _ _,c,d,Y2 (fm a t),m,11,o,Q,0;rw[wY x ht O X];by_cases j:t∈a
 .rw[Tk j];refine Q6 ?_;have J:=q (a.idxOf t) h (by rw[GY j];exact x) (by rw[GY j];exact Oc j) hI.refl;exact{0,p,C,l,30,n,e.cl,e.nN,nY _ _ _,0,d,c,Y2 (fm a t),m,01,o,Q,O _ t (Oc j),J}
 .rw[Tj j];refine Yw ?_;have S:=Q4w (c:=c) x o kl O X z u2 G w2 hv ok dp ht M j;have da:d≠b:=Zr o.at_ z (by intro k;cases k);have df:d≠f:=Zr o.at_ G (by intro k;cases k);have pd:p≠d:=Zr n o.at_ (by intro k;cases k);have pa:p≠b:=Zr n z (by intro k;cases k);have pf:p≠f:=Zr n G (by intro k;cases k);have e1:(⇑g:Int)=((⇑a:Nat):Int):=by rw[ul]
  exists 0,p,C,l,30,n,e.cl,e.nT,vN _ _ _,b,g,1,.inl (Qi z),0,p,C,l,30,n,e.cl,e.nN,nY _ _ _,0,d,c,Y2 (fm a t),m,11,o,Q,(by rw[TD];lia);have Z:(zj h d (Ut P w d (Vg m (Y2 (fm a t)) c (.int ⇑g)))) b/.lst g:=by rw[Qh (GQ da)];exact z
  have Y:(zj h d (Ut P w d (Vg m (Y2 (fm a t)) c (.int ⇑g)))) p/.ins C l (I9 b f d):=by rw[Qh pd];exact n
  exists 0,p,C,l,30,Y,e.cl,e.nT,vN _ _ _,.inl {13,Qi Z},0,b,g,01,Z,(by rw[TD];lia);have o2:(zj (zj h d (Ut P w d (Vg m (Y2 (fm a t)) c (.int ⇑g)))) b (.lst (g++[D]))) p/.ins C l (I9 b f d):=by rw[Qh pa];exact Y
  have aa:(zj (zj h d (Ut P w d (Vg m (Y2 (fm a t)) c (.int ⇑g)))) b (.lst (g++[D]))) f/.lst H:=by rw[Qh (GQ x.af),Qh (GQ df)];exact G
  exists 0,p,C,l,30,o2,e.cl,e.nF,Qww _ _ _,.inl {13,Qi aa},0,f,H,01,aa,(by rw[TD];lia);rw[e1];have B:hI b f d h (zj (zj (zj h d (Ut P w d (Vg m (Y2 (fm a t)) c (jv ⇑a)))) b (.lst (g++[D]))) f (.lst (H++[↑c]))):=⟨λA aj J h1 h2 h3=>by rw[Qh h2,Qh h1,Qh h3];exact J,λA i=>by
    by_cases V:A=f
    .subst V;rw[Qb]at i;cases i
    .rw[Qh V]at i;by_cases T:A=b
     .subst T;rw[Qb]at i;cases i
     .rw[Qh T]at i;by_cases U:A=d
      .subst U;rw[Qb]at i;cases i
      .rw[Qh U]at i;exact i⟩
  have tn:fm (a++[t]) t=fm a t:=pM ht;have W:(a++[t])[⇑a]?/t:=by simp
  have ae:∀r,Pl P w C r p b f d (a++[t])->hI b f d h r->∃v u,r p/.ins C v (I9 b f d)/\DH P w r d u/\iw r c (Y2 (fm a t))/\Yp u (Y2 (fm a t))/jv ⇑a:=λr y B=>by have(v,R):=y.ob;have(u,I,_,T,_):=y.kn;have E:=T ⇑a t W;rw[tn]at E;exact{v,u,R,I,(M.Qv (B.Qv x)).key (by cases t;simp only[Th.ok,Df]at ok;exact ok.1),E}
  ac_nf;have(v,u,R,I,af,E):=ae _ S B;intros;exact{0,p,C,v,30,R,e.cl,e.nN,nY _ _ _,0,d,c,Y2 (fm a t),u,01,I,af,E,q ⇑a _ (by rw[Gu j];exact S) (by rw[Gu j];exact W) B}
structure lD(K:Gd)(mg:TQ->Option Gh)(CW:Ge):Prop where
 cl:ie K CW
 nP:Xh K CW "places"
 nS:Xh K CW "steps"
 mgC:mg "Walk"/↑CW
 few:∃u,mg "FEW_PARTS"/u/\zv (.int 4) u
 walks:∃u,mg "WALKS_ANEW"/u/\zv (.int 1024) u
 steps:∃u,mg "STEPS_ANEW"/u/\zv (.int 40000) u
theorem Qq5(p:Ge)(n:Int):(wfl p n).lookup ("places":TQ)/↑p:=by rfl
theorem qD(p:Ge)(n:Int):(wfl p n).lookup ("steps":TQ)/.int n:=by rfl
theorem yx(p:Ge)(n:Int):(wfl p n).lookup ("place_within":TQ)=Gp:=by rfl
theorem Qy7:Q4 ["spare","inner"] ["spare","inner"] (Qm rq):=by eq_refl
theorem Qx7(F:Wc K "share_of" "share_of" rq f0 fd):Qz P w K mg base Z4 1 f0 fd ["spare","inner"] qZ:=by
 refine F.ok Qy7 (λe H Q E h=>?_) (λd A a s H e Q E g h=>?_)
 .obtain⟨i,j,rfl,_⟩:=h;rfl
 have(i,j,rfl,f,q):=h;exists _,Qc (Zc (PW.pt (Yy (Qo Ud {1} Qj (Qs _)) (Xj (Qo Ud (Zy Vq {0} {1}) (Zy jQ {1} Qj) (Qs _))))) (Qg (Qu Qj)) Qw)
  (Qg (Qu (Zy Vq {0} {1})))
 exists 403010;by_cases b:j<2
 .rw[Tk b];exact Yw (Yw (q 0))
 .rw[Tj b];have c:vB i j:={by ext,by ext};refine Q6 {00301,c,03013010,?_};refine Uv (λ_=>q 0) (λ_=>?_);exact{00301,c,q _}
theorem Kq:Q4 ["met","thing","twin","place"] ["met","thing"] (Qm sC):=by eq_refl
theorem Qtp(F:Wc K "place_among" "place_among" sC f0 fd)(B:Ie mg):Qz P w K mg base Z4 1 f0 fd ["met","thing"] rh:=by
 refine F.ok Kq (λR H Q E h=>?_) (λz A n s H R Q E G h=>?_)
 .obtain⟨l,v,t,g,N,rfl,_⟩:=h;rfl
 have(l,v,t,g,N,rfl,p,k,m,ht,x,D,J,L):=h;have I:=G.units;have q:=Kq.nd;exists _,Qc (Z9 To rfl (xP rfl B.reversed (Qa {0} Qe)) (Wi rfl (Zb (Zv 2 q) (Zb (Zv 3 q) Xt)))
   (Qg (Zc (Qo (U3 I) {2} {1} (Qs _)) (Qg (Qu {3})) Qw)))
  (Qg (Qu Jk))
 refine⟨_,Xb,l,g,Xb,Qi p,za (K:=K) (a:=l) (xs:=g) (λi f d=>d=H/\∃r u,f=[Ga ↑l,Ga v,r,u])
  {4130} (by rintro i f d _ ⟨e,_⟩;rw[e];exact Qi p) ?_ ?_⟩
 .rintro i y f d hi ⟨rfl,r,u,rfl⟩;ac_nf;have(c,O,j,M,rfl,C,e,o):=k y (S8.mp (Gc hi));intros;have b:=m _ (Gc o);exists c,0,Qk C,1,O,0,jv j,01002,e.dt,ht.dt,Wj _ b.1,Wj _ x,?_,0
  .rw[Xi,Xi];have:=b.2;lia
  rw[m8];by_cases a:M=t
  .subst a;rw[Tk rfl];exact Yw {0,J j o}
  .rw[Tj a];exact Q6 {4130}
 .rintro f d ⟨rfl,_⟩;exact L
theorem Qua:Q4 ["self","places"] ["self","places"] (Qm rg):=by eq_refl
theorem Qrl(F:Wc K "__init__" "Walk.__init__" rg f0 fd)(T:lD K mg CW):Qz P w K mg base Z4 1 f0 fd ["self","places"] (uT CW):=by
 refine F.ok Qua (λi H Q E h=>?_) (λg A f s H i Q E j h=>?_)
 .obtain⟨d,c,p,rfl,_⟩:=h;rfl
 have(d,c,p,rfl,hw,q):=h;exists _,Qc (Xn {0} {1} rfl) (Qg (Xn {0} Qj Xb));exists 00,d,CW,c,[],1,hw,T.cl,T.nP,(by show 0<1000;decide);exists 0,d,CW,c,0,Qb,T.cl,T.nS,(by show 1<1000;decide);refine q _ {c,(0),by rw[Qb,P6]} (λb o e a=>by rw[Qh a,Qh a];exact e) λb a=>?_;by_cases h:b=d
 .subst h;rw[Qb]at a;cases a
 .rw[Qh h,Qh h]at a;exact a
theorem xA:Q4 ["self","thing","near","spare","met","place","inner","share","scope","parts","part"] ["self","thing","near","spare"] (Qm Wg):=by eq_refl
theorem ZA{n:Nat}{fT fA fS fB:Ge}{bo bk bn bm:Du}(F:Wc K "place_within" "Walk.place_within" Wg f0 fd)(bR:iC K mg C)(X:lD K mg CW)(aF:Ie mg)(mP:Ym K CW "place_within" f0)(bP:zk K fd ["self","thing","near","spare"] [])
  (bQ:Qz P w K mg base Z4 (n+1) f0 fd ["self","thing","near","spare"] (kr P w C CW n))(GT:Qz P w K mg base Z4 1 fT bo ["thing"] rL)(kT:KI K fT)(bT:zk K bo ["thing"] [])(mT:MG mg "top_words" fT)
  (GA:Qz P w K mg base Z4 1 fA bk ["met","thing"] rh)(kA:KI K fA)(bA:zk K bk ["met","thing"] [])(mA:MG mg "place_among" fA)
  (GS:Qz P w K mg base Z4 1 fS bn ["spare","inner"] qZ)(kS:KI K fS)(bS:zk K bn ["spare","inner"] [])(mS:MG mg "share_of" fS)
  (mB:Ym K C "place_by_form" fB)(GB:Qz P w K mg base Z4 1 fB bm ["self","thing","form"] (qf P w C))(bB:zk K bm ["self","thing","form"] []):
  Qz P w K mg base Z4 (n+2) f0 fd ["self","thing","near","spare"] (kr P w C CW (n+1)):=by
 refine F.ok xA (λB aa aU bO o=>?_) (λcN cL cY s aa B aU bO hr o=>?_)
 .obtain⟨m,p,dn,ar,sp,t,a,v,d,D,S,aj,u,rfl,_⟩:=o;rfl
 ac_nf;have(m,p,dn,ar,sp,t,a,v,d,D,S,aj,u,rfl,W,x,xn,hD,aS,fS,ht,Yc,ca,bt,hm,ch,q):=o;have hu:=hr.units;have aN:Yd 1 _:=hr.mono ∅;have nd:=xA.nd;have(u1,mF,rF):=X.few;have(u3,mN,rN):=X.steps;intros;show∃t,Wf ?my _ t/\_;let cB:Vr ?my Wg 9:={_,Qc (Q3 5 nd (Zk (Qx {0}) bR.cl mB GB aN bB .nil Q7 (Qa {1} (Qa (Zg (Qa (Qn Qt {1} Qj) (Qa (Yq Wh rfl aF.tuple Di (Qa {9} Qe)) Qe))) Qe)))) (Qc (Zl (Xx Te Tx TB Z0 {4} (Qa (Zg (Qa {1} (Qa {5} Qe))) Qe))) (Qg (Qu {5})))}
 let cC:Subtype (Wf ?my (sub [8,0,1] (Zd Wg))):={_,Qg (Zl (Xx Te Tx TB Z0 {9} (Qa (Zk {0} X.cl mP bQ hr bP .nil Q7 (Qa {10} (Qa {8} (Qa (Qt1 {7} {3}) Qe)))) Qe)))}
 let cD:Subtype (Wf ?my (sub [8,0,0,1] (Zd Wg))):={_,Qg (Zc (PW.pt (U6 (vj {9} (λ_=>rfl)) (Ua (Qo (U3 hu) {10} (Qn Qt {1} (Qp Zm rfl aF.len Tp (Qa {9} Qe))) (Qs _))))) (Qc (Zl (Xx Te Tx TB Z0 {9} (Qa (Qn Q9 {9} (Jo Vl Qj)) Qe))) (Qg Qlb)) Qw)}
 let cE:Subtype (Wf ?my (sub [8,0] (Zd Wg))):={_,Qc (Zc (PW.pt (U6 (Qo kP {7} Qj (Qs _)) (Ua (PW.pt (Yy (Qo oT {6} (mj rfl mF rF) (Qs _)) (Xj (Qo Ud (Qx {0}) (mj rfl mN rN) (Qs _)))))))) (Qg (Q3 8 nd oF)) cD.2) cC.2}
 let cF:Vr ?my Wg 6:={_,Qc (Q3 8 nd {2}) (Qc (Q3 9 nd (Zz Qe)) (Qc (Z9 To rfl (Ui (Yg Um {1} (Yn Qj) Xl)) (Zv 10 nd) cE.2) cB.2))}
 let cG:Vr ?my Wg 4:=⟨_,Qc (Q3 6 nd (Qp Zm rfl aF.len Tp (Qa (Wm (own:=["part"]) (fv:=[]) rfl (S:=(by eq_refl:Xm (Qm Wg) _)) .nil (Ui (Yg Um {1} (Yn Qj) Xl))
   (λ_ _ _ _ _=>Z5 (i:=0) (nd1 _) rfl (DG Xb) (Ez Xb)) (λ_ _ _ _ _=>oU (Qo kP (Qp (r:=λxs aa aU=>∃p ys,xs=[↑p]/\(Vh K aa p ys\/hB K aa p ys)/\aU (.int ⇑ys) aa) Zm rfl aF.len Tp (Qa {0} Qe)) Qj (Qs _))) (λ_ _ _ _ _=>pv 0)) Qe))) (Qc (Q3 7 nd (Qwm (Qo Ud (Qx {0}) (mj rfl mN rN) (Qs _)) (Ze GS aN rfl mS kS bS .nil Q7 (Qa {3} (Qa {6} Qe))) Qj)) cF.2)⟩
 let cH:Vr ?my Wg 1:={_,Qc (Q3 4 nd (Xx S9 Lp Lq (Qnl (Jy hr)) {2} (Qa (Ze GT aN rfl mT kT bT .nil Q7 (Qa {1} Qe)) (Qa (Zz Qe) Qe)))) (Qc (Q3 5 nd (Ze GA aN rfl mA kA bA .nil Q7 (Qa {4} (Qa {1} Qe)))) (Qc (Zc (Ow (yF {5})) (Qg (Qu {5})) Qw) cG.2))}
 exists _,Qc (Xn {0} (Zy jN (Qx {0}) Qj) rfl) cH.2;have(ax,k0,ow):=W;exists 0,m,CW,ax,30,ow,X.cl,X.nS,qD _ _,3010,m,CW,ax,0,ow,X.cl,X.nS,(by show 2<1000;decide);rw[OV];ac_nf;have(cO,op):=x.ob;have(c1,u1,_):=x.th;have(c3,w1,_):=x.fo;have(cU,D1,_):=x.kn;intros;generalize aJ:zj aa m (.ins CW ax (wfl p (k0+1)))=H0;have ai:∀f z,aa f/z->f≠m->H0 f/z:=λf z c o=>by rw[<-aJ,Qh o];exact c
 have bf:H0 m/.ins CW ax (wfl p (k0+1)):=by rw[<-aJ,Qb]
 have bM:∀f,H0 f=Gp->aa f=Gp:=λf l=>by
  by_cases o:f=m
  .subst o;rw[bf]at l;cases l
  .rw[<-aJ,Qh o]at l;exact l
 clear aJ;have t0:Q8 aa H0:=λf xs c=>ai f _ c (Zr c ow (by intro b;cases b));have x0:Pl P w C H0 p a v d u:=x.keep (λz c=>ai _ _ c (Zr op ow Q7u)) (λz c=>ai _ _ c (Zr u1 ow (by intro b;cases b))) (λz c=>ai _ _ c (Zr w1 ow (by intro b;cases b))) (λz c=>ai _ _ c (Zr D1.at_ ow (by intro b;cases b))) t0;have bN:hH H0 D S aj u:=xn.keep (λf l z c=>by
   have(kv,o,_):=xn.at_ f l;exact ai _ _ c (Zr o ow (by intro b;cases b))) (λf l z c=>by
   have(kv,o,_):=xn.ls f l;exact ai _ _ c (Zr o ow (by intro b;cases b))) t0 (λ_ _ o=>o) (Gy _)
 have bD:=ht.Qv t0;have sz:=Ry t;have(bF,ag,cR,_):=bN.at_ dn hD;refine{0,.inr (.inr (.inl {1,.inr ⟨bF,ag⟩})),0,ar,t,1,bD,by ext,λr H1 g1 R=>{Tw _,λq1 aM=>?_}};have g2:=g1.trans (Qf aM (.lst []));refine{dn,r,↑q1,bF,nE t,11,g2 _ _ ag,(Qf aM (.lst [])) _ _ R,by rw[TD];ext,λnv H3 bv=>?_};ac_nf;have(I,S1,rfl,lS,bh,cw,cr,ao,cy):=Q1p bN hD ag g1 aM bv;intros;clear bv g2 R g1 aM;have t3:Q8 H0 H3:=λf xs c=>ao f _ c (Zr c ag (by intro b;cases b));have a9:=bD.Qv t3;have bg:H3 m/.ins CW ax (wfl p (k0+1)):=ao _ _ bf (Zr bf ag (by intro b;cases b));have W3:ih CW H3 m p:={2,bg};have x3:Pl P w C H3 p a v d u:=by have(dx,o1):=x0.ob;have(us,u1,_):=x0.th;have(ws,w1,_):=x0.fo;have(kv,D,_):=x0.kn;exact x0.keep (λz c=>ao _ _ c (Zr o1 ag (by intro b;cases b))) (λz c=>ao _ _ c (Zr u1 ag (by intro b;cases b))) (λz c=>ao _ _ c (Zr w1 ag (by intro b;cases b))) (λz c=>ao _ _ c (Zr D.at_ ag (by intro b;cases b))) t3
 have F3:hP a v d m D D S S1 aa H3:={λf z c _ _ _ h4 h5 _=>ao f z (ai f z c h4) (λb=>h5 (b▸hD)),λ_ o=>.inl o,λf l=>(cr f l).elim .inl λb=>.inr (bM f b),λ_ o=>o,cw,λf l=>bM f (cy f l)};have bI:∀N,N∉S->aa N≠Gp->N∉S1:=λN R h2 b=>by
  rcases F3.Qh1 N b with b|b
  .exact R b
  .exact h2 b
 have bU:a∉S1:=bI a aS (by rw[u1];intro b;cases b);have b7:v∉S1:=bI v fS (by rw[w1];intro b;cases b);have(es,hl,cW,b3):=bh.ls I lS;exists 00,I,ar,t,es,u,1,hl,b3,x3.ok,a9,Yc,bt,λj ej=>?_
 .have c:=wN x.cl (Gc ej);refine{0,Gk,by rw[Tj nofun];rfl,Yw {0,q j D S1 H3 W3 (by rw[c];exact x3) (by rw[c];exact bh.mono ∅) (by rw[c];exact ej) F3}}
 refine{0,Gx,by rw[Tk rfl];rfl,Q6 ?_};ac_nf;have(Y,wd,B,e,rfl,rfl,bq,a7):=a9.inv;intros;simp only[Th.size,Th.depth]at hm ch ca bt;have ay:okL e=Gk:=by simp only[Th.ok,Df]at Yc;exact Yc.2
 have cl:=⇑a7;have cX:=Zn e;refine{00,Y,0,Qk bq,Wr _ _,λrA bx=>?_};rw[iG];have sA:=Qf bx (.tup B);refine{rA,1,{_,Qk Qb},λpA a6=>?_};refine UT (K:=K) (a:=rA) (xs:=B) (λi ys ah H2=>(∃x0,ah=[x0])/\Q5 (zj H3 rA (.tup B)) H2) (small ∅) {{40},Qf a6 (.lst [])} (λi ys ah H2 _ o=>Qk (o.2 _ _ Qb)) ?_ ?_
 .rintro i y ys ah H2 hi ⟨⟨x0,rfl⟩,aZ⟩ gp;ac_nf;have(ty,Q,hy):=a7.get hi;have(f,wb,us,qs,rfl,rfl,l,_):=hy.inv;intros;exists 0,f,0,.inr (Qk (aZ _ _ (sA _ _ l))),3010;refine Uv (λ_=>?_) (λ_=>{gp,{40},aZ});exact{0,gp,{40},λN z c=>by rw[Qh (Qd c a6)];exact aZ _ _ c}
 rintro ys ah O cj ⟨_,gA⟩ gp;have ak:Q5 H3 O:=sA.trans gA;exists pA,ys,1,.inl (Qi gp);exists 0,m,CW,ax,30,ak _ _ bg,X.cl,X.nS,qD _ _,3010;refine Q6q (λWa=>Uv (λ_=>{0030,by ext,λr=>Wa r}) (λ_=>Wa 0)) (λsh=>?_);have W4:ih CW O m p:={2,ak _ _ bg};have x4:=x3.same ak;have az:=bh.same ak;have F4:hP a v d m D D S S1 aa O:=F3.trans (hP.of ak);have bE:=a9.same ak;have a0:=ak _ _ bq;have a8:=a7.same ak;generalize (⇑ys:Int)=ba;clear gA gp cj bx a6;refine{0,Tw _,λh T=>?_};have s4:=Qf T (.lst []);refine{00,Y,0,Qk (s4 _ _ a0),Wr _ _,λr2 bw=>?_};rw[iG];have s5:=Qf bw (.tup B);have aR:=s4.trans s5;have q5:=s5 _ _ (@Qb O h (.lst []));have r5:=@Qb (zj O h (.lst [])) r2 (.tup B);have cf:h≠r2:=Qd Qb bw;have x5:=x4.same aR;have cK:=az.same aR;have W5:ih CW (zj (zj O h (.lst [])) r2 (.tup B)) m p:=by have(dx,k,z):=W4;exact{dx,k,aR _ _ z}
 generalize cP:zj (zj O h (.lst [])) r2 (.tup B)=H5 at*;ac_nf;have(cZ,cz,cM):=x4.th;have(c2,b8,_):=x4.fo;have(cS,D3,_):=x4.kn;have(bY,k4,o4):=W4;intros;have bJ:h≠a:=λb=>by rw[b,cz]at T;cases T
 have bK:h≠v:=λb=>by rw[b,b8]at T;cases T
 have cv:h≠d:=λb=>by rw[b,D3.at_]at T;cases T
 have bL:h≠m:=λb=>by rw[b,o4]at T;cases T
 have cu:h∉S1:=λb=>by have(xs,o,_):=az.ls _ b;rw[o]at T;cases T
 have ct:h∉D:=λb=>by have(xs,o,_):=az.at_ _ b;rw[o]at T;cases T
 have W4:ih CW O m p:=⟨bY,k4,o4⟩;refine⟨r2,Xb,{_,Qk r5},qz (K:=K) (a:=r2) (xs:=B) (λi ah A=>iZ λ(H E:List Ge)(ds:Ge)(g:List Nat)(au:Option V)=>lG (ah=[Ga ↑m,Ga ↑Y,Ga ↑dn,Ga (.int sp),Ga ↑I,Ga .non,Ga (.int ba),Ga (.int sh),Ga ↑ds,Ga ↑h,au]) (ih CW A m p) (Pl P w C A p a v d (Xe u (Zh (e.take i)))) (hH A H E (aj+1+2*Za (e.take i)) (Xe u (Zh (e.take i)))) (ds∈H) (hP a v d m D H S1 E O A) (h∉H) (h∉E) (a∉E) (v∉E) (A h/.lst (g.map jv)) (⇑g=i) (∀(k j:Nat),g[k]?/j->∃s,e[k]?/s/\(Xe u (Zh (e.take i)))[j]?/s) (A r2/.tup B))
  {D,S1,dn,[],0,W5,?_,?_,hD,hP.of aR,ct,cu,bU,b7,q5,1,λk j o=>by simp at o,r5} (by rintro i ah A _ ⟨_,_,_,_,_,_,_,_,_,_,_,_,_,_,_,_,_,_,o⟩;exact Qk o) ?_ ?_⟩
 .simp only[NJ,Zh,Rh];exact x5
 .simp only[NJ,Zh,Za,Rh,Nat.mul_zero,RY];exact cK
 .intro i y;have eS:∀ty,e[i]?/ty->Xe (Xe u (Zh (e.take i))) ty.inside=Xe u (Zh (e.take (i+1))):=λty Q=>by rw[Qi1 e i ty Q,Jp]
  have bp:∀(ty:Th)(aH:Ge)(D7 U:List Ge)(L:Hp)(g:List Nat)(j:Nat)(au:Option V),e[i]?/ty->⇑g=i->(∀(k j:Nat),g[k]?/j->∃s,e[k]?/s/\(Xe u (Zh (e.take i)))[j]?/s)->ih CW L m p->Pl P w C L p a v d (Xe u (Zh (e.take (i+1))))->hH L D7 U (aj+1+2*Za (e.take (i+1))) (Xe u (Zh (e.take (i+1))))->aH∈D7->hP a v d m D D7 S1 U O L->h∉D7->h∉U->a∉U->v∉U->L h/.lst (g.map jv)->L r2/.tup B->(Xe u (Zh (e.take (i+1))))[j]?/ty->
    iZ λ(H E:List Ge)(ds:Ge)(bb:List Nat)(cJ:Option V)=>lG ([Ga ↑m,Ga ↑Y,Ga ↑dn,Ga (.int sp),Ga ↑I,Ga .non,Ga (.int ba),Ga (.int sh),Ga ↑aH,Ga ↑h,au]=[Ga ↑m,Ga ↑Y,Ga ↑dn,Ga (.int sp),Ga ↑I,Ga .non,Ga (.int ba),Ga (.int sh),Ga ↑ds,Ga ↑h,cJ]) (ih CW (zj L h (.lst (g.map jv++[jv j]))) m p) (Pl P w C (zj L h (.lst (g.map jv++[jv j]))) p a v d (Xe u (Zh (e.take (i+1))))) (hH (zj L h (.lst (g.map jv++[jv j]))) H E (aj+1+2*Za (e.take (i+1))) (Xe u (Zh (e.take (i+1))))) (ds∈H) (hP a v d m D H S1 E O (zj L h (.lst (g.map jv++[jv j])))) (h∉H) (h∉E) (a∉E) (v∉E) ((zj L h (.lst (g.map jv++[jv j]))) h/.lst (bb.map jv)) (⇑bb=i+1) (∀(k j:Nat),bb[k]?/j->∃s,e[k]?/s/\(Xe u (Zh (e.take (i+1))))[j]?/s) ((zj L h (.lst (g.map jv++[jv j]))) r2/.tup B):=by
   intro ty aH D7 U L g j au Q lw ab W7 x7 aE bX G aP aQ aV aY q7 r7 e7;have(bZ,k7,o7):=W7;exists D7,U,aH,g++[j],au,1,{bZ,k7,by rw[Qh (GQ bL)];exact o7},x7.but q7 bJ bK,?_,bX,?_,aP,aQ,aV,aY,?_,by rw[Gs,Tg,lw],λk j' hk=>?_
   .refine aE.keep (λf l z c=>?_) (λf l z c=>?_) (Z1 λxs c=>by rw[q7]at c;cases c) (λ_ _ o=>o) (Gy _)
    .rw[Qh (show f≠h fromλb=>aP (by rw[<-b];exact l))];exact c
    .rw[Qh (show f≠h fromλb=>aQ (by rw[<-b];exact l))];exact c
   .refine{λf z c R h2 h3 h4 h5 h6=>?_,G.Qms,G.Qh1,G.Qq3,G.Qs8,λf l=>?_}
    .rw[Qh (Qd c T)];exact G.keep f z c R h2 h3 h4 h5 h6
    .by_cases bs:f=h
     .subst bs;rw[Qb]at l;cases l
     .rw[Qh bs]at l;exact G.there f l
   .rw[Qb,T3];rfl
   .rcases Dn k ⇑g with a4|a4
    .rw[Tz a4]at hk;have(s0,R,h2):=ab k j' hk;exists s0,R;rw[<-eS ty Q];exact pk h2
    .rw[Dc a4]at hk;have h0:k - ⇑g=0:=by have:=(Gg.mp hk).1;simp at this;ext
     rw[h0]at hk;simp at hk;subst hk;have:k=i:=by ext
     subst this;exact⟨ty,Q,e7⟩
   .rw[Qh (GQ cf)];exact r7
  refine' Q7w (F:=λbW H'=>B[i]?/y/\∃(D' S':List Ge)(g:List Nat),ih CW H' m p/\Pl P w C H' p a v d (Xe u (Zh (e.take i)))/\hH H' D' S' (aj+1+2*Za (e.take i)) (Xe u (Zh (e.take i)))/\bW∈D'/\hP a v d m D D' S1 S' O H'/\h∉D'/\h∉S'/\a∉S'/\v∉S'/\H' h/.lst (g.map jv)/\⇑g=i/\(∀(k j:Nat),g[k]?/j->∃s,e[k]?/s/\(Xe u (Zh (e.take i)))[j]?/s)/\H' r2/.tup B) (λWa=>?myk) ?myh
  case myk=>
   rintro ah A hi ⟨H,E,ds,g,au,rfl,W6,J,ac,aw,F6,ap,aq,ad,af,M,lw,ab,r6⟩;have cd:i<⇑B:=(Gg.mp hi).1;have(ty,Q,hy):=a8.get hi;have aB:ty∈e:=Gc Q;have be:ty.ok=Gk:=by rw[Ux,E2]at ay;exact ay ty aB
   have m2:=Wp aB;have m4:=O6 e i ty Q;have t6:Q8 O A:=F6.Qv W4 x4 az;have a1:=t6 _ _ a0;have(ae,k6,Z):=W6;have W6:ih CW A m p:=⟨ae,k6,Z⟩;have bu:=Wa ds A ⟨hi,H,E,g,W6,J,ac,aw,F6,ap,aq,ad,af,M,lw,ab,r6⟩;dsimp only[Wt,List.set_cons_succ,List.set_cons_zero]
   refine' Q3u (λXf bi=>?mykk) ?mythn ?myels
   case mykk=>refine{03010,Uv (λ_=>?_) (λ_=>Q6 bi)};refine{03010,Uv (λ_=>Yw Xf) (λ_=>?_)};exact{0,m,CW,ae,30,Z,X.cl,X.nS,qD _ _,3010,Uv (λ_=>Xf) (λ_=>bi)}
   case myels=>
    by_cases a5:g=[]
    .exact{0,Gx,.inl {_,Qi M,by rw[a5];rfl},Q6 (Q6 bu)}
    .have cQ:0<⇑g:=LN.mpr a5;have bc:⇑(g.map jv)=⇑g:=Gq _;obtain⟨vp,bj⟩:∃vp,B[i - 1]?/vp:={_,Gf (show i - 1<⇑B by ext)};have(tp,aX,ci):=a8.get bj;have cp:tp.ok=Gk:=by rw[Ux,E2]at ay;exact ay tp (Gc aX)
     have m3:=Wp (Gc aX);have bV:Rt (V.str wd::B) ((⇑(g.map jv):Nat):Int)/vp:=by refine Zi ?_;rw[bc,lw,show i=(i - 1)+1 by ext,La];exact bj
     refine{0,Gk,.inl {_,Qi M,by cases g with|nil=>exact absurd rfl a5|cons _ _=>rfl},Yw ?_};exists 000,h,g.map jv,1,.inl (Qi M),Y,2,vp,11,Qk a1,bV,2,(hy.Qv t6).dt,(ci.Qv t6).dt,Wj _ be,Wj _ cp,?_,0
     .rw[Xi,Xi];ext
     rw[m8];by_cases a3:ty=tp
     .rw[Tk a3];refine Yw ?_;have(vl,al,bl):=Qz4 (g.map jv) ∅;rw[Ta,bc]at bl;ac_nf;obtain⟨jl,ce,rfl⟩:∃jl,g[⇑g - 1]?/jl/\vl=jv jl:=by
       cases c:g[⇑g - 1]? with
       |none=>rw[c]at bl;cases bl
       |some jl=>rw[c]at bl;exact{jl,1,(T1 bl).symm}
      have(sl,bz,bC):=ab _ _ ce;intros;have b6:sl=ty:=by rw[lw,aX]at bz;rw[a3];exact(T1 bz).symm
      subst b6;have eD:Xe u (Zh (e.take (i+1)))=Xe u (Zh (e.take i)):=by rw[<-eS sl Q];exact wN J.cl (Gc bC)
      exists 0,.inl {13,Qi M},00,h,g.map jv,301,Qi M,al,h,g.map jv,jv jl,11,M,(by rw[bc,TD];ext);exact bp sl ds H E A g jl _ Q lw ab W6 (by rw[eD];exact J) (by rw[eD];exact ac.mono ∅) aw F6 ap aq ad af M r6 (by rw[eD];exact bC)
     .rw[Tj a3];exact Q6 bu
   case mythn=>
    intro cc aA;have sc:=Qf aA (.dT []);refine Wa cc (zj A cc (.dT [])) {hi,cc::H,E,g,{ae,k6,sc _ _ Z},J.same sc,ac.more aA,G8,?_,?_,aq,ad,af,sc _ _ M,lw,ab,sc _ _ r6}
    .have G:=F6.trans (hP.of (D:=H) (S:=E) sc);exact{G.keep,λf l=>(Td.mp l).elim (λb=>.inr (by rw[b];exact F6.there _ aA)) (G.Qms f),G.Qh1,λf l=>Gr _ (G.Qq3 f l),G.Qs8,G.there}
    .intro b;rcases Td.mp b with b|b
     .rw[<-b,M]at aA;cases aA
     .exact ap b
  case myh=>
   rintro ds A ⟨hi,H,E,g,W6,J,ac,aw,F6,ap,aq,ad,af,M,lw,ab,r6⟩;have cd:i<⇑B:=(Gg.mp hi).1;have(ty,Q,hy):=a8.get hi;have aB:ty∈e:=Gc Q;have m1:=O6 e i ty Q;have m2:=Wp aB;have m3:=Ig e (i+1);have be:ty.ok=Gk:=by rw[Ux,E2]at ay;exact ay ty aB
   have t6:Q8 O A:=F6.Qv W4 x4 az;have an:=qE (Zh (e.take i)) u;rw[Jm]at an;have(ae,k6,Z):=W6;have W6:ih CW A m p:=⟨ae,k6,Z⟩;refine{0,.inl {13,Qi M},0,m,ae,0,Z,yx _ _,00,sh,sp,11,λb=>?_};refine{m,p,ds,y,b,ty,a,v,d,H,E,30,W6,J,ac,aw,ad,af,hy.Qv t6,be,by ext,by ext,by ext,by ext,λj D7 U L W7 x7 aE e7 G=>?_};have q7:L h/.lst (g.map jv):=G.keep _ _ M bJ bK cv bL ap aq;have bd:∀N,N∉E->A N≠Gp->N∉U:=λN R h2 b=>by
    rcases G.Qh1 N b with b|b
    .exact R b
    .exact h2 b
   have aQ:h∉U:=bd h aq (by rw[M];intro b;cases b);have aP:h∉D7:=λb=>by
    rcases G.Qms _ b with b|b
    .exact ap b
    .rw[M]at b;cases b
   ac_nf;have(cA,aT,_):=J.th;have(cI,aI,_):=J.fo;intros;have aV:a∉U:=bd a ad (by rw[aT];intro b;cases b);have aY:v∉U:=bd v af (by rw[aI];intro b;cases b);exists h,g.map jv,jv j,11,q7,(by rw[Gq,TD];ext);have r7:L r2/.tup B:=G.Qv W6 J ac _ _ r6;rw[eS ty Q]at x7 aE e7;have eM:aj+1+2*Za (e.take i)+2*ty.size=aj+1+2*Za (e.take (i+1)):=by ext
   rw[eM]at aE;exact bp ty ds D7 U L g j _ Q lw ab W7 x7 aE (G.Qq3 _ aw) (F6.trans G) aP aQ aV aY q7 r7 e7
 .rintro ah A ⟨H,E,ds,g,au,rfl,W6,J,ac,aw,F6,ap,aq,ad,af,M,lw,ab,r6⟩;have ep:e.take ⇑B=e:=by rw[cl,Tu]
  rw[ep]at J ac ab;have t6:Q8 O A:=F6.Qv W4 x4 az;have a1:=t6 _ _ a0;have(b1,cq):=J.ob;have(ae,k6,Z):=W6;have ck:=qE (Zh e) u;rw[Jm]at ck;have aO:=F6.Qs8 I lS;have cs:∀s0∈e,s0∈Xe u (Zh e):=λs0 cg=>(oe _ _ _).mpr (.inr (by rw[Xw,Ey];exact{s0,cg,sU s0}));have b4:g=e.map λs0=>(Xe u (Zh e)).idxOf s0:=by
   refine Fk λk=>?_;rw[Ta];cases c:g[k]? with
   |none=>
    have:⇑g<=k:=by simpa using c
    rw[Dl ∅];rfl
   |some j0=>have(s0,R,h2):=ab k j0 c;rw[R,Eh,Rq J.nd h2]
  refine{0,m,CW,ae,30,Z,X.cl,X.nP,Qq5 _ _,p,b1,0,cq,VE _ _ _,00,Y,2,.str wd,11,Qk a1,Of _ _,0,h,0,.inl {Qi M,λe0 cb=>?_}};have s6:=Qf cb (.tup (g.map jv));refine{Yz,λc0 b9=>?_};have s7:=Qf b9 (.tup [.str wd,↑e0]);have aC:=s6.trans s7;refine{p,c0,↑Y,.mk wd e,a,v,d,0,J.same aC,(bE.Qv t6).same aC,Yc,by simp only[Th.depth];ext,cs,{c0,e0,1,Qb,?_},by ext,λj H8 x8 e8 F8=>?_}
  .rw[s7 _ _ Qb,b4];rfl
  have eI:(Th.mk wd e).inside=Zh e++[Th.mk wd e]:=by simp[Th.inside]
  have eD:Xe u (Th.mk wd e).inside=if Th.mk wd e∈Xe u (Zh e)then Xe u (Zh e)else Xe u (Zh e)++[Th.mk wd e]:=by rw[eI,Qrp]
  rw[<-eD]at x8 e8;have cx:Q8 A H8:=λf xs c=>(F8.Qv (J.same aC)) f xs (aC _ _ c);have av:hI a v d A H8:=(hI.of aC).trans F8;ac_nf;have(aW,an,cV,b2):=ac.ls I aO;have bG:I≠a:=λb=>ad (b▸aO);have bH:I≠v:=λb=>af (b▸aO);have(cA,aT,_):=J.th;have(cI,aI,_):=J.fo;have(cT,aG,_):=J.kn;intros;have cn:I≠d:=Zr an aG.at_ (by intro b;cases b);have co:I≠m:=Zr an Z (by intro b;cases b);have aL:=av.keep _ _ an bG bH cn;have o8:=av.keep _ _ Z (Zr Z aT (by intro b;cases b)) (Zr Z aI (by intro b;cases b)) (Zr Z aG.at_ (by intro b;cases b));refine{0,.inl {13,Qi aL},00,Yz,λc9 a2=>?_};have s9:=Qf a2 (.tup [↑Y,jv j]);exists I,aW,↑c9,11,s9 _ _ aL,(by rw[TD];ext);have x9:=x8.same s9;have sE:(Th.mk wd e).size=Za e+1:=by simp[Th.size]
  have aD:Q8 A (zj (zj H8 c9 (.tup [↑Y,jv j])) I (.lst (aW++[↑c9]))):=λf xs c=>by rw[Qh (Zr c an (by intro b;cases b))];exact s9 _ _ (cx _ _ c)
  have cm:(zj (zj H8 c9 (.tup [↑Y,jv j])) I (.lst (aW++[↑c9]))) c9/.tup [↑Y,jv j]:=by rw[Qh (λb=>by rw[b,aL]at a2;cases a2),Qb]
  refine{0,q j H E _ {ae,k6,by rw[Qh (GQ co)];exact s9 _ _ o8} (x9.but (s9 _ _ aL) bG bH) {λf l=>?_,λf l=>?_} e8 ?_}
  .obtain⟨kv,k1,k2,k3⟩:=ac.at_ f l;refine{kv,?_,by rw[sE];ext,k3};rw[Qh (Zr k1 an (by intro b;cases b))];exact s9 _ _ (av.keep _ _ k1 (Zr k1 aT (by intro b;cases b)) (Zr k1 aI (by intro b;cases b)) (Zr k1 aG.at_ (by intro b;cases b)))
  .by_cases aK:f=I
   .subst aK;refine{_,Qb,by rw[Gs,Tg,sE];ext,λc he=>?_};rcases Gi.mp he with he|he
    .subst_vars;have(N,ar,j0,t0,k1,k2,k3,k4):=b2 c he;intros;exists N,ar,j0,t0,k1,aD _ _ k2,k3.Qv aD;rw[eI,Jp];exact pk k4
    .rw[Tf]at he;subst he;exact{c9,↑Y,j,0,cm,(bE.Qv t6).Qv aD,e8}
   .obtain⟨b5,k1,k2,k3⟩:=ac.ls f l;refine{b5,?_,by rw[sE];ext,λc he=>?_}
    .rw[Qh aK];exact s9 _ _ (av.keep _ _ k1 (λb=>ad (b▸l)) (λb=>af (b▸l)) (Zr k1 aG.at_ (by intro b;cases b)))
    .subst_vars;have(N,ar,j0,t0,k4,k5,k6,k7):=k3 c he;intros;exists N,ar,j0,t0,k4,aD _ _ k5,k6.Qv aD;rw[eI,Jp];exact pk k7
  .have am:=F4.trans F6;refine{λf z c R h2 h3 h4 h5 h6=>?_,am.Qms,am.Qh1,am.Qq3,am.Qs8,λf l=>?_}
   .have e9:=am.keep f z c R h2 h3 h4 h5 h6;have aK:f≠I:=λb=>by
     rcases am.Qh1 I aO with w1|w1
     .exact h6 (b▸w1)
     .rw[<-b,c]at w1;cases w1
    rw[Qh aK];exact s9 _ _ (av.keep _ _ e9 R h2 h3)
   .refine am.there f (av.there f ?_);by_cases br:f=I
    .subst br;rw[Qb]at l;cases l
    .rw[Qh br]at l;exact s9.free l
theorem P9:Qz P w K mg base Z4 1 f fd ["self","thing","near","spare"] (kr P w C CW 0):=by
 have g:∀b H Q E,¬kr P w C CW 0 b H Q E:=λb H Q E h=>by have(o,p,i,v,k,t,a,f,d,D,S,m,l,_,_,_,_,_,_,_,_,_,j,_):=h;have:=qB t;lia
 exact{λb H Q E h=>absurd h (g b H Q E),λA c s H e n b Q E _ _ _ _ h=>absurd h (g b H Q E)}
theorem vn{f i g h v C e:Ge}{j d a c b:Du}(F:Wc K "place_within" "Walk.place_within" Wg f j)(T:iC K mg C)(p:lD K mg e)(B:Ie mg)(E:Ym K e "place_within" f)(s:zk K j ["self","thing","near","spare"] [])
  (o:Qz P w K mg base Z4 1 i d ["thing"] rL)(z:KI K i)(u:zk K d ["thing"] [])(H:MG mg "top_words" i)
  (k:Qz P w K mg base Z4 1 g a ["met","thing"] rh)(x:KI K g)(q:zk K a ["met","thing"] [])(A:MG mg "place_among" g)
  (m:Qz P w K mg base Z4 1 h c ["spare","inner"] qZ)(y:KI K h)(t:zk K c ["spare","inner"] [])(G:MG mg "share_of" h)
  (D:Ym K C "place_by_form" v)(l:Qz P w K mg base Z4 1 v b ["self","thing","form"] (qf P w C))(r:zk K b ["self","thing","form"] []):∀n:Nat,Qz P w K mg base Z4 (n+1) f j ["self","thing","near","spare"] (kr P w C e n)
 |0=>P9
 |n+1=>ZA F T p B E s (vn F T p B E s o z u H k x q A m y t G D l r n) o z u H k x q A m y t G D l r
theorem QZ:Q4 ["self","thing"] ["self","thing"] (Qm sd):=by eq_refl
theorem YW{R S:Ge}{n r:Du}(F:Wc K "place_of" "Places.place_of" sd f0 fd)(I:lD K mg CW)(MW:Mk K CW R)(Y:Qz P w K mg base Z4 1 R n ["self","places"] (uT CW))(bI:zk K n ["self","places"] [])(mW:Ym K CW "place_within" S)(bW:zk K r ["self","thing","near","spare"] [])
  (G:Qz P w K mg base Z4 51 S r ["self","thing","near","spare"] (kr P w C CW 50)):Qz P w K mg base Z4 52 f0 fd ["self","thing"] (Ob P w C):=by
 refine F.ok QZ (λvs H Q E h=>?_) (λaa A z s H vs Q E T h=>?_)
 .obtain⟨p,v,t,a,f,d,X,rfl,_⟩:=h;rfl
 have(p,v,t,a,f,d,X,rfl,x,ht,Yc,y,ac,q):=h;have(u2,mN,rN):=I.walks;have M:Yd 2 _:=T.mono (by decide);exists _,Qg (Qu (Zk (rE MW Y M rfl I.mgC bI .nil Q7 (Qa {0} Qe)) I.cl mW G T bW .nil Q7 (Qa {1} (Qa oF (Qa (mj rfl mN rN) Qe)))));refine{0,λB J i L ab=>?_};have s0:Q5 H (zj (zj H J (.own B)) B (.ins CW J [])):=λc o e=>by rw[Qh (Qd e i),Qh (Qd e L)];exact e
 refine{B,J,p,1,Qb,λH1 W1 k1 ad=>{1,?_}};have V:Q5 H H1:=λc o e=>k1 c o (s0 c o e) (Qd e i);have(m,kw,U):=W1;refine{B,m,0,U,yx _ _,0,λO u=>?_};have W:=Qf u (.dT []);have g:=V.trans W;refine{B,p,O,v,_,t,a,f,d,[O],[],(0),X,1,{m,kw,W _ _ U},x.same g,{λb D=>?_,λl hl=>nomatch hl},by simp,by simp,by simp,ht.same g,Yc,y,y,by lia,by lia,λj D' S' Z W' x' n' e' N=>?_}
 .rw[Tf]at D;subst D;exact{[],Qb,Gy _,λk v e=>by rw[ql]at e;cases e}
 .refine q j Z x' e' {λb o e A E Q=>N.keep b o (g _ _ e) A E Q (Qd e i) (λz=>?_) ⋯,λb D=>g.free (N.there b D)};rw[Tf]at z;exact Qd (V _ _ e) u z
end
end K04
namespace Nt
variable{up:Nat->Option Nat}{p m over q x y n v lo hi:Nat}{l a b low S s cl:List Nat}{Xs:Nat->Nat->Option Nat}{f f':Nat->Nat}
inductive Ch(up:Nat->Option Nat):Nat->List Nat->Prop
 |top {p:Nat}:up p=Gp->Ch up p [p]
 |step {p q:Nat} {l:List Nat}:up p/q->Ch up q l->Ch up p (p::l)
theorem Ch.uniq{m:List Nat}(h:Ch up p l)(k:Ch up p m):l=m:=by
 induction h generalizing m with
 |top e=>cases k with
  |top=>rfl
  |step f=>rw[e]at f;cases f
 |step e _ a=>cases k with
  |top f=>rw[e]at f;cases f
  |step f k=>rw[e]at f;cases f;rw[a k]
theorem Ch.ne(h:Ch up p l):l≠[]:=by cases h<;>simp
theorem Ch.head(h:Ch up p l):∃r,l=p::r:=by cases h<;>exact{40}
theorem Ch.suffix{z:Nat}(h:Ch up p l)(e:l=a++z::b):Ch up z (z::b):=by
 induction h generalizing a with
 |top f=>cases a with
  |nil=>cases e;exact .top f
  |cons x a=>simp at e
 |step f h c=>cases a with
  |nil=>cases e;exact .step f h
  |cons x a=>cases e;exact c rfl
theorem Ch.nodup(h:Ch up p l):l.Nodup:=by
 induction h with
 |top=>simp
 |@step p _ l e h d=>rw[Dw];refine{λc=>?_,d};have(a,b,rfl):=Su c;have:=congrArg Sk ((h.suffix Xb).uniq (.step e h));simp at this;lia
def Ye(l:List Nat):Nat:=l.getLastD 0
theorem pG(h:l≠[]):Ye (p::l)=Ye l:=by
 cases l with
 |nil=>exact absurd rfl h
 |cons x r=>simp[Ye,List.getLastD]
theorem ZV(h:b≠[]):Ye (a++b)=Ye b:=by
 induction a with
 |nil=>rfl
 |cons x r c=>rw[D9,pG (by simp[h]),c]
theorem Ch.nQ{z:Nat}(h:Ch up p l)(c:z∈l):∃m,Ch up z m/\Ye m=Ye l:=by have(a,b,rfl):=Su c;exact{z::b,h.suffix Xb,by rw[ZV ⋯]}
def mq(up:Nat->Option Nat)(p:Nat)(v:Nat):Nat->Option Nat:=λq=>if q=p then Ga v else up q
def Ws(up:Nat->Option Nat):Nat->List Nat->(Nat->Option Nat)
 |_,[]=>up
 |over,c::r=>Ws (mq up c over) c r
theorem R9(h:q∉l):Ws up over l q=up q:=by
 induction l generalizing up over with
 |nil=>rfl
 |cons c r a=>simp only[Td,not_or]at h;exact(a h.2).trans (Gu h.1)
theorem Ch.uY(h:Ch up p l)(k:∀z∈l,z∉low):Ch (Ws up over low) p l:=by
 induction h with
 |top e=>exact .top ((R9 (k _ G8)).trans e)
 |step e _ b=>exact .step ((R9 (k _ G8)).trans e) (b λz a=>k z (Gr _ a))
theorem yv{m:List Nat}(nd:low.Nodup)(e:Ch (Ws up over low) over m):∀z∈low,∃l,Ch (Ws up over low) z l/\Ye l=Ye m:=by
 induction low generalizing up over m with
 |nil=>nofun
 |cons c r f=>
  rw[Dw]at nd;have d:Ch (Ws up over (c::r)) c (c::m):=.step ((R9 nd.1).trans (GY Xb)) e;have b:Ye (c::m)=Ye m:=pG e.ne;intro z a;rcases Td.mp a with rfl|a
  .exact{_,d,b}
  .obtain⟨l,g,h⟩:=f nd.2 d z a;exact{l,g,by rw[h,b]}
theorem Qud{m:List Nat}(nd:low.Nodup)(f:Ch (Ws up over low) over m):∀{p:Nat}{l:List Nat},Ch up p l->(∃z∈l,z∈low)->∃c,Ch (Ws up over low) p c/\Ye c=Ye m:=by
 intro p l h;induction h with
 |@top p e=>rintro⟨z,a,b⟩;simp at a;subst a;exact yv nd f _ b
 |@step p q l e k i=>
  rintro⟨z,a,b⟩;by_cases d:p∈low
  .exact yv nd f p d
  .rcases Td.mp a with rfl|a
   .exact absurd b d
   .obtain⟨c,g,j⟩:=i ⟨z,a,b⟩;exact{p::c,.step (by rw[R9 d];exact e) g,by rw[pG g.ne,j]}
theorem Qmw(nd:l.Nodup)(h:Ws up over l p/q):up p/q\/(∃r,l=p::r/\q=over)\/∃a b,l=a++q::p::b:=by
 induction l generalizing up over with
 |nil=>exact .inl h
 |cons c r d=>
  rw[Dw]at nd;rcases d nd.2 h with h|⟨f,rfl,rfl⟩|⟨a,b,rfl⟩
  .unfold mq at h;by_cases e:p=c
   .rw[GY e]at h;cases h;subst e;exact .inr (.inl ⟨r,Xb,Xb⟩)
   .rw[Gu e]at h;exact .inl h
  .exact .inr (.inr {[],f,1})
  .exact .inr (.inr {c::a,b,1})
theorem Ch.jU(h:Ch up p l)(e:l=a++x::y::b):up x/y:=by
 have k:=h.suffix e;cases k with
 |step f h=>have(r,c):=h.head;cases c;exact f
variable{α:Type}
inductive Cn(ls:List (Nat×Nat×α)):Nat->Nat->Prop
 |refl (p:Nat):Cn ls p p
 |symm {p q:Nat}:Cn ls p q->Cn ls q p
 |trans {p q r:Nat}:Cn ls p q->Cn ls q r->Cn ls p r
 |link {p q:Nat} {r:α}:(p,q,r)∈ls->Cn ls p q
theorem Cn.mono{a b:List (Nat×Nat×α)}(h:∀x∈a,x∈b):∀{p q:Nat},Cn a p q->Cn b p q:=by
 intro p q c;induction c with
 |refl p=>exact .refl p
 |symm _ d=>exact .symm d
 |trans _ _ d e=>exact .trans d e
 |link m=>exact .link (h _ m)
theorem Cn.Qq7{a:List (Nat×Nat×α)}(h:m<=n)(c:Cn (a.take m) p q):Cn (a.take n) p q:=
 c.mono λx b=>by
  have:a.take m=(a.take n).take m:=by rw[Mo,FN h]
  rw[this]at b;exact DL b
structure ia(S:List Nat)(ls:List (Nat×Nat×α))(Xs:Nat->Nat->Option Nat)(up:Nat->Option Nat):Prop where
 jU:∀p q,up p/q->∃n,Xs p q/n
 Qih:∀p q n,Xs p q/n->∃r,ls[n]?/(p,q,r)\/ls[n]?/(q,p,r)
 all:∀(n p q:Nat)r,ls[n]?/(p,q,r)->Xs p q/n/\Xs q p/n
 sep:∀(n p q:Nat)r,ls[n]?/(p,q,r)->¬Cn (ls.take n) p q
 chain:∀p∈S,∃l,Ch up p l
 inS:∀p q,up p/q->p∈S/\q∈S
theorem ia.qU{a:List (Nat×Nat×α)}(F:ia S a Xs up)(h:Xs p q/n):Xs q p/n:=by
 obtain⟨r,h|h⟩:=F.Qih p q n h
 .exact(F.all _ _ _ _ h).2
 .exact(F.all _ _ _ _ h).1
inductive hZ(Xs:Nat->Nat->Option Nat):Nat->List Nat->Nat->Prop
 |nil (p:Nat):hZ Xs p [] p
 |cons {p q r n:Nat} {ns:List Nat}:Xs p q/n->hZ Xs q ns r->hZ Xs p (n::ns) r
theorem hZ.app{r:Nat}(h:hZ Xs p a q)(k:hZ Xs q b r):hZ Xs p (a++b) r:=by
 induction h with
 |nil=>exact k
 |cons e _ c=>exact .cons e (c k)
theorem hZ.rev(c:∀p q n,Xs p q/n->Xs q p/n)(h:hZ Xs p a q):hZ Xs q a.reverse p:=by
 induction h with
 |nil=>exact .nil _
 |cons e _ b=>rw[LA];exact b.app (.cons (c _ _ _ e) (.nil _))
theorem hZ.split(h:hZ Xs p l q)(e:l=a++n::b):∃x y,hZ Xs p a x/\Xs x y/n/\hZ Xs y b q:=by
 induction h generalizing a with
 |nil=>simp at e
 |cons f h i=>cases a with
  |nil=>cases e;exact{2,.nil _,f,h}
  |cons z a=>cases e;have(x,y,c,d,g):=i rfl;exact{x,y,.cons f c,d,g}
theorem Qm5(h:l≠[]):∃m∈l,∀k∈l,k<=m:=by
 induction l with
 |nil=>exact absurd rfl h
 |cons x r d=>
  cases r with
  |nil=>exact{x,G8,λk a=>Ff (Tf.mp a)}
  |cons y r=>
   have(m,c,b):=d ⋯;by_cases e:x<=m
   .refine{m,Gr _ c,λk a=>?_};rcases Td.mp a with rfl|a
    .exact e
    .exact b k a
   .refine{x,G8,λk a=>?_};rcases Td.mp a with rfl|a
    .exact Gy _
    .exact Dj (b k a) (Nat.le_of_not_le e)
section
variable{S:List Nat}{ls:List (Nat×Nat×α)}{Xs:Nat->Nat->Option Nat}{up:Nat->Option Nat}
theorem ia.Av(F:ia S ls Xs up){M:Nat}(h:hZ Xs p a q)(c:∀k∈a,k<M):Cn (ls.take M) p q:=by
 induction h with
 |nil=>exact .refl _
 |@cons _ _ _ n _ e h g=>
  refine .trans ?_ (g λk f=>c k (Gr _ f));have d:=c n G8;obtain⟨r,b|b⟩:=F.Qih _ _ _ e
  .exact .link (r:=r) (Gc (i:=n) (by rw[RG,GY d];exact b))
  .exact .symm (.link (r:=r) (Gc (i:=n) (by rw[RG,GY d];exact b)))
theorem ia.early(F:ia S ls Xs up)(h:hZ Xs p a q)(nd:a.Nodup)(c:Cn (ls.take n) p q):∀k∈a,k<n:=by
 intro k g;have(M,A,f):=Qm5 (l:=a) (by intro z;rw[z]at g;simp at g);by_cases i:M<n
 .exact Sn (f k g) i
 exfalso;have(b,d,rfl):=Su A;have(x,y,u,v,w):=h.split rfl;rw[DO]at nd;have(n1,n2,n3):=nd;rw[Dw]at n2;have l:∀k∈b,k<M:=λk g=>by have:=f k (Gv _ g);have:=n3 k g M G8;lia
 have t:∀k∈d,k<M:=λk g=>by have:=f k (TL _ (Gr _ g));have:k≠M:=λz=>n2.1 (z▸g);lia
 have m:=F.Av u l;have o:=F.Av w t;have s:Cn (ls.take M) p q:=c.Qq7 (by lia);have j:Cn (ls.take M) x y:=.trans (.symm m) (.trans s (.symm o));obtain⟨r,e|e⟩:=F.Qih _ _ _ v
 .exact F.sep _ _ _ _ e j
 .exact F.sep _ _ _ _ e (.symm j)
def num(Xs:Nat->Nat->Option Nat)(up:Nat->Option Nat)(x:Nat):Nat:=((up x).bind (Xs x)).getD 0
theorem ia.mx(F:ia S ls Xs up)(h:up x/y):Xs x y/num Xs up x:=by have(n,a):=F.jU x y h;unfold num;rw[h];simp[a]
theorem ia.QS(F:ia S ls Xs up){n o:Nat}(h:up x/n)(k:up y/o)(e:num Xs up x=num Xs up y):x=y:=by
 have j:=F.mx h;have q:=F.mx k;rw[e]at j;have(r,d):=F.Qih _ _ _ j;have(v,a):=F.Qih _ _ _ q;have b:x=o->n=y->x=y:=λt u=>by
  subst t u;exfalso;have(l,m):=F.chain x (F.inS _ _ h).1;have s:=m.nodup;cases m with
  |top f=>rw[h]at f;cases f
  |step f g=>
   rw[h]at f;cases f;cases g with
   |top c=>rw[k]at c;cases c
   |step c p=>rw[k]at c;cases c;have(w,i):=p.head;subst i;simp at s
 rcases d with d|d<;>rcases a with a|a<;>rw[d]at a<;>simp only[IZ,EJ]at a
 .exact a.1
 .exact b a.1 a.2.1
 .exact b a.2.1 a.1
 .exact a.2.1
theorem ia.zr(F:ia S ls Xs up){P:List Nat}(h:Ch up p l)(e:l=P++m::s):hZ Xs p (P.map (num Xs up)) m:=by
 induction h generalizing P with
 |top=>cases P with
  |nil=>cases e;exact .nil _
  |cons z P=>simp at e
 |step f _ a=>cases P with
  |nil=>cases e;exact .nil _
  |cons z P=>cases e;exact .cons (F.mx f) (a Xb)
theorem Ch.Kh{P:List Nat}(h:Ch up p l)(e:l=P++m::s)(c:x∈P):∃y,up x/y:=by
 have(a,b,rfl):=Su c;cases b with
 |nil=>exact{m,h.jU (a:=a) (b:=s) (by rw[e];simp)}
 |cons y b=>exact{y,h.jU (a:=a) (b:=b++m::s) (by rw[e];simp)}
theorem Qi6(nd:l.Nodup)(h:∀x∈l,∀y∈l,f x=f y->x=y):(l.map f).Nodup:=by
 induction l with
 |nil=>simp
 |cons x r i=>rw[Dw]at nd;rw[TC,Dw];refine{λz=>?_,i nd.2 λa d b g=>h a (Gr _ d) b (Gr _ g)};have(y,c,e):=Tv.mp z;exact nd.1 (h y (Gr _ c) x G8 e▸c)
theorem Qiv(h:(x,y)∈l.zip (l.drop 1)):∃a b,l=a++x::y::b:=by
 induction l with
 |nil=>simp at h
 |cons z r c=>
  cases r with
  |nil=>simp at h
  |cons w r=>
   rcases Td.mp h with h|h
   .cases h;exact{[],r,1}
   .obtain⟨a,b,e⟩:=c h;exact{z::a,b,by rw[e];rfl}
theorem Ch.two{P R:List Nat}(h:Ch up p (P++m::s))(e:P++m::R=a++x::y::b):(x∈P/\up x/y)\/∃c,m::R=c++x::y::b:=by
 induction P generalizing p a with
 |nil=>exact .inr {_,e}
 |cons z P i=>
  generalize d:z::P++m::s=l at h;cases h with
  |top=>simp at d
  |step f h=>
   cases d;cases a with
   |nil=>
    have(r,g):=h.head;have(rfl,k):=LY e;refine .inl {G8,f.trans (congrArg Ga ?_)};cases P with
    |nil=>exact(LY g).1.symm.trans (LY k).1
    |cons=>exact(LY g).1.symm.trans (LY k).1
   |cons=>exact(i h (LY e).2).imp_left λh=>{Gr _ h.1,h.2}
theorem ia.way(F:ia S ls Xs up){f d:Nat}{G H P Q:List Nat}(p:Ch up f G)(q:Ch up d H)(i:G=P++m::s)(j:H=Q++m::s)(w:P=[]\/Q=[]\/P.getLast?≠Q.getLast?):
  ∀x y,(x,y)∈(P++m::Q.reverse).zip ((P++m::Q.reverse).drop 1)->∃k,Xs x y/k/\∀n,Cn (ls.take n) f d->k<n:=by
 have dis:∀z∈P,z∉Q:=λz O R=>by
  have(J,r,rfl):=Su O;have(K,L,rfl):=Su R;have M:=p.suffix (a:=J) (z:=z) (b:=r++m::s) (by rw[i];simp);have N:=q.suffix (a:=K) (z:=z) (b:=L++m::s) (by rw[j];simp);have e:=M.uniq N;simp only[DP,true_and]at e;have e:=MJ e;subst e;rcases w with h|h|h
  .simp at h
  .simp at h
  .refine h ?_;rw[SI,SI];have:(z::r).getLast?/(z::r).getLast ⋯:=EF ⋯;rw[this];rfl
 have B:P.Nodup:=by have:=p.nodup;rw[i,DO]at this;exact this.1
 have C:Q.Nodup:=by have:=q.nodup;rw[j,DO]at this;exact this.1
 have u:∀x∈P++Q.reverse,∃y,up x/y:=λx g=>by
  rcases Gi.mp g with g|g
  .exact p.Kh i g
  .exact q.Kh j (S8.mp g)
 have V:(P++Q.reverse).Nodup:=by rw[DO];refine{B,by rw[IK,List.pairwise_reverse];exact C.imp λh=>GQ h,λa r b J z=>?_};subst z;exact dis a r (S8.mp J)
 have D:((P++Q.reverse).map (num Xs up)).Nodup:=Qi6 V λx g y U e=>by have(K,r):=u x g;have(L,J):=u y U;exact F.QS r J e
 have E:hZ Xs f ((P++Q.reverse).map (num Xs up)) d:=by rw[T3,List.map_reverse];exact(F.zr p i).app ((F.zr q j).rev λ_ _ _=>F.qU)
 intro x y A;have(a,b,e):=Qiv A;have l:∀z I,up z/I->z∈P++Q.reverse->Xs x y/num Xs up z->∃k,Xs x y/k/\∀n,Cn (ls.take n) f d->k<n:=λz I _ v T=>{_,T,λn c=>F.early E D c _ (Tv.mpr ⟨z,v,Xb⟩)}
 have o:(x∈P/\up x/y)\/y∈Q/\up y/x:=by subst i j;refine(p.two e).imp_right λ⟨c,e⟩=>?_;have r:=congrArg List.reverse e;simp only[List.reverse_append,LA,List.reverse_reverse,DF,D9,Nq]at r;refine(q.two r).resolve_right λ⟨c,e⟩=>?_;simp[List.cons_eq_append_iff]at e
 rcases o with⟨v,t⟩|⟨v,t⟩
 .exact l x y t (Gv _ v) (F.mx t)
 .exact l y x t (TL _ (S8.mpr v)) (F.qU (F.mx t))
end
variable{W ρ:Type}[DecidableEq W]
set_option genInjectivity false in
structure ic(W ρ:Type) where
 S:List Nat
 zu:Nat->Nat
 mem:Nat->List Nat
 Xz:Nat->List Nat
 tab:W×List Nat->Option Nat
 zm:List (Nat×Nat×Option ρ)
 Xs:Nat->Nat->Option Nat
 up:Nat->Option Nat
variable{a b:Nat}
noncomputable def Zt(wd:Nat->W)(pt:Nat->List Nat)(ld:Nat->Nat)(p:Nat):W×List Nat:=(wd p,(pt p).map ld)
inductive Cj(S:List Nat)(ld:Nat->Nat)(pend:List (Nat×Nat×Option ρ)):Nat->Nat->Prop
 |zu {p q:Nat}:p∈S->q∈S->ld p=ld q->Cj S ld pend p q
 |wait {p q:Nat} {r:Option ρ}:(p,q,r)∈pend->Cj S ld pend p q
 |symm {p q:Nat}:Cj S ld pend p q->Cj S ld pend q p
 |trans {p q r:Nat}:Cj S ld pend p q->Cj S ld pend q r->Cj S ld pend p r
theorem Cj.map{ld g:Nat->Nat}{f d:List (Nat×Nat×Option ρ)}(h:∀p∈S,∀q∈S,ld p=ld q->Cj S g d p q)(i:∀p q r,(p,q,r)∈f->Cj S g d p q):∀{p q:Nat},Cj S ld f p q->Cj S g d p q:=by
 intro p q c;induction c with
 |zu a b e=>exact h _ a _ b e
 |wait m=>exact i _ _ _ m
 |symm _ a=>exact .symm a
 |trans _ _ a b=>exact .trans a b
theorem Cj.nil{ld:Nat->Nat}(c:Cj (ρ:=ρ) S ld [] p q):ld p=ld q:=by
 induction c with
 |zu _ _ e=>exact e
 |wait m=>simp at m
 |symm _ a=>exact a.symm
 |trans _ _ a b=>exact a.trans b
def oY(F:Nat->Nat->Prop)(ps a:List Nat):Prop:=⇑ps=⇑a/\∀(i p q:Nat),ps[i]?/p->a[i]?/q->F p q
theorem og{a b:List Nat}:a.map f=b.map f↔oY (λp q=>f p=f q) a b:=by
 constructor
 .intro h;have c:=congrArg Sk h;simp at c;refine{c,λi p q d e=>?_};have:(a.map f)[i]?=(b.map f)[i]?:=by rw[h]
  simpa[d,e]using this
 .rintro⟨c,h⟩;refine Fk λi=>?_;rw[Ta,Ta];rcases Dn i ⇑a with hi|hi
  .have d:=Gf hi;have e:=Gf (show i<⇑b by lia);rw[d,e,Eh,Eh,h i _ _ d e]
  .rw[Dl hi,Dl (by lia)]
structure Wy(wd:Nat->W)(pt:Nat->List Nat)(x:ic W ρ)(pend:List (Nat×Nat×Option ρ)):Prop where
 nd:x.S.Nodup
 pt_:∀p∈x.S,∀q∈pt p,q∈x.S
 ld:∀p∈x.S,x.zu p∈x.S
 idem:∀p∈x.S,x.zu (x.zu p)=x.zu p
 Qdg:∀l∈x.S,x.zu l=l->∀p,p∈x.mem l↔p∈x.S/\x.zu p=l
 Qnq:∀l∈x.S,x.zu l=l->(x.mem l).Nodup
 Qlw:∀l∈x.S,∀p∈x.Xz l,p∈x.S
 Q0j:∀p∈x.S,∀q∈pt p,p∈x.Xz (x.zu q)
 tabS:∀k u,x.tab k/u->u∈x.S/\wd u=k.1/\(∀q∈k.2,q∈x.S)/\(pt u).map x.zu=k.2.map x.zu
 Qv7:∀p∈x.S,∃u,x.tab (Zt wd pt x.zu p)/u/\Cj x.S x.zu pend u p
 pnd:∀a b r,(a,b,r)∈pend->a∈x.S/\b∈x.S/\(r=Gp->wd a=wd b/\(pt a).map x.zu=(pt b).map x.zu)
 fst:ia x.S x.zm x.Xs x.up
 lnk:∀(n a b:Nat)r,x.zm[n]?/(a,b,r)->a∈x.S/\b∈x.S/\(r=Gp->wd a=wd b/\oY (Cn (x.zm.take n)) (pt a) (pt b))
 conn:∀p∈x.S,∀q∈x.S,(x.zu p=x.zu q↔Cn x.zm p q)
 root:∀p q l m,p∈x.S->q∈x.S->Ch x.up p l->Ch x.up q m->(x.zu p=x.zu q↔Ye l=Ye m)
noncomputable def zy(a:Nat->W×List Nat):List Nat->(W×List Nat->Option Nat)->List (Nat×Nat×Option ρ)->(W×List Nat->Option Nat)×List (Nat×Nat×Option ρ)
 |[],t,f=>(t,f)
 |u::r,t,f=>match t (a u)with
  |some v=>zy a r t (if v=u then f else f++[(u,v,Gp)])
  |none=>zy a r (λk=>if k=a u then Ga u else t k) f
theorem oj{b:Nat->W×List Nat}{t:W×List Nat->Option Nat}{f:List (Nat×Nat×Option ρ)}{k:W×List Nat}(h:t k/v):(zy b l t f).1 k/v:=by
 induction l generalizing t f with
 |nil=>exact h
 |cons u r a=>
  unfold zy;cases e:t (b u)with
  |some w=>exact a h
  |none=>exact a ((Gu λz=>by rw[z,e]at h;cases h).trans h)
theorem scan_keep{b:Nat->W×List Nat}{t:W×List Nat->Option Nat}{f:List (Nat×Nat×Option ρ)}{y}(h:y∈f):y∈(zy b l t f).2:=by
 induction l generalizing t f with
 |nil=>exact h
 |cons u r a=>
  unfold zy;cases e:t (b u)with
  |some w=>
   refine a ?_;split
   .exact h
   .exact Gv _ h
  |none=>exact a h
theorem Qwy{ky:Nat->W×List Nat}{t:W×List Nat->Option Nat}{f:List (Nat×Nat×Option ρ)}{u:Nat}(h:u∈l):∃v,(zy ky l t f).1 (ky u)/v/\(v=u\/(u,v,Gp)∈(zy ky l t f).2):=by
 induction l generalizing t f with
 |nil=>cases h
 |cons z r a=>
  unfold zy;rcases Td.mp h with rfl|h
  .cases e:t (ky u)with
   |some w=>
    exists w,oj e;by_cases hw:w=u
    .exact .inl hw
    .right;refine scan_keep ?_;rw[Gu hw];simp
   |none=>exact{u,oj (GY Xb),.inl Xb}
  .cases e:t (ky z)<;>exact a h
theorem ON{a:Nat->W×List Nat}{t:W×List Nat->Option Nat}{f:List (Nat×Nat×Option ρ)}{k:W×List Nat}(h:(zy a l t f).1 k/v):t k/v\/(v∈l/\k=a v):=by
 induction l generalizing t f with
 |nil=>exact .inl h
 |cons u r c=>
  unfold zy at h;cases e:t (a u)with
  |some w=>rw[e]at h;exact(c h).imp_right λh=>{Gr _ h.1,h.2}
  |none=>
   rw[e]at h;rcases c h with h|⟨d,g⟩
   .by_cases b:k=a u
    .cases(GY b).symm.trans h;exact .inr ⟨G8,b⟩
    .exact .inl ((Gu b).symm.trans h)
   .exact .inr {Gr _ d,g}
theorem rQ{c:Nat->W×List Nat}{t:W×List Nat->Option Nat}{f:List (Nat×Nat×Option ρ)}{r:Option ρ}(h:(a,b,r)∈(zy c l t f).2):(a,b,r)∈f\/(r=Gp/\a∈l/\(zy c l t f).1 (c a)/b):=by
 induction l generalizing t f with
 |nil=>exact .inl h
 |cons u l j=>
  unfold zy at h⊢;cases e:t (c u)with
  |some w=>
   rw[e]at h;rcases j h with h|⟨d,g,i⟩
   .split at h
    .exact .inl h
    .rcases Gi.mp h with h|h
     .exact .inl h
     .simp at h;have(rfl,rfl,rfl):=h;exact .inr {1,G8,oj e}
   .exact .inr {d,Gr _ g,i}
  |none=>
   rw[e]at h;rcases j h with h|⟨d,g,i⟩
   .exact .inl h
   .exact .inr {d,Gr _ g,i}
theorem scan_len{ky:Nat->W×List Nat}{t:W×List Nat->Option Nat}{f:List (Nat×Nat×Option ρ)}:⇑(zy ky l t f).2<=⇑f+⇑l:=by
 induction l generalizing t f with
 |nil=>exact Gy _
 |cons u l a=>
  unfold zy;cases e:t (ky u)with
  |some w=>refine Dj a ?_;split<;>simp<;>lia
  |none=>exact RJ a
noncomputable def Zj(x:ic W ρ)(a b:Nat):Nat->Nat:=λp=>if p∈x.mem a then b else x.zu p
noncomputable def Jh(wd:Nat->W)(pt:Nat->List Nat)(x:ic W ρ)(a b:Nat):ic W ρ×List (Nat×Nat×Option ρ):=
 ({x with zu:=Zj x a b,mem:=(λp=>if p=b then x.mem b++x.mem a else x.mem p),Xz:=(λp=>if p=b then x.Xz b++x.Xz a else x.Xz p),tab:=(zy (ρ:=ρ) (Zt wd pt (Zj x a b)) (x.Xz a) x.tab []).1},(zy (Zt wd pt (Zj x a b)) (x.Xz a) x.tab []).2)
noncomputable def iz(Xs:Nat->Nat->Option Nat)(a b n:Nat):Nat->Nat->Option Nat:=λp q=>if(p=a/\q=b)\/(p=b/\q=a)then Ga n else Xs p q
noncomputable def Y1(wd:Nat->W)(pt:Nat->List Nat)(x:ic W ρ)(a b:Nat)(r:Option ρ)(lo hi:Nat)(c:List Nat):ic W ρ×List (Nat×Nat×Option ρ):=
 Jh wd pt {x with zm:=x.zm++[(a,b,r)],Xs:=iz x.Xs a b ⇑x.zm,up:=Ws x.up hi c} (x.zu lo) (x.zu hi)
section
variable{wd:Nat->W}{pt:Nat->List Nat}{x:ic W ρ}{pend:List (Nat×Nat×Option ρ)}
theorem Q01{g:List (Nat×Nat×Option ρ)}{r:Option ρ}(c:Cn (g++[(a,b,r)]) p q):Cn g p q\/(Cn g p a/\Cn g b q)\/(Cn g p b/\Cn g a q):=by
 induction c with
 |refl p=>exact .inl (.refl p)
 |symm _ f=>
  rcases f with h|⟨d,e⟩|⟨d,e⟩
  .exact .inl (.symm h)
  .exact .inr (.inr {.symm e,.symm d})
  .exact .inr (.inl {.symm e,.symm d})
 |trans _ _ j l=>
  rcases j with h|⟨d,e⟩|⟨d,e⟩<;>rcases l with k|⟨i,f⟩|⟨i,f⟩
  .exact .inl (.trans h k)
  .exact .inr (.inl {.trans h i,f})
  .exact .inr (.inr {.trans h i,f})
  .exact .inr (.inl {d,.trans e k})
  .exact .inr (.inl ⟨d,f⟩)
  .exact .inl (.trans d f)
  .exact .inr (.inr {d,.trans e k})
  .exact .inl (.trans d f)
  .exact .inr (.inr ⟨d,f⟩)
 |link m=>
  rcases Gi.mp m with m|m
  .exact .inl (.link m)
  .simp at m;have(rfl,rfl,rfl):=m;exact .inr (.inl {.refl _,.refl _})
theorem Wy.Qw1(I:Wy wd pt x pend){g k:Nat}(b:g∈x.S)(a:x.zu g=g)(c:p∈x.S):Zj x g k p=if x.zu p=g then k else x.zu p:=by
 unfold Zj;by_cases h:x.zu p=g
 .rw[GY h,GY ((I.Qdg g b a p).mpr ⟨c,h⟩)]
 .rw[Gu h,Gu λz=>h ((I.Qdg g b a p).mp z).2]
end
variable{W ρ:Type}[DecidableEq W]
section
variable{wd:Nat->W}{pt:Nat->List Nat}{x:ic W ρ}{pend:List (Nat×Nat×Option ρ)}
theorem Wy.join(d:Wy wd pt x (pend++[(a,b,r)]))(ah:x.zu a≠x.zu b)(ad:(lo=a/\hi=b)\/(lo=b/\hi=a))(P:Ch x.up lo cl):
  Wy wd pt (Y1 wd pt x a b r lo hi cl).1 (pend++(Y1 wd pt x a b r lo hi cl).2)/\(∀p∈x.S,(Y1 wd pt x a b r lo hi cl).1.zu p=if x.zu p=x.zu lo then x.zu hi else x.zu p):=by
 have(J,K,ai):=d.pnd a b r ⋯;have ac:lo∈x.S:=by rcases ad with⟨c,_⟩|⟨c,_⟩<;>rw[c]<;>assumption
 have aa:hi∈x.S:=by rcases ad with⟨_,c⟩|⟨_,c⟩<;>rw[c]<;>assumption
 have V:x.zu lo≠x.zu hi:=by
  rcases ad with⟨f,g⟩|⟨f,g⟩<;>rw[f,g]
  .exact ah
  .exact GQ ah
 have(lh,ae):=d.fst.chain hi aa;have gS:=d.ld lo ac;have gg:=d.idem lo ac;have kS:=d.ld hi aa;have kk:=d.idem hi aa;generalize hG:x.zu lo=e at*;generalize hK:x.zu hi=k at*;have ab:(x.zu a=e/\x.zu b=k)\/(x.zu a=k/\x.zu b=e):=by
  rcases ad with⟨f,g⟩|⟨f,g⟩
  .left;rw[<-f,<-g];exact⟨hG,hK⟩
  .right;rw[<-f,<-g];exact⟨hK,hG⟩
 have o:∀p∈x.S,Zj x e k p=if x.zu p=e then k else x.zu p:=λp h=>d.Qw1 gS gg h;have eJ:Y1 wd pt x a b r lo hi cl=Jh wd pt {x with zm:=x.zm++[(a,b,r)],Xs:=iz x.Xs a b ⇑x.zm,up:=Ws x.up hi cl} e k:=by unfold Y1;rw[hG,hK]
 rw[eJ];have nC:¬Cn x.zm a b:=λX=>ah ((d.conn a J b K).mpr X);have U:∀p∈x.S,∀q∈x.S,x.zu p=x.zu q->Zj x e k p=Zj x e k q:=λp h q m j=>by rw[o p h,o q m,j]
 have LS:∀p∈x.S,Zj x e k p∈x.S:=λp h=>by
  rw[o p h];split
  .exact kS
  .exact d.ld p h
 have Lk:Zj x e k k=k:=by rw[o k kS,kk,Gu (GQ V)]
 have Li:∀p∈x.S,Zj x e k (Zj x e k p)=Zj x e k p:=λp h=>by
  by_cases c:x.zu p=e
  .rw[o p h,GY c,Lk]
  .rw[o p h,Gu c,o _ (d.ld p h),d.idem p h,Gu c]
 have Mp:∀p∈x.S,∀q∈x.S,(pt p).map x.zu=(pt q).map x.zu->(pt p).map (Zj x e k)=(pt q).map (Zj x e k):=λp h q m j=>by rw[og]at j⊢;exact{j.1,λi u v C I=>U u (d.pt_ p h u (Gc C)) v (d.pt_ q m v (Gc I)) (j.2 i u v C I)}
 have TS:∀ky u,(zy (ρ:=ρ) (Zt wd pt (Zj x e k)) (x.Xz e) x.tab []).1 ky/u->u∈x.S/\wd u=ky.1/\(∀q∈ky.2,q∈x.S)/\(pt u).map (Zj x e k)=ky.2.map (Zj x e k):=λky u c=>by
  rcases ON c with c|⟨f,g⟩
  .obtain⟨k1,k2,k3,k4⟩:=d.tabS ky u c;exists k1,k2,k3;rw[og]at k4⊢;exact{k4.1,λi E v C I=>U E (d.pt_ u k1 E (Gc C)) v (k3 v (Gc I)) (k4.2 i E v C I)}
  .have F:=d.Qlw e gS u f;subst g;exists F,1,λq m=>?_
   .obtain⟨E,Q,rfl⟩:=Tv.mp m;exact LS E (d.pt_ u F E Q)
   .show(pt u).map (Zj x e k)=((pt u).map (Zj x e k)).map (Zj x e k);rw[Ds];refine De λq m=>?_;exact(Li q (d.pt_ u F q m)).symm
 have dis:∀w∈lh,w∉cl:=λw hz af=>by
  have(m1,Y,M):=ae.nQ hz;have(m2,Z,H):=P.nQ af;have:Ye lh=Ye cl:=by rw[<-M,<-H,Y.uniq Z]
  exact V ((d.root lo hi cl lh ac aa P ae).mpr this.symm|>λj=>by rw[hG,hK]at j;exact j)
 have hh:Ch (Ws x.up hi cl) hi lh:=ae.uY dis;have R:∀p∈x.S,∀A,Ch x.up p A->∃l,Ch (Ws x.up hi cl) p l/\(x.zu p=e->Ye l=Ye lh)/\(x.zu p≠e->Ye l=Ye A):=λp h A L=>by
  by_cases c:∃w∈A,w∈cl
  .obtain⟨l,f,g⟩:=Qud P.nodup hh L c;refine{l,f,λ_=>g,λs=>?_};exfalso;have(w,hz,af):=c;have(m1,Y,M):=L.nQ hz;have(m2,Z,H):=P.nQ af;have:Ye A=Ye cl:=by rw[<-M,<-H,Y.uniq Z]
   exact s (by rw[<-hG];exact(d.root p lo A cl h ac L P).mpr this)
  .have f:Ch (Ws x.up hi cl) p A:=L.uY λw hz af=>c ⟨w,hz,af⟩;refine{A,f,λj=>?_,λ_=>rfl};exfalso;have:=(d.root p lo A cl h ac L P).mp (by rw[hG];exact j);have m1:Ye A∈A:=by have:=L.ne;unfold Ye;rw[LL,EF this];exact Bs this
   have m2:Ye cl∈cl:=by have:=P.ne;unfold Ye;rw[LL,EF this];exact Bs this
   exact c {_,m1,by rw[this];exact m2}
 have C1:∀p∈x.S,∀q∈x.S,(Zj x e k p=Zj x e k q↔Cn (x.zm++[(a,b,r)]) p q):=λp h q m=>by
  have mono:∀{u v:Nat},Cn x.zm u v->Cn (x.zm++[(a,b,r)]) u v:=λX=>X.mono λy hy=>Gv _ hy;have W:Cn (x.zm++[(a,b,r)]) a b:=.link (r:=r) ⋯;have F:∀u∈x.S,∀v∈x.S,x.zu u=e->x.zu v=k->Cn (x.zm++[(a,b,r)]) u v:=λu C v I M H=>by
   rcases ab with⟨f,g⟩|⟨f,g⟩
   .exact .trans (mono ((d.conn u C a J).mp (M.trans f.symm))) (.trans W (mono ((d.conn b K v I).mp (g.trans H.symm))))
   .exact .trans (mono ((d.conn u C b K).mp (M.trans g.symm))) (.trans (.symm W) (mono ((d.conn a J v I).mp (f.trans H.symm))))
  constructor
  .intro j;rw[o p h,o q m]at j;by_cases f:x.zu p=e<;>by_cases g:x.zu q=e
   .exact mono ((d.conn p h q m).mp (f.trans g.symm))
   .rw[GY f,Gu g]at j;exact F p h q m f j.symm
   .rw[Gu f,GY g]at j;exact .symm (F q m p h g j)
   .rw[Gu f,Gu g]at j;exact mono ((d.conn p h q m).mp j)
  .intro X;have E:Zj x e k a=Zj x e k b:=by
    rw[o a J,o b K];rcases ab with⟨f,g⟩|⟨f,g⟩
    .rw[GY f,Gu (by rw[g];exact GQ V),g]
    .rw[GY g,Gu (by rw[f];exact GQ V),f]
   rcases Q01 X with X|⟨Y,Z⟩|⟨Y,Z⟩
   .exact U p h q m ((d.conn p h q m).mpr X)
   .exact(U p h a J ((d.conn p h a J).mpr Y)).trans (E.trans (U b K q m ((d.conn b K q m).mpr Z)))
   .exact(U p h b K ((d.conn p h b K).mpr Y)).trans (E.symm.trans (U a J q m ((d.conn a J q m).mpr Z)))
 have tk:∀{n:Nat},n<=⇑x.zm->(x.zm++[(a,b,r)]).take n=x.zm.take n:=λc=>FG c;have gl:∀{n:Nat}{y},(x.zm++[(a,b,r)])[n]?/y->(n<⇑x.zm/\x.zm[n]?/y)\/(n=⇑x.zm/\y=(a,b,r)):=λ{n y}c=>by
  rcases Dn n ⇑x.zm with s|s
  .rw[Tz s]at c;exact .inl ⟨s,c⟩
  .rw[Dc s]at c;have:n - ⇑x.zm=0:=by have:=(Gg.mp c).1;simp at this;lia
   rw[this]at c;simp at c;exact .inr {by lia,c.symm}
 have aj:∀p q,Ws x.up hi cl p/q->x.up p/q\/(p=lo/\q=hi)\/x.up q/p:=λp q c=>by
  rcases Qmw P.nodup c with c|⟨z,j,H⟩|⟨G,N,j⟩
  .exact .inl c
  .obtain⟨F,E⟩:=P.head;rw[j]at E;cases E;exact .inr (.inl ⟨Xb,H⟩)
  .exact .inr (.inr (P.jU j))
 refine{{d.nd,d.pt_,LS,Li,λl S j p=>?_,λl S j=>?_,λl S p h=>?_,λp h q m=>?_,TS,λp h=>?_,λG N z c=>?_,{λp q c=>?_,λp q n c=>?_,λn p q z c=>?_,λn p q z c=>?_,λp h=>?_,λp q c=>?_},λn G N z c=>?_,C1,λp q l T h m f g=>?_},λp h=>o p h}
 ·
  have j:Zj x e k l=l:=j;have lg:x.zu l≠e:=λw=>by rw[o l S,GY w]at j;rw[<-j,kk]at w;exact V w.symm
  have ll:x.zu l=l:=by rw[o l S,Gu lg]at j;exact j
  show p∈(if l=k then x.mem k++x.mem e else x.mem l)↔p∈x.S/\Zj x e k p=l;by_cases B:l=k
  .rw[GY B,Gi,d.Qdg k kS kk,d.Qdg e gS gg];constructor
   .rintro(⟨f,g⟩|⟨f,g⟩)
    .exact{f,by rw[o p f,g,Gu (GQ V),B]}
    .exact{f,by rw[o p f,GY g,B]}
   .rintro⟨f,g⟩;rw[o p f]at g;by_cases O:x.zu p=e
    .exact .inr ⟨f,O⟩
    .rw[Gu O]at g;exact .inl {f,g.trans B}
  .rw[Gu B,d.Qdg l S ll];constructor
   .rintro⟨f,g⟩;exact{f,by rw[o p f,Gu (by rw[g,<-ll];exact lg),g]}
   .rintro⟨f,g⟩;rw[o p f]at g;by_cases O:x.zu p=e
    .rw[GY O]at g;exact absurd g.symm B
    .rw[Gu O]at g;exact⟨f,g⟩
 .have j:Zj x e k l=l:=j;have lg:x.zu l≠e:=λw=>by rw[o l S,GY w]at j;rw[<-j,kk]at w;exact V w.symm
  have ll:x.zu l=l:=by rw[o l S,Gu lg]at j;exact j
  show(if l=k then x.mem k++x.mem e else x.mem l).Nodup;by_cases B:l=k
  .rw[GY B,DO];refine{d.Qnq k kS kk,d.Qnq e gS gg,λu C v I w=>?_};subst w;have f:=((d.Qdg k kS kk u).mp C).2;have g:=((d.Qdg e gS gg u).mp I).2;exact V (g.symm.trans f)
  .rw[Gu B];exact d.Qnq l S ll
 .have h:p∈(if l=k then x.Xz k++x.Xz e else x.Xz l):=h;by_cases B:l=k
  .rw[GY B]at h;rcases Gi.mp h with c|c
   .exact d.Qlw k kS p c
   .exact d.Qlw e gS p c
  .rw[Gu B]at h;exact d.Qlw l S p h
 .show p∈(if Zj x e k q=k then x.Xz k++x.Xz e else x.Xz (Zj x e k q));have D:=d.Q0j p h q m;have E:=d.pt_ p h q m;by_cases c:x.zu q=e
  .rw[o q E,GY c,GY rfl];rw[c]at D;exact TL _ D
  .rw[o q E,Gu c];by_cases B:x.zu q=k
   .rw[GY B];rw[B]at D;exact Gv _ D
   .rw[Gu B];exact D
 ·
  show∃u,(zy (ρ:=ρ) (Zt wd pt (Zj x e k)) (x.Xz e) x.tab []).1 (Zt wd pt (Zj x e k) p)/u/\Cj x.S (Zj x e k) (pend++(zy (Zt wd pt (Zj x e k)) (x.Xz e) x.tab []).2) u p;by_cases c:∃q∈pt p,x.zu q=e
  .obtain⟨q,m,j⟩:=c;have C:=d.Q0j p h q m;rw[j]at C;have(v,f,g):=Qwy (ρ:=ρ) (ky:=Zt wd pt (Zj x e k)) (t:=x.tab) (f:=[]) C;exists v,f;rcases g with rfl|g
   .exact .zu h h rfl
   .exact .symm (.wait (r:=Gp) (TL _ g))
  .obtain⟨u,f,g⟩:=d.Qv7 p h;have E:Zt wd pt (Zj x e k) p=Zt wd pt x.zu p:=by unfold Zt;refine RT rfl (De λq m=>?_);rw[o q (d.pt_ p h q m),Gu λw=>c ⟨q,m,w⟩]
   refine{u,by rw[E];exact oj f,g.map (λp h q m j=>.zu h m (U p h q m j)) λp q z T=>?_};rcases Gi.mp T with T|T
   .exact .wait (Gv _ T)
   .simp at T;have(rfl,rfl,rfl):=T;exact .zu J K ((C1 _ J _ K).mpr (.link (r:=z) ⋯))
 ·
  rcases Gi.mp c with c|c
  .obtain⟨f,g,O⟩:=d.pnd G N z (Gv _ c);exact{f,g,λj=>{(O j).1,Mp G f N g (O j).2}}
  .rcases rQ (show(G,N,z)∈(zy (Zt wd pt (Zj x e k)) (x.Xz e) x.tab []).2 from c)with c|⟨f,g,O⟩
   .simp at c
   .have E:=d.Qlw e gS G g;have(k1,k2,k3,k4):=TS _ _ O;refine{E,k1,λ_=>{k2.symm,?_}};show(pt G).map (Zj x e k)=(pt N).map (Zj x e k);rw[k4];show _=((pt G).map (Zj x e k)).map (Zj x e k);rw[Ds];exact De λq m=>(Li q (d.pt_ G E q m)).symm
 ·
  show∃n,iz x.Xs a b ⇑x.zm p q/n;unfold iz;by_cases s:(p=a/\q=b)\/(p=b/\q=a)
  .exact{_,GY s}
  .rw[Gu s];rcases aj p q c with c|⟨M,H⟩|c
   .exact d.fst.jU p q c
   .exfalso;apply s;rcases ad with⟨f,g⟩|⟨f,g⟩
    .exact .inl {M.trans f,H.trans g}
    .exact .inr {M.trans f,H.trans g}
   .obtain⟨n,s⟩:=d.fst.jU q p c;exact{n,d.fst.qU s}
 .have c:iz x.Xs a b ⇑x.zm p q/n:=c;unfold iz at c;show∃z,(x.zm++[(a,b,r)])[n]?/(p,q,z)\/(x.zm++[(a,b,r)])[n]?/(q,p,z);by_cases s:(p=a/\q=b)\/(p=b/\q=a)
  .rw[GY s]at c;cases c;exists r;rcases s with⟨rfl,rfl⟩|⟨rfl,rfl⟩
   .left;simp
   .right;simp
  .rw[Gu s]at c;obtain⟨z,c|c⟩:=d.fst.Qih p q n c
   .exact{z,.inl (by rw[Tz (Gg.mp c).1];exact c)}
   .exact{z,.inr (by rw[Tz (Gg.mp c).1];exact c)}
 .show iz x.Xs a b ⇑x.zm p q/n/\iz x.Xs a b ⇑x.zm q p/n;rcases gl c with⟨s,W⟩|⟨s,c⟩
  .have no:¬((p=a/\q=b)\/(p=b/\q=a)):=by
    rintro(⟨rfl,rfl⟩|⟨rfl,rfl⟩)
    .exact nC (.link (Gc W))
    .exact nC (.symm (.link (Gc W)))
   have ag:¬((q=a/\p=b)\/(q=b/\p=a)):=λw=>no (w.elim (λ⟨E,F⟩=>.inr ⟨F,E⟩) λ⟨E,F⟩=>.inl ⟨F,E⟩);unfold iz;rw[Gu no,Gu ag];exact d.fst.all n p q z W
  .simp only[EJ]at c;have(rfl,rfl,rfl):=c;subst s;unfold iz;exact{GY (.inl ⟨Xb,Xb⟩),GY (.inr ⟨Xb,Xb⟩)}
 .show¬Cn ((x.zm++[(a,b,r)]).take n) p q;rcases gl c with⟨s,c⟩|⟨s,c⟩
  .rw[tk (by lia)];exact d.fst.sep n p q z c
  .simp only[EJ]at c;have(rfl,rfl,rfl):=c;rw[tk (by lia),s,Tu];exact nC
 .obtain⟨A,L⟩:=d.fst.chain p h;have(l,f,_):=R p h A L;exact⟨l,f⟩
 .rcases aj p q c with c|⟨M,H⟩|c
  .exact d.fst.inS p q c
  .rw[M,H];exact⟨ac,aa⟩
  .exact(d.fst.inS q p c).symm
 .show G∈x.S/\N∈x.S/\(z=Gp->wd G=wd N/\oY (Cn ((x.zm++[(a,b,r)]).take n)) (pt G) (pt N));rcases gl c with⟨s,c⟩|⟨s,c⟩
  .rw[tk (by lia)];exact d.lnk n G N z c
  .simp only[EJ]at c;have(rfl,rfl,rfl):=c;rw[tk (by lia),s,Tu];refine{J,K,λj=>{(ai j).1,?_}};have t:=og.mp (ai j).2;exact{t.1,λi u v C I=>(d.conn u (d.pt_ _ J u (Gc C)) v (d.pt_ _ K v (Gc I))).mp (t.2 i u v C I)}
 .show Zj x e k p=Zj x e k q↔Ye l=Ye T;have(A,L):=d.fst.chain p h;have(F,E):=d.fst.chain q m;have(l',p1,p2,p3):=R p h A L;have(m',q1,q2,q3):=R q m F E;have el:=Ch.uniq (show Ch (Ws x.up hi cl) p l from f) p1;have em:=Ch.uniq (show Ch (Ws x.up hi cl) q T from g) q1;subst el em;have rp:=d.root p hi A lh h aa L ae;have W:=d.root q hi F lh m aa E ae;rw[hK]at rp W;rw[o p h,o q m];by_cases D:x.zu p=e<;>by_cases Q:x.zu q=e
  .rw[GY D,GY Q,p2 D,q2 Q];exact{λ_=>rfl,λ_=>rfl}
  .rw[GY D,Gu Q,p2 D,q3 Q];exact{λj=>(W.mp j.symm).symm,λj=>(W.mpr j.symm).symm}
  .rw[Gu D,GY Q,p3 D,q2 Q];exact rp
  .rw[Gu D,Gu Q,p3 D,q3 Q];exact d.root p q A F h m L E
end
variable{W ρ:Type}[DecidableEq W]
section
variable{wd:Nat->W}{pt:Nat->List Nat}{x:ic W ρ}{pend pend':List (Nat×Nat×Option ρ)}
theorem Wy.vV(I:Wy wd pt x pend)(f:∀p q r,(p,q,r)∈pend->Cj x.S x.zu pend' p q)(g:∀a b r,(a,b,r)∈pend'->a∈x.S/\b∈x.S/\(r=Gp->wd a=wd b/\(pt a).map x.zu=(pt b).map x.zu)):Wy wd pt x pend':=
 {I.nd,I.pt_,I.ld,I.idem,I.Qdg,I.Qnq,I.Qlw,I.Q0j,I.tabS,λp d=>by have(u,e,c):=I.Qv7 p d;exact{u,e,c.map (λp d q a e=>.zu d a e) f},g,I.fst,I.lnk,I.conn,I.root}
theorem Wy.drop{r:Option ρ}(I:Wy wd pt x (pend++[(a,b,r)]))(e:x.zu a=x.zu b):Wy wd pt x pend:=by
 have(f,h,_):=I.pnd a b r ⋯;refine I.vV (λp q c m=>?_) λd g c m=>I.pnd d g c (Gv _ m);rcases Gi.mp m with m|m
 .exact .wait m
 .simp at m;have(rfl,rfl,rfl):=m;exact .zu f h e
theorem Wy.cong(I:Wy wd pt x [])(c:p∈x.S)(d:q∈x.S)(e:Zt wd pt x.zu p=Zt wd pt x.zu q):x.zu p=x.zu q:=by have(u,a,b):=I.Qv7 p c;have(v,f,g):=I.Qv7 q d;rw[e,f]at a;cases a;exact b.nil.symm.trans g.nil
structure Ec(wd:Nat->W)(pt:Nat->List Nat)(S:List Nat)(E:Nat->Nat->Prop):Prop where
 refl:∀p,E p p
 symm:∀p q,E p q->E q p
 trans:∀p q r,E p q->E q r->E p r
 cong:∀p∈S,∀q∈S,wd p=wd q->oY E (pt p) (pt q)->E p q
def ij(E:Nat->Nat->Prop)(x:ic W ρ)(pend:List (Nat×Nat×Option ρ)):Prop:=(∀p∈x.S,∀q∈x.S,x.zu p=x.zu q->E p q)/\∀a b r,(a,b,r)∈pend->E a b
theorem ij.join{E:Nat->Nat->Prop}{a b:Nat}{r:Option ρ}(H:ij E x (pend++[(a,b,r)]))(X:Ec wd pt x.S E)(I:Wy wd pt x (pend++[(a,b,r)]))(F:x.zu a≠x.zu b){d hi:Nat}{l:List Nat}(g:(d=a/\hi=b)\/(d=b/\hi=a))(O:Ch x.up d l):
  ij E (Y1 wd pt x a b r d hi l).1 (pend++(Y1 wd pt x a b r d hi l).2):=by
 have(J,L):=I.join F g O;have(P,Q,_):=I.pnd a b r ⋯;have n:E a b:=H.2 a b r ⋯;have G:d∈x.S:=by rcases g with⟨h,_⟩|⟨h,_⟩<;>rw[h]<;>assumption
 have D:hi∈x.S:=by rcases g with⟨_,h⟩|⟨_,h⟩<;>rw[h]<;>assumption
 have C:E d hi:=by
  rcases g with⟨c,f⟩|⟨c,f⟩<;>rw[c,f]
  .exact n
  .exact X.symm _ _ n
 have M:∀u∈x.S,∀v∈x.S,x.zu u=x.zu d->x.zu v=x.zu hi->E u v:=λu w v y A B=>X.trans _ _ _ (H.1 u w d G A) (X.trans _ _ _ C (H.1 hi D v y B.symm));have K:∀p∈x.S,∀q∈x.S,(Y1 wd pt x a b r d hi l).1.zu p=(Y1 wd pt x a b r d hi l).1.zu q->E p q:=λp o q s e=>by
  rw[L p o,L q s]at e;by_cases c:x.zu p=x.zu d<;>by_cases f:x.zu q=x.zu d
  .exact H.1 p o q s (c.trans f.symm)
  .rw[GY c,Gu f]at e;exact M p o q s c e.symm
  .rw[Gu c,GY f]at e;exact X.symm _ _ (M q s p o f e)
  .rw[Gu c,Gu f]at e;exact H.1 p o q s e
 refine{K,λj k z m=>?_};rcases Gi.mp m with h|h
 .exact H.2 j k z (Gv _ h)
 .obtain⟨c,f,N⟩:=J.pnd j k z m;have rn:z=Gp:=by
   rcases rQ (show(j,k,z)∈(zy _ _ _ []).2 from h)with h|⟨c,_⟩
   .simp at h
   .exact c
  have(A,B):=N rn;have t:=og.mp B;exact X.cong j c k f A {t.1,λi u v w y=>K u (I.pt_ j c u (Gc w)) v (I.pt_ k f v (Gc y)) (t.2 i u v w y)}
theorem Qmj{r:Option ρ}{d e:Nat}{c:Option ρ}(h:(d,e,c)∈(Y1 wd pt x a b r lo hi cl).2):c=Gp:=by
 rcases rQ (show(d,e,c)∈(zy _ _ _ []).2 from h)with h|⟨f,_⟩
 .simp at h
 .exact f
noncomputable def cls(x:ic W ρ):Nat:=x.S.countP λp=>decide (x.zu p=p)
noncomputable def Ji(x:ic W ρ):Nat:=(x.S.map λp=>if x.zu p=p then ⇑(x.Xz p) else 0).sum
theorem Qu7:∀{S:List Nat},(∀p∈S,f p=f' p)->(S.map f).sum=(S.map f').sum:=λh=>by rw[De h]
theorem wc{u:Nat}(nd:S.Nodup)(b:v∈S)(c:u∉S)(d:∀p∈S,p≠u->p≠v->f' p=f p):(S.map f').sum+f v=(S.map f).sum+f' v:=by
 induction S with
 |nil=>cases b
 |cons z s e=>
  rw[Dw]at nd;simp only[Td,not_or]at c;simp only[TC,FC];rcases Td.mp b with rfl|b
  .have:(s.map f').sum=(s.map f).sum:=Qu7 λp a=>d p (Gr _ a) (λz=>c.2 (z▸a)) (λz=>nd.1 (z▸a));lia
  .have:=e nd.2 b c.2 λp a=>d p (Gr _ a);have g:=d z G8 (GQ c.1) (λy=>nd.1 (y▸b));lia
theorem K8{g k:Nat}(c:g≠k)(nd:S.Nodup)(j:g∈S)(l:k∈S)(e:f' g+f' k=f g+f k)(h:∀p∈S,p≠g->p≠k->f' p=f p):(S.map f').sum=(S.map f).sum:=by
 induction S with
 |nil=>cases j
 |cons x r m=>
  rw[Dw]at nd;simp only[TC,FC];by_cases a:x=g
  .subst a;have:=wc nd.2 ((Td.mp l).resolve_left (GQ c)) nd.1 λp d e i=>h p (Gr _ d) e i;lia
  .by_cases b:x=k
   .subst b;have:=wc nd.2 ((Td.mp j).resolve_left c) nd.1 λp d e i=>h p (Gr _ d) i e;lia
   .have:=m nd.2 ((Td.mp j).resolve_left (GQ a)) ((Td.mp l).resolve_left (GQ b)) λp d=>h p (Gr _ d);have:=h x G8 a b;lia
theorem sy(h:p∈S):f p<=(S.map f).sum:=by
 induction h with
 |head=>exact DM _ _
 |tail _ _ a=>exact Dj a (BB _ _)
theorem Wy.less{r:Option ρ}(I:Wy wd pt x (pend++[(a,b,r)]))(i:x.zu a≠x.zu b)(d:(lo=a/\hi=b)\/(lo=b/\hi=a))(v:Ch x.up lo cl):
  cls (Y1 wd pt x a b r lo hi cl).1<cls x/\Ji (Y1 wd pt x a b r lo hi cl).1=Ji x/\⇑(Y1 wd pt x a b r lo hi cl).2<=Ji x/\⇑(Y1 wd pt x a b r lo hi cl).1.zm=⇑x.zm+1:=by
 have(J,L):=I.join i d v;have(w,y,_):=I.pnd a b r ⋯;have n:lo∈x.S:=by rcases d with⟨h,_⟩|⟨h,_⟩<;>rw[h]<;>assumption
 have m:hi∈x.S:=by rcases d with⟨_,h⟩|⟨_,h⟩<;>rw[h]<;>assumption
 have c:x.zu lo≠x.zu hi:=by
  rcases d with⟨j,g⟩|⟨j,g⟩<;>rw[j,g]
  .exact i
  .exact GQ i
 have l:=I.ld lo n;have q:=I.idem lo n;have t:=I.ld hi m;have s:=I.idem hi m;have f:∀p∈x.S,(Y1 wd pt x a b r lo hi cl).1.zu p=p->x.zu p=p/\p≠x.zu lo:=λp k e=>by
  rw[L p k]at e;by_cases h:x.zu p=x.zu lo
  .rw[GY h]at e;rw[<-e,s]at h;exact absurd h.symm c
  .rw[Gu h]at e;exact{e,λz=>h (by rw[e];exact z)}
 refine{Sb.yt (λp k e=>Tk (f p k (Dp e)).1) {x.zu lo,l,Tk q,Tj λz=>(f _ l z).2 Xb},?_,?_,by simp[Y1,Jh]}
 .refine K8 c I.nd l t ?_ λp k j g=>?_
  .have o:¬(Y1 wd pt x a b r lo hi cl).1.zu (x.zu lo)=x.zu lo:=λz=>(f _ l z).2 rfl;have u:(Y1 wd pt x a b r lo hi cl).1.zu (x.zu hi)=x.zu hi:=by rw[L _ t,s,Gu (GQ c)]
   rw[Gu o,GY u,GY q,GY s];have:(Y1 wd pt x a b r lo hi cl).1.Xz (x.zu hi)=x.Xz (x.zu hi)++x.Xz (x.zu lo):=by simp[Y1,Jh]
   rw[this,Gs];lia
  .have:(Y1 wd pt x a b r lo hi cl).1.Xz p=x.Xz p:=by simp[Y1,Jh,g]
   rw[this];by_cases e:x.zu p=p
   .have o:(Y1 wd pt x a b r lo hi cl).1.zu p=p:=by rw[L p k,Gu (by rw[e];exact j),e]
    rw[GY e,GY o]
   .have o:¬(Y1 wd pt x a b r lo hi cl).1.zu p=p:=λz=>e (f p k z).1;rw[Gu e,Gu o]
 .have j:=scan_len (ρ:=ρ) (ky:=Zt wd pt (Zj {x with zm:=x.zm++[(a,b,r)],Xs:=iz x.Xs a b ⇑x.zm,up:=Ws x.up hi cl} (x.zu lo) (x.zu hi))) (l:=x.Xz (x.zu lo)) (t:=x.tab) (f:=[]);have g:=sy (f:=λp=>if x.zu p=p then ⇑(x.Xz p) else 0) l;simp only[q,GY]at g;refine Dj j (by simpa[Ji]using g)
end
variable{W ρ:Type}[DecidableEq W]
noncomputable def Xo(pt:Nat->List Nat)(S:List Nat)(q:Nat):List Nat:=S.flatMap λp=>D4 ((pt p).count q) p
noncomputable def jA(wd:Nat->W)(pt:Nat->List Nat)(S:List Nat)(k:W×List Nat):Option Nat:=S.find? λp=>decide (Zt wd pt id p=k)
noncomputable def fresh(wd:Nat->W)(pt:Nat->List Nat)(S:List Nat):ic W ρ:={S,id,λp=>[p],Xo pt S,jA wd pt S,[],λ_ _=>Gp,λ_=>Gp}
theorem Q42{α:Type}(c:Cn (α:=α) [] p q):p=q:=by
 induction c with
 |refl _=>rfl
 |symm _ a=>exact a.symm
 |trans _ _ a b=>exact a.trans b
 |link m=>simp at m
theorem Qrf{b:Nat->W}{a:Nat->List Nat}(nd:S.Nodup)(j:∀p∈S,∀q∈a p,q∈S)(inj:∀p∈S,∀q∈S,b p=b q->a p=a q->p=q):Wy (ρ:=ρ) b a (fresh b a S) [] where
 nd:=nd
 pt_:=j
 ld:=λp h=>h
 idem:=λ_ _=>rfl
 Qdg:=λl r _ p=>by show p∈[l]↔p∈S/\p=l;simp only[Tf];exact{λe=>{e▸r,e},λe=>e.2}
 Qnq:=λl _ _=>by simp[fresh]
 Qlw:=λl _ p g=>by have(u,n,h):=Ey.mp g;rw[RH]at h;rw[h.2];exact n
 Q0j:=λp g q i=>Ey.mpr {p,g,RH.mpr {by have:=List.count_pos_iff.mpr i;show(a p).count q≠0;lia,1}}
 tabS:=λk u h=>by
  have h:S.find? (λp=>decide (Zt b a id p=k))/u:=h;have d:=Sz h;have f:Zt b a id u=k:=Dp (by simpa using FM h);subst f;exists d,1,λq i=>?_
  .simp only[Zt,FH]at i;exact j u d q i
  .simp[Zt,fresh]
 Qv7:=λp g=>by
  show∃u,S.find? (λq=>decide (Zt b a id q=Zt b a id p))/u/\_;cases e:S.find? (λq=>decide (Zt b a id q=Zt b a id p))with
  |none=>have:=Fa.mp e p g;simp at this
  |some u=>have d:=Sz e;have f:Zt b a id u=Zt b a id p:=Dp (by simpa using FM e);simp only[Zt,FH,EJ]at f;exact{u,1,.zu d g (inj u d p g f.1 f.2)}
 pnd:=λ_ _ _ h=>by simp at h
 fst:={λ_ _ h=>by simp[fresh]at h,λ_ _ _ h=>by simp[fresh]at h,λ_ _ _ _ h=>by simp[fresh]at h,λ_ _ _ _ h=>by simp[fresh]at h,λp _=>{[p],.top Xb},λ_ _ h=>by simp[fresh]at h}
 lnk:=λ_ _ _ _ h=>by simp[fresh]at h
 conn:=λp _ q _=>{λ(e:p=q)=>by subst e;exact .refl _,λc=>Q42 c}
 root:=λp q l m _ _ d f=>by have n:l=[p]:=d.uniq (.top Xb);have o:m=[q]:=f.uniq (.top Xb);subst n o;simp[Ye,fresh]
theorem Qvu(a:Nat->List Nat)(S:List Nat)(p q:Nat):Xo a (S++[p]) q=Xo a S q++D4 ((a p).count q) p:=by simp[Xo]
theorem VZ(b:Nat->W)(a:Nat->List Nat)(c:∀q∈S,Zt b a id q≠Zt b a id p)(k:W×List Nat):jA b a (S++[p]) k=if k=Zt b a id p then Ga p else jA b a S k:=by
 unfold jA;rw[Ba];by_cases h:k=Zt b a id p
 .rw[GY h];have:S.find? (λp=>decide (Zt b a id p=k))=Gp:=Fa.mpr λq d=>by have:=c q d;simp[h,this]
  rw[this];simp[h]
 .rw[Gu h];have:[p].find? (λp=>decide (Zt b a id p=k))=Gp:=by simp[GQ h]
  rw[this,Option.or_none]
end Nt
namespace Sb
open PySem PySem.Spec PyProof.Rows L2 Nt
variable{p:Nat}{S:List Nat}{f:Nat->V}{v:V}{H:Hp}{b:Ge}
def ki(p:Nat):Wl:=.inl (p:Int)
noncomputable def dS(S:List Nat)(f:Nat->V):List (Wl×V):=S.map λp=>(ki p,f p)
theorem Ii{q:Nat}(h:ki p=ki q):p=q:=by unfold ki at h;injection h with h;lia
theorem VW(p:Nat):kV (ki p)=jv p:=rfl
theorem kz(h:p∈S):Xq (dS S f) (ki p)/f p:=by
 induction S with
 |nil=>simp at h
 |cons q r b=>
  by_cases e:q=p
  .subst e;exact We (p:=(ki q,f q)) rfl
  .have a:¬(ki q=ki p):=λz=>e (Ii z);show Xq ((ki q,f q)::dS r f) (ki p)=_;rw[X6 (p:=(ki q,f q)) a];exact b ((Td.mp h).resolve_left λz=>e z.symm)
theorem qX(h:p∉S):Xq (dS S f) (ki p)=Gp:=by
 induction S with
 |nil=>exact ql
 |cons q r b=>simp only[Td,not_or]at h;have a:¬(ki q=ki p):=λz=>h.1 (Ii z).symm;show Xq ((ki q,f q)::dS r f) (ki p)=_;rw[X6 (p:=(ki q,f q)) a];exact b h.2
theorem Kv:(Xq (dS S f) (ki p)).isSome=decide (p∈S):=by
 by_cases h:p∈S
 .rw[kz h,Tk h];rfl
 .rw[qX h,Tj h];rfl
theorem V4(S:List Nat)(f:Nat->V):⇑(dS S f)=⇑S:=by simp[dS]
theorem si(h:p∈S):V7 (dS S f) (ki p) v=dS S (λq=>if q=p then v else f q):=by
 unfold V7;have a:((dS S f).any λb=>decide (b.1=ki p))=Gk:=by rw[Jx,kz h];rfl
 rw[GY a];unfold dS;rw[Ds];refine De λq _=>?_;show(if ki q=ki p then(ki q,v)else(ki q,f q))=(ki q,if q=p then v else f q);by_cases e:q=p
 .subst e;rw[GY Xb,GY rfl]
 .rw[Gu (λz=>e (Ii z)),Gu e]
theorem kL(h:p∉S):V7 (dS S f) (ki p) v=dS (S++[p]) (λq=>if q=p then v else f q):=by rw[Qws _ (qX h)];unfold dS;rw[T3,TC,FX];show _=_++[(ki p,if p=p then v else f p)];rw[GY rfl];congr 1;refine De λq a=>?_;show _=(ki q,if q=p then v else f q);rw[Gu (λz:q=p=>h (z▸a))]
theorem Vt{g:Nat->V}(h:∀p∈S,f p=g p):dS S f=dS S g:=De λp a=>by rw[h p a]
inductive Ia where
 |told (n:Nat)
 |asked
def kM(H:Hp)(v:V):Option Ia->Prop
 |none=>v=.non
 |some (.told n)=>∃c,v=.ref c/\H c/.tup [.str "told",jv n]
 |some .asked=>∃c,v=.ref c/\H c/.tup [.str "asked"]
theorem kM.Qv{a:Hp}(e:Q8 H a){r:Option Ia}(h:kM H v r):kM a v r:=by
 cases r with
 |none=>exact h
 |some r=>cases r<;>(have(c,b,d):=h;exact{c,b,e _ _ d})
abbrev Lk:=Nat×Nat×Option Ia
inductive Og(H:Hp)(v:V)(l:Lk):Prop
 |mk (c:_) (r:_) (h0:v=↑c) (h1:H c/.tup [jv l.1,jv l.2.1,r]) (h2:kM H r l.2.2):Og H v l
theorem Og.Qv{H a:Hp}(e:Q8 H a){v:V}{l:Lk}(h:Og H v l):Og a v l:=by have(c,r,b,d,f):=h;exact{c,r,b,e _ _ d,f.Qv e}
abbrev Nn:=ic TQ Ia
def Yu(fs:List Fm)(p:Nat):TQ:=(fs.getD p (Lu,[])).1
def Zx(fs:List Fm)(p:Nat):List Nat:=(fs.getD p (Lu,[])).2
theorem la{a:List Fm}(h:p<⇑a):a[p]?/(Yu a p,Zx a p):=by unfold Yu Zx;rw[DR,Gf h];rfl
set_option genInjectivity false in
structure Na where
 f:Ge
 l:Ge
 m:Ge
 u:Ge
 t:Ge
 k:Ge
 a:Ge
 v:Ge
 ml:Nat->Ge
 ul:Nat->Ge
noncomputable def Xr(A:Na):List (TQ×V):=[("forms",↑A.f),("leads",↑A.l),("members",↑A.m),("users",↑A.u),("table",↑A.t),("links",↑A.k),("link_at",↑A.a),("above",↑A.v)]
def ov:Option Nat->V
 |none=>.non
 |some p=>jv p
structure Ap(A:Na)(S:List Nat):Prop where
 lm:A.l≠A.m
 lu:A.l≠A.u
 lv:A.l≠A.v
 mu:A.m≠A.u
 mv:A.m≠A.v
 uv:A.u≠A.v
 kf:A.k≠A.f
 mm:∀p∈S,∀q∈S,A.ml p=A.ml q->p=q
 uu:∀p∈S,∀q∈S,A.ul p=A.ul q->p=q
 mul:∀p∈S,∀q∈S,A.ml p≠A.ul q
 mkf:∀p∈S,A.ml p≠A.k/\A.ml p≠A.f
 ukf:∀p∈S,A.ul p≠A.k/\A.ul p≠A.f
structure Yk(P:Gn)(w:Ti)(C:Ge)(H:Hp)(n:Ge)(A:Na)(fs:List Fm)(tb:Nat)(x:Nn):Prop where
 ob:∃dx,H n/.ins C dx (Xr A)
 fo:∃ws,H A.f/.lst ws/\Dm (I0 H) ws fs
 le:H A.l/.dK (dS x.S λp=>jv (x.zu p))
 me:H A.m/.dK (dS x.S λp=>.ref (A.ml p))
 us:H A.u/.dK (dS x.S λp=>.ref (A.ul p))
 ta:∃zw,DH P w H A.t zw/\⇑zw<=tb/\∀k:Fm,Yp zw (Y2 k)=(x.tab k).map jv
 li:∃ls,H A.k/.lst ls/\Dm (Og H) ls x.zm
 at_:∃zw,H A.a/.dT zw/\⇑zw<=2*⇑x.zm/\∀i j:Nat,Xq zw [ki i,ki j]=(x.Xs i j).map jv
 ab:H A.v/.dK (dS x.S λp=>ov (x.up p))
 ml:∀p∈x.S,H (A.ml p)/.lst ((x.mem p).map jv)
 ul:∀p∈x.S,H (A.ul p)/.lst ((x.Xz p).map jv)
 ap:Ap A x.S
def hX(A:Na)(S:List Nat)(b:Ge):Prop:=b=A.l\/b=A.m\/b=A.u\/b=A.t\/b=A.k\/b=A.a\/b=A.v\/∃p∈S,b=A.ml p\/b=A.ul p
structure Ot(A:Na)(S:List Nat)(H H':Hp):Prop where
 keep:∀b o,H b/o->¬hX A S b->H' b/o
 there:∀b,H' b=Gp->H b=Gp
theorem Ot.trans{A:Na}{a c:Hp}(x:Ot A S H a)(y:Ot A S a c):Ot A S H c:={λb o e h=>y.keep b o (x.keep b o e h) h,λb h=>x.there b (y.there b h)}
theorem Ot.of{A:Na}{a:Hp}(g:Q5 H a):Ot A S H a:={λb o e _=>g b o e,λb h=>g.free h}
theorem Ot.zj{A:Na}{S:List Nat}{H:Hp}{b:Ge}{o:HO}(h:hX A S b):Ot A S H (zj H b o):=⟨λc u e a=>by rw[Qh (show c≠b fromλz=>a (by rw[z];exact h))];exact e,λc a=>by
 by_cases e:c=b
 .subst e;rw[Qb]at a;cases a
 .rw[Qh e]at a;exact a⟩
section
variable{P:Gn}{w:Ti}{C:Ge}{H H':Hp}{n:Ge}{A:Na}{fs:List Fm}{tb:Nat}{x:Nn}
theorem Yk.own(X:Yk P w C H n A fs tb x)(h:hX A x.S b):(∃a,H b/.dK a)\/(∃a,H b/.dT a)\/(∃o,H b/.ext o)\/∃d,H b/.lst d:=by
 have(a,D,_):=X.ta;have(f,L,_):=X.li;have(e,T,_):=X.at_;rcases h with rfl|rfl|rfl|rfl|rfl|rfl|rfl|⟨p,c,rfl|rfl⟩
 .exact .inl {_,X.le}
 .exact .inl {_,X.me}
 .exact .inl {_,X.us}
 .exact .inr (.inr (.inl {_,D.at_}))
 .exact .inr (.inr (.inr {_,L}))
 .exact .inr (.inl {_,T})
 .exact .inl {_,X.ab}
 .exact .inr (.inr (.inr {_,X.ml p c}))
 .exact .inr (.inr (.inr {_,X.ul p c}))
theorem Yk.qb(X:Yk P w C H n A fs tb x){a:List V}(h:H b/.tup a):¬hX A x.S b:=λz=>by rcases X.own z with⟨_,e⟩|⟨_,e⟩|⟨_,e⟩|⟨_,e⟩<;>rw[h]at e<;>cases e
theorem Yk.QK(X:Yk P w C H n A fs tb x)(h:H b=Gp):¬hX A x.S b:=λz=>by rcases X.own z with⟨_,e⟩|⟨_,e⟩|⟨_,e⟩|⟨_,e⟩<;>rw[h]at e<;>cases e
theorem Yk.same(g:Q5 H H')(X:Yk P w C H n A fs tb x):Yk P w C H' n A fs tb x:=by have(j,s):=X.ob;have(t,k,l):=X.fo;have(b,D,f,i):=X.ta;have(r,o,q):=X.li;have(m,d,e):=X.at_;have c:=Q8.of g;exact{{j,g _ _ s},{t,g _ _ k,Qr l λ_ _ h=>h.Qv c},g _ _ X.le,g _ _ X.me,g _ _ X.us,{b,{g _ _ D.at_,Zf c D.keys},f,i},{r,g _ _ o,Qr q λ_ _ h=>h.Qv c},{m,g _ _ d,e},g _ _ X.ab,λp a=>g _ _ (X.ml p a),λp a=>g _ _ (X.ul p a),X.ap}
theorem Yk.keep(X:Yk P w C H n A fs tb x)(a:∀b o,H b/o->(hX A x.S b\/b=A.f\/b=n)->H' b/o)(d:Q8 H H'):Yk P w C H' n A fs tb x:=by
 have(j,s):=X.ob;have(t,k,l):=X.fo;have(c,D,g,i):=X.ta;have(r,o,q):=X.li;have(m,e,f):=X.at_;refine⟨{j,a _ _ s (.inr (.inr Xb))},{t,a _ _ k (.inr (.inl Xb)),Qr l λ_ _ h=>h.Qv d},a _ _ X.le (.inl (.inl Xb)),a _ _ X.me (.inl (.inr (.inl Xb))),a _ _ X.us (.inl (.inr (.inr (.inl Xb)))),{c,{a _ _ D.at_ (.inl (.inr (.inr (.inr (.inl Xb))))),Zf d D.keys},g,i},
  {r,a _ _ o (.inl (.inr (.inr (.inr (.inr (.inl Xb)))))),Qr q λ_ _ h=>h.Qv d},{m,a _ _ e (.inl (.inr (.inr (.inr (.inr (.inr (.inl Xb))))))),f},a _ _ X.ab (.inl (.inr (.inr (.inr (.inr (.inr (.inr (.inl Xb)))))))),λp b=>?_,λp b=>?_,X.ap⟩
 .exact a _ _ (X.ml p b) (.inl (.inr (.inr (.inr (.inr (.inr (.inr (.inr {p,b,.inl Xb}))))))))
 .exact a _ _ (X.ul p b) (.inl (.inr (.inr (.inr (.inr (.inr (.inr (.inr {p,b,.inr Xb}))))))))
theorem Yk.mono{a:Nat}(h:tb<=a)(X:Yk P w C H n A fs tb x):Yk P w C H n A fs a x:=by have(b,D,d,c):=X.ta;exact{X.ob,X.fo,X.le,X.me,X.us,{b,D,by ext,c},X.li,X.at_,X.ab,X.ml,X.ul,X.ap}
end
end Sb
namespace L2
open PySem PySem.Spec PyProof.Rows
variable{X:Cx}{σ:St}{H:Hp}
inductive zE(P:Gn)(w:Ti)(x:V)(vs:List V)(H:Hp)(Q:VK):Prop
 |mk (d:_) (b:_) (dv:_) (zw:_) (k:_) (h0:x=↑d) (h1:vs=[↑b,dv]) (h2:DH P w H d zw) (h3:iw H b k) (h4:⇑zw<TF) (h5:(∀v,Yp zw k/v->Q v H)) (h6:(Yp zw k=Gp->Q dv (zj H d (Ut P w d (zw++[(k,b,dv)]))))):zE P w x vs H Q
def Qvn(P:Gn)(w:Ti):V->List V->Hp->VK->Prop:=λx a H Q=>zE P w x a H Q
theorem OD(a:X.A.units+64<E3):i4 X "dict.setdefault" (Qvn X.prog X.w):=by
 intro o s Y H x W v V Q I R P h;have(d,b,i,a,k,rfl,rfl,D,G,U,M,N):=h;cases(show v=Tq d from R);have(S,t,rfl,O,r):=vals2 P;cases(show S=Tq b from O);have(z,m,j,c,l):=kI I D.at_ D.keys;have L:⇑a=⇑j:=GJ c;refine Nj F.slot_dict_setdefault l.typeIs F.entry_dict_setdefault (F.args_dict_setdefault_3 _ _ _) (Vk (V6 X.prog X.w) d b m t) {by first|(show X.A.units+1+10<E3;lia)|(show X.A.units+1+1+10<E3;lia),k,j,G.is I,l,by lia,λp K=>?_,λJ T g hs=>?_}
 .have e:=c.val k;rw[K]at e;cases q:Yp a k with
  |none=>rw[q]at e;exact(show False from e).elim
  |some y=>rw[q]at e;exact{y,H,I.tok _,e,M y q}
 .have e:=c.val k;rw[J]at e;cases q:Yp a k with
  |some y=>rw[q]at e;exact(show False from e).elim
  |none=>have(ob,w,u,n,A,B,C,_,E):=g;have f:KX (a++[(k,b,i)]) (j++[(k,b,t)]):=E5 c ⟨Xb,Xb,r⟩;refine{i,_,R7 (ob:=Ut X.prog X.w d (a++[(k,b,i)])) I (by rw[D.at_];exact Es) hs ⟨ob,n⟩ (rR {by rw[Gs,Tg];lia,m,_,f,ob,w,u,n,A,B,C,E}),r,N q}
section
variable{X:Cx}{o e:Ea}{es:List Ea}{to:TE}{t:TA}{name:TQ}{apos cpos:MQ}{id:String}{r:V->List V->Hp->VK->Prop}
theorem va{b:List (Ge×Lc)}{s:Gw}{d:Ge}{c:List KE}(I:zx X b σ H s)(e:H d/Ut X.prog X.w d c):
  s.TypeIs ↑d "dict"/\∀a,Tq d=.ref a->∃h,s.heap.get? a/h/\h.dict=Gp:=by
 have(z,y,n,r,o,j,i,f,g,k,l,m):=kx I e;exact{{o,f,g.1},λa e=>by cases e;exact{o,f,g.2.1}}
def xq(P:Gn)(w:Ti)(r:V->List V->Hp->VK->Prop)(to:TE)(t:TA):TE:=λσ H Q=>to σ H λx H1=>(∃d zw,x=.ref d/\H1 d/Ut P w d zw)/\t σ H1 λxs H2=>r x xs H2 Q
theorem qx(slot:Slot "dict" name id)(i:typeOf (.builtin id)=pure (.type "method_descriptor"))(A:i4 X id r)(B:PE X o to)(z:PA X (e::es) t)
  (c:attributeBase o name X.env (eval o X.env)=eval o X.env:=by rfl)
  (g:((Se cpos (T8 (e::es) X.env)).all (λx=>!x.1)&&(backToKw cpos (keywordEach [] X.env)).all (λx=>x.1.isSome)
   &&decide (⇑(e::es)+⇑([]:List RU)+(if([]:List RU).isEmpty then 0 else 1)<30))=Gk:=by rfl)
  (f:(apos.endLine==cpos.line)=Gk:=by rfl)(hs:T8 (e::es) X.env=(Gx,eval e X.env)::T8 es X.env:=by rfl)(b:(Se cpos (T8 es X.env)).any (·.1)=Gx:=by rfl):
  PE X (.Call (.Attribute o name apos) (e::es) [] cpos) (xq X.prog X.w r to t):=by
 intro a s k H Q I h;refine Nh c g f rfl (Xf (B a s k H _ I h) λv J j=>?_);have(x,n,l,F,ty,D):=j;have(d,C,rfl,u):=ty;cases(show v=Tq d from F);have(w,y):=va l u;exists "dict",id,S9,slot,i,w,y;have m:=z cpos a J k n _ l D;rw[hs]at m⊢;refine Lg (by show(Gx||(Se cpos (T8 es X.env)).any (·.1))=Gx;rw[b]<;>rfl) (NE ?_);refine Xf m λL K j=>?_;have(M,p,q,G,E):=j;exact A a K k p ↑d M _ L Q q rfl G E
end
theorem qp{c:TT}{f:TS}{D:Ends}(d:Nat->St->Hp->Prop)(g:∃m,d m σ H)
  (hs:∀m σ H,d m σ H->c σ H λb H1=>if b=Gk then f {D with nx:=λa H'=>∃e,e<m/\d e a H',ct:=λa H'=>∃e,e<m/\d e a H',bk:=D.nx} σ H1 else D.nx σ H1)
  (mono:∀σ H Q e,(∀b H1,Q b H1->e b H1)->c σ H Q->c σ H e):xt c f D σ H:=by
 refine{d,g,λm σ H p=>mono σ H _ _ (λb H1 q=>?_) (hs m σ H p)};cases b with
 |true=>exact{_,λa H' h=>h,q}
 |false=>exact q
theorem zx.turns{a:List (Ge×Lc)}{h:List (Option V)}{s:Gw}{h':Heap}{t':Nat}{fp:List Ge}(I:zx X a h H s)(k:∀b o,b∉fp->s.heap.get? b/o->h'.get? b/o)(g:∀b∈fp,iq X a H b):
  zx X a h H {s with heap:=h',toks:=t'}:=by
 have f:∀b u,H b/u->b∉fp:=λb u e z=>by rw[(g b z).1]at e;cases e
 refine I.step (g':=s.gens) (d':=s.drawn) (ch:=fp) (λb p=>?_) (λb o _ _ d e _=>k b o d e) (λb o _ _ d e _=>{o.slots,k b o d e}) (λ_ _ _ _ n=>n)
  (λb o d e=>{o,k b o d e}) (λ_ _ e=>e) (λ_ _ _ e=>e) (λb c e=>{#[],by rw[e];simp}) (λm t=>?_) (λb u e=>?_) I.bare
 .obtain⟨r,c,v,i,j,l⟩:=g b p;exact⟨i,c,j,l⟩
 .obtain⟨o,i,c,j,r⟩:=t;exact{o,i,c,k _ o (λz=>(g _ z).2.1 Xb) j,r}
 .refine(I.Yc b u e).jE (λc v d q=>k c v ?_ q) (λ_ q=>q) λ_ _ q=>q;rcases d with z|z
  .rw[z];exact f b u e
  .exact f c _ z
def lV(K:Gd)(a:Ge):It:=
 {λi H=>∃xs x,Vh K H a xs/\xs[i]?/x,λi H v H'=>∃c x,v=.ref c/\H c=Gp/\(∀xs,Vh K H a xs->xs[i]?/x)/\H'=zj H c (.tup [.int (i:Int),x]),λi H=>∃xs,Vh K H a xs/\⇑xs<=i}
theorem Qs5{P:Gn}{ae:Ti}{K:Gd}{V:List Ea}{k:Nat}{ad:MQ}(a e d:Ge)(N:e≠d):i0 P ae K (.Tuple V k ad) (lV K a) [e,d] e (λi h=>(∃m,IsEnum h e d i m)/\h.IsListIter d a i) where
 mem:=by simp
 obj:=λi h j b c=>by
  have((m,f),o,E,C,F):=j;rcases Td.mp c with rfl|c
  .exact{_,f,λI g=>nomatch g}
  .have:b=d:=by simpa using c
   subst this;exact{o,E,λI g=>by rw[F]at g;cases g}
 keep:=λi h h' j k=>by have((m,f),n):=j;exact{{m,k e ⋯ _ f},n.at λo x=>k d ⋯ o x}
 item:=by
  intro X B hw A C i G s Q r R l t j D;subst B hw A;have((m,f),n):=j;have(xs,x,v,w):=D;have(ac,H,p,hz):=l.list v;have(u,hu,ru):=H.get w;refine wpAny_pyNext_enum_item f n p.isList (x:=u) (by simpa using hu) N λh' E aa L ag hk=>{0,?_};refine wpAny_letOwnedTupleGo_enum E λJ Y F=>?_;have O:e<s.heap.objs.size:=Tn f;have Z:d<s.heap.objs.size:=by have(_,x,_):=n;exact Tn x
  have af:J.get? s.heap.objs.size=Ga {cls:=.type "tuple",data:=.seq #[.int i s.toks,u]}:=(F.2 _ (DC O)).trans L;have ab:r s.heap.objs.size=Gp:=l.Yc.fresh (Gy _);have S:zx X G Q (zj r s.heap.objs.size (.tup [.int (i:Int),x])) {s with heap:=s.heap.push {cls:=.type "tuple",data:=.seq #[.int i s.toks,u]},toks:=s.toks}:=
   l.laid (a:=s.heap.objs.size) (o:=.tup [.int (i:Int),x]) (t':=s.toks) (λ_ _ q=>Gm _ q) (Gy _) {Yz,[.int i s.toks,u],.cons {40} (.cons ru .nil),_,Tc _ Xb,10}
  have I:∀b∈[e,d],iq X G (zj r s.heap.objs.size (.tup [.int (i:Int),x])) b:=λb c=>by
   have M:b<s.heap.objs.size:=by
    rcases Td.mp c with rfl|c
    .exact O
    .have:b=d:=by simpa using c
     subst this;exact Z
   refine{?_,(t b c).2};rw[Qh (T9 M)];exact(t b c).1
  have T:=S.turns (h':=J) (t':=s.toks+1) (fp:=[e,d]) (λb o c z=>?_) I
  .refine{↑s.heap.objs.size,_,T,1,{_,x,1,ab,λU M=>by rw[l.Jv M v];exact w,1},{{u,by simpa using Y},aa.at λo y=>(F.2 d N.symm).trans y},λb c=>(I b c).1}
  .have M:b≠e:=λg=>c (by simp[g]);have W:b≠d:=λg=>c (by simp[g]);refine(F.2 b M).trans ?_;rcases NK (show(s.heap.push {cls:=.type "tuple",data:=.seq #[.int i s.toks,u]}).get? b/o from z)with⟨rfl,rfl⟩|U
   .exact L
   .exact hk b o M W U
 done:=by intro X B hw A C i G s Q r R l t j D;subst B hw A;have((m,f),n):=j;have(xs,v,I):=D;have(ac,H,p,hz):=l.list v;have F:=⇑H;refine wpAny_pyNext_enum_end (l.ok.hd C) f n p.isList (Ed (by rw[Ts];lia)) λh' w=>{1,?_};exact l.turns (t':=s.toks) (fp:=[e,d]) (λb o c z=>w b o (λg=>c (by simp[g])) z) t
 self:=λ_ _ _ _ _ j h=>by have((m,f),_):=j;exact Bb f h
inductive zV(K:Gd)(R:It->Hp->Prop)(vs:List V)(H1:Hp):Prop
 |mk (a:_) (xs:_) (h0:vs=[↑a]) (h1:Vh K H1 a xs) (h2:R (lV K a) H1):zV K R vs H1
def XA(K:Gd)(ta:TA):TI:=λσ H R=>ta σ H λa H1=>zV K R a H1
theorem ub{g:List Ea}{k:Nat}{l:MQ}{a:Ea}{w:TA}{p j:MQ}(B:Gl X "enumerate")(D:X.mg "enumerate"=Gp)(A:PA X [a] w)(hs:T8 [a] X.env=[(Gx,eval a X.env)]:=by rfl):PI X (.Tuple g k l) (.Call (.Name "enumerate" p) [a] [] j) (XA X.K w):=by
 intro f s x H R I h;refine IM (Uk I B D boot_enumerate (Eo (Xf (A j f s x H _ I h) λQ d N=>?_) hs Xb));have(S,t,m,L,K):=N;have(b,T,e,E,q):=K;subst e;have(u,rfl,M):=vals1 L;cases(show u=Tq b from M);have(G,P,J,O):=m.list E;refine call_enumerate_list J.isList λz v r F C=>?_;have y:zx X f x t {d with heap:=z,toks:=d.toks}:=m.kept λb o e=>C b o e;refine Bb v {d.heap.objs.size+1,[d.heap.objs.size+1,d.heap.objs.size],2,t,1,y,Qs5 b (d.heap.objs.size+1) d.heap.objs.size (Bt _),{{_,v},r},λc n=>?_,q};have i:d.heap.objs.size<=c:=by
  rcases Td.mp n with e|n
  .rw[e];exact Fd _
  .have:c=d.heap.objs.size:=by simpa using n
   rw[this];exact Gy _
 exact m.jq i (m.Yc.fresh i)
theorem xO{K:Gd}{a:Ge}{xs:List V}{g:TG}{k:TS}{D:Ends}(b:Nat->St->Hp->Prop)(l:b 0 σ H)
  (o:∀i σ H,i<=⇑xs->b i σ H->Vh K H a xs)
  (hs:∀i x c σ H,xs[i]?/x->b i σ H->H c=Gp->g ↑c σ (zj H c (.tup [.int (i:Int),x])) λh H2=>k {D with nx:=b (i+1),ct:=b (i+1),bk:=D.nx} h H2)
  (n:∀σ H,b ⇑xs σ H->D.nx σ H):
  ∃W:Nat->Nat->St->Hp->Prop,(∃m,W 0 m σ H)/\∀i m σ H,W i m σ H->((lV K a).stop i H/\D.nx σ H)\/((lV K a).go i H/\∃N:St->Hp->Prop,(∀f d,N f d->∃e,e<m/\W (i+1) e f d)/\∀x d,(lV K a).yld i H x d->g x σ d λh H2=>k {D with nx:=N,ct:=N,bk:=D.nx} h H2):=by
 exists λi m σ H=>m=⇑xs - i/\i<=⇑xs/\b i σ H,{0,Tw _,l};rintro i m σ H ⟨rfl,hi,pv⟩;have q:=o i σ H hi pv;by_cases j:i<⇑xs
 .refine .inr {{xs,xs[i],q,by simp[j]},b (i+1),λf d r=>{⇑xs - (i+1),by ext,1,j,r},λv d y=>?_};have(c,x,rfl,e,p,rfl):=y;exact hs i x c σ H (p xs q) pv e
 .have e:i=⇑xs:=by ext
  subst e;exact .inl {{xs,q,Gy _},n σ H pv}
end L2
namespace K04
open PySem L2 Sb Nt
variable{f C:Ge}{fd:Du}
structure Jb(K:Gd)(mg:TQ->Option Gh)(C:Ge):Prop where
 cl:ie K C
 Qer:Xh K C "forms"
 Vx:Xh K C "leads"
 members:Xh K C "members"
 Qgg:Xh K C "users"
 table:Xh K C "table"
 zm:Xh K C "links"
 Qdp:Xh K C "link_at"
 above:Xh K C "above"
 mgC:mg "Net"/↑C
theorem Jw(A:Na):(Xr A).lookup ("forms":TQ)/↑A.f:=by rfl
theorem Xg(A:Na):(Xr A).lookup ("leads":TQ)/↑A.l:=by rfl
theorem Vz(A:Na):(Xr A).lookup ("members":TQ)/↑A.m:=by rfl
theorem Rw(A:Na):(Xr A).lookup ("users":TQ)/↑A.u:=by rfl
theorem ux(A:Na):(Xr A).lookup ("table":TQ)/↑A.t:=by rfl
theorem Js(A:Na):(Xr A).lookup ("links":TQ)/↑A.k:=by rfl
theorem pE(A:Na):(Xr A).lookup ("link_at":TQ)/↑A.a:=by rfl
theorem ny(A:Na):(Xr A).lookup ("above":TQ)/↑A.v:=by rfl
theorem qN(A:Na):(Xr A).lookup ("take_in":TQ)=Gp:=by rfl
theorem sf(A:Na):(Xr A).lookup ("key_of":TQ)=Gp:=by rfl
theorem rj(A:Na):(Xr A).lookup ("equal":TQ)=Gp:=by rfl
theorem yV(A:Na):(Xr A).lookup ("merge":TQ)=Gp:=by rfl
theorem Qiy(A:Na):(Xr A).lookup ("merge_link":TQ)=Gp:=by rfl
theorem wj(A:Na):(Xr A).lookup ("hang":TQ)=Gp:=by rfl
theorem z0(A:Na):(Xr A).lookup ("give_over":TQ)=Gp:=by rfl
theorem sQ(A:Na):(Xr A).lookup ("way":TQ)=Gp:=by rfl
theorem ve(A:Na):(Xr A).lookup ("way_up":TQ)=Gp:=by rfl
theorem pz(A:Na):(Xr A).lookup ("rows":TQ)=Gp:=by rfl
theorem X0{H:Hp}{a:Ge}{S:List Nat}{f:Nat->V}{p:Nat}(h:H a/.dK (dS S f))(b:p∈S):Vv H a (jv p) (Ga (f p)):=by have:=Vv.k (k:=ki p) h;rw[kz b,VW]at this;exact this
theorem oo{i j:Nat}:decide (jv i=jv j)=decide (i=j):=by
 by_cases h:i=j
 .subst h;simp
 .rw[Tj h,Tj λz=>h (Q3i z)]
inductive Ao(P:Gn)(w:Ti)(C:Ge)(vs:List V)(H:Hp)(Q:VK):Prop
 |mk (n:Ge) (A:Na) (fs:List Fm) (tb:Nat) (x:Nn) (p:Nat) (q:Nat) (h0:vs=[↑n,jv p,jv q]) (h1:Yk P w C H n A fs tb x) (h2:p∈x.S) (h3:q∈x.S) (h4:Q (.bl (decide (x.zu p=x.zu q))) H):Ao P w C vs H Q
def oA(P:Gn)(w:Ti)(C:Ge):Sp:=λa H Q _=>Ao P w C a H Q
inductive uz(P:Gn)(w:Ti)(C:Ge)(vs:List V)(H:Hp)(Q:VK):Prop
 |mk (n:Ge) (A:Na) (fs:List Fm) (tb:Nat) (x:Nn) (p:Nat) (h0:vs=[↑n,jv p]) (h1:Yk P w C H n A fs tb x) (h2:p<⇑fs) (h3:(∀q∈Zx fs p,q∈x.S)) (h4:⇑(Zx fs p)<=1000000) (h5:∀(c:Ge)(H':Hp),Q5 H H'->H c=Gp->I0 H' ↑c (Zt (Yu fs) (Zx fs) x.zu p)->Q ↑c H'):uz P w C vs H Q
def oE(P:Gn)(w:Ti)(C:Ge):Sp:=λa H Q _=>uz P w C a H Q
inductive uC(P:Gn)(w:Ti)(C:Ge)(vs:List V)(H:Hp)(Q:VK):Prop
 |mk (n:Ge) (A:Na) (fs:List Fm) (tb:Nat) (x:Nn) (lo:Nat) (hi:Nat) (cl:List Nat) (h0:vs=[↑n,jv lo,jv hi]) (h1:Yk P w C H n A fs tb x) (h2:Ch x.up lo cl) (h3:(∀p∈cl,p∈x.S)) (h4:⇑x.S<=1000000) (h5:∀(H':Hp),Yk P w C H' n A fs tb {x with up:=Ws x.up hi cl}->(∀b o,H b/o->b≠A.v->H' b/o)->(∀b,H' b=Gp->H b=Gp)->Q .non H'):uC P w C vs H Q
def rb(P:Gn)(w:Ti)(C:Ge):Sp:=λa H Q _=>uC P w C a H Q
inductive zF(P:Gn)(w:Ti)(C:Ge)(vs:List V)(H:Hp)(Q:VK):Prop
 |mk (n:Ge) (A:Na) (fs:List Fm) (tb:Nat) (x:Nn) (p:Nat) (l:List Nat) (h0:vs=[↑n,jv p]) (h1:Yk P w C H n A fs tb x) (h2:Ch x.up p l) (h3:(∀q∈l,q∈x.S)) (h4:⇑l<=1000000) (h5:∀(r:Ge)(H':Hp),Q5 H H'->H r=Gp->H' r/.lst (l.map jv)->Q ↑r H'):zF P w C vs H Q
def wI(P:Gn)(w:Ti)(C:Ge):Sp:=λa H Q _=>zF P w C a H Q
section
variable{P:Gn}{w:Ti}{K:Gd}{mg:TQ->Option Gh}{base:Heap}
theorem Qzj:Q4 ["self","one","other"] ["self","one","other"] (Qm qo):=by eq_refl
theorem Qxn(F:Wc K "equal" "Net.equal" qo f fd)(T:Jb K mg C):Qz P w K mg base Z4 1 f fd ["self","one","other"] (oA P w C):=by
 refine F.ok Qzj (λo H Q E h=>?_) (λe A a s H o Q E l h=>?_)
 .obtain⟨n,A,i,m,x,p,q,rfl,_⟩:=h;rfl
 have(n,A,i,m,x,p,q,rfl,X,j,k,g):=h;have c:=Jy l;exists _,Qg (Qu (Wz Xy (Yb c (Qx {0}) {1} (λ_ _=>rfl)) (Yb c (Qx {0}) {2} (λ_ _=>rfl)) (Qs _)));have(b,d):=X.ob;exists 0,n,C,b,30,d,T.cl,T.Vx,Xg _,0,A.l,0,X0 X.le j,0,n,C,b,30,d,T.cl,T.Vx,Xg _,0,A.l,0,X0 X.le k,1;rw[oo];exact g
theorem nz:Q4 ["self","place","form"] ["self","place"] (Qm jJ):=by eq_refl
theorem vC:(["part","self"]:List TQ).Nodup:=by decide+kernel
theorem Qyp(F:Wc K "key_of" "Net.key_of" jJ f fd)(g:Jb K mg C)(N:Ie mg):Qz P w K mg base Z4 1 f fd ["self","place"] (oE P w C):=by
 refine F.ok nz (λvs m Q O c=>?_) (λad d ae s m vs Q O Z c=>?_)
 .obtain⟨n,d,a,tb,x,p,rfl,_⟩:=c;rfl
 have(n,d,a,tb,x,p,rfl,X,D,Y,hl,U):=c;have hu:=Jy Z;have nd:=nz.nd;show∃t,Wf ?my _ t/\_;let ac:Vr ?my jJ 1:=⟨_,Qg (Qu (Zg (Qa (Qn Qt {2} Qj) (Qa (Yq Wh rfl N.tuple Di (Qa
   (Wm (te:=l8 (oV K (Vi 1) "leads") (Vi 0)) (own:=["part"]) (fv:=[(0,"self")]) rfl (S:=(by eq_refl:Xm (Qm jJ) _)) (.cons rfl (DG Xb) rfl .nil) (Ui (Qn Qt {2} Qj))
    (λ_ _ _ _ _=>Z5 (i:=0) vC rfl (DG Xb) (Ez Xb)) (λ_ _ _ _ _=>Xk) (λ_ _ _ _ _=>Yb hu (Qx {1}) {0} (λ_ _=>rfl))) Qe)) Qe))))⟩
 exists _,Qc (Q3 2 nd (Qn Q9 (Qx {0}) {1})) ac.2;ac_nf;have(u,I):=X.ob;have(L,T,v):=X.fo;have hw:p<⇑L:=by rw[GJ v];exact D
 have(y,G,o,h,S,z,A):=Qy v (Gf hw);intros;rw[la D]at G;cases G;have R:Rt [V.str (Yu a p),V.ref h] (1:Int)/↑h:=X8;exists 0,n,C,u,30,I,g.cl,g.Qer,Jw _,0,d.f,L,301,Qi T,Zi (Gf hw);rw[S];refine{0,o,201,Qk z,Of _ _,0,o,201,Qk z,R,h,1,{_,Qk A},λab E=>?_};have s3:=Qf E (.lst []);refine Ja (K:=K) (a:=h) (xs:=(Zx a p).map jv) (small (by rw[Gq];lia)) (λi k l e=>(∃M,l=[M,Ga ↑n])/\Q5 m e/\k=((Zx a p).take i).map λq=>jv (x.zu q))
  {{40},s3,by simp} (λi k l e _ c=>Qk (c.2.1 _ _ A)) ?_ ?_
 .rintro i y k l e hi aa ⟨⟨M,rfl⟩,b,rfl⟩ j;rw[Ta]at hi;cases eq:(Zx a p)[i]? with
  |none=>rw[eq]at hi;cases hi
  |some q=>
   rw[eq]at hi;cases hi;exists 0,n,C,u,30,b _ _ I,g.cl,g.Vx,Xg _,0,d.l,0,X0 (b _ _ X.le) (Y q (Gc eq)),j,{40},λB H r=>?_
   .rw[Qh (Qd r E)];exact b _ _ r
   .rw[Tt,eq,T3];rfl
 .rintro k l e aa ⟨_,b,rfl⟩ j;rw[Gq,Tu]at j;refine{ab,0,.inl {Qi j,λH W=>?_}};have s4:=Qf W (.tup ((Zx a p).map λq=>jv (x.zu q)));refine{Yz,λr B=>?_};have J:=Qf B (.tup [.str (Yu a p),↑H]);refine U r _ ((b.trans s4).trans J) (b.free (s4.free B)) {r,H,1,Qb,?_};rw[J _ _ Qb];simp only[Zt,Ds];rfl
theorem vi:Q4 ["self","place","found","stop"] ["self","place"] (Qm nI):=by eq_refl
theorem oJ{o:Option Nat}:decide (ov o=V.non)= !o.isSome:=by
 cases o with
 |none=>rfl
 |some p=>rfl
theorem Kb{up:Nat->Option Nat}{p:Nat}{l:List Nat}(h:Ch up p l){i:Nat}(hi:i<⇑l):up l[i]=l[i+1]?:=by
 induction h generalizing i with
 |@top p e=>
  have:i=0:=by simpa using hi
  subst this;simpa using e
 |@step p q l e k b=>
  cases i with
  |zero=>have(r,a):=k.head;subst a;simpa using e
  |succ j=>simp only[TW]at hi;simpa using b (i:=j) (by lia)
theorem Pu(F:Wc K "way_up" "Net.way_up" nI f fd)(T:Jb K mg C):Qz P w K mg base Z4 1 f fd ["self","place"] (wI P w C):=by
 refine F.ok vi (λZ H Q E h=>?_) (λG A o s H Z Q E U h=>?_)
 .obtain⟨n,A,N,Y,x,p,l,rfl,_⟩:=h;rfl
 have(n,A,N,Y,x,p,l,rfl,X,B,S,D,g):=h;have V:=Jy U;have k:=vi.nd;show∃t,Wf ?my _ t/\_;let u:Subtype (Wf ?my (sub [2,0] (Zd nI))):={_,Qc (Zl (Xx Te Tx TB Z0 {2} (Qa {3} Qe))) (Qg (Q3 3 k (Yb V (Qx {0}) {3} (λ_ _=>rfl))))}
 exists _,Qc (Q3 2 k (Zz Qe)) (Qc (Q3 3 k {1}) (Qc (Ww To (Qo lW {3} Jk (Qs _)) u.2) (Qg (Qu {2}))));have(I,W):=X.ob;refine{Tw _,λr b=>{0,?_}};have s0:=Qf b (.lst []);have(l',M):=B.head;have O:l[0]?/p:=by rw[M];rfl
 let q:Nat->St->Hp->Prop:=λm y z=>jK λi=>jR (m=⇑l+1 - i) (i<=⇑l) (y=[Ga ↑n,Ga (jv p),Ga ↑r,Ga (ov l[i]?)]) (z=zj H r (.lst ((l.take i).map jv)))
 refine qp q
  {_,(0),1,Tw _,by rw[O];rfl,by simp} ?_ (λy H Q Q' R=>λh=>by have(v,c,d,e,J,L):=h;exact{v,c,d,e,J,R _ _ L})
 rintro m y z ⟨i,rfl,hi,rfl,rfl⟩;exists 4010;rw[oJ];rcases Dn i ⇑l with a|j
 .have c:l[i]?/l[i]:=Gf a;have d:l[i]∈l:=Fv a;rw[c];refine Yw ?_;exists 0,.inl {13,Qi Qb},0,r,301,Qb,(by rw[Gq,Dq,TD];ext);have e:Q5 H (zj (zj H r (.lst ((l.take i).map jv))) r (.lst ((l.take i).map jv++[jv l[i]]))):=by rw[X9];exact Qf b _
  exists 0,n,C,I,30,e _ _ W,T.cl,T.above,ny _,0,A.v,0,X0 (e _ _ X.ab) (S _ d),_,by ext,i+1,1,a,?_
  .rw[Kb B a];rfl
  .rw[X9,Tt,c,T3];rfl
 .have c:l[i]?=Gp:=Dl j;have d:i=⇑l:=by ext
  subst d;rw[c];refine Q6 ?_;rw[Tu];exact{0,g r _ (Qf b _) b Qb}
theorem tY:Q4 ["self","low","high","over","place","old_over"] ["self","low","high"] (Qm nJ):=by eq_refl
theorem Qzp(F:Wc K "hang" "Net.hang" nJ f fd)(z:Jb K mg C):Qz P w K mg base Z4 1 f fd ["self","low","high"] (rb P w C):=by
 refine F.ok tY (λvs j M ab e=>?_) (λag d aj s j vs M ab hr e=>?_)
 .obtain⟨n,d,fs,tb,x,T,hi,D,rfl,_⟩:=e;rfl
 have(n,d,fs,tb,x,T,hi,D,rfl,X,G,ad,ai,ac):=e;have Q:=Jy hr;have k:=tY.nd;show∃t,Wf ?my _ t/\_;let af:Subtype (Wf ?my (sub [2,0] (Zd nJ))):={_,Qc (Q3 5 k (Yb Q (Qx {0}) {4} (λ_ _=>rfl))) (Qc (Vm Q (Qx {0}) {4} {3} rfl) (Qc (Q3 3 k {4}) (Qg (Q3 4 k {5}))))}
 exists _,Qc (Q3 3 k {2}) (Qc (Q3 4 k {1}) (Qg (Ww To (Qo lW {4} Jk (Qs _)) af.2)));have(y,I):=X.ob;have(ah,N):=G.head;exists 400;have W:n≠d.v:=Zr I X.ab (by intro c;cases c);let ae:Nat->St->Hp->Prop:=λU J L=>iE λ(u:Nat->Option Nat)(over:Nat)(Wa:List Nat)(Y:Option V)=>iu (U=Wa.length) (∀q∈Wa,u q=x.up q) (∀a h,Wa=a::h->Ch x.up a Wa) (Wa.Nodup) (∀q∈Wa,q∈x.S) (Ws u over Wa=Ws x.up hi D) (J=[Ga ↑n,Ga (jv T),Ga (jv hi),Ga (jv over),Ga (ov Wa.head?),Y]) (L=zj j d.v (.dK (dS x.S λp=>ov (u p))))
 refine qp ae
  {_,x.up,hi,D,Gp,1,λ_ _=>rfl,λa h b=>?_,G.nodup,ad,1,?_,?_} ?_ (λJ j M B A=>λe=>by have(v,i,E,l,m,o):=e;exact{v,i,E,l,m,A _ _ o})
 .rw[N]at b;cases b;exact G
 .rw[N];rfl
 .funext r
  by_cases g:r=d.v
  .subst g;rw[Qb];exact X.ab
  .rw[Qh g]
 rintro U J L ⟨u,over,Wa,Y,rfl,R,S,nd2,O,H,rfl,rfl⟩;exists 4010;rw[oJ];cases Wa with
 |nil=>
  refine Q6 ?_;have b:Ws u over []=u:=rfl;rw[b]at H;refine ac _ ?_ (λr l i g=>by rw[Qh g];exact i) (λr g=>?_)
  .rw[<-H];have m:Q8 j (zj j d.v (.dK (dS x.S λp=>ov (u p)))):=Z1 λxs b=>by rw[X.ab]at b;cases b
   ac_nf;have(ws,A,f2):=X.fo;have(aa,l,d2,d3):=X.ta;have(ls,B,l2):=X.li;have(kv,o,Z):=X.at_;intros;refine⟨{y,by rw[Qh W];exact I},{ws,by rw[Qh (Zr A X.ab (by intro c;cases c))];exact A,Qr f2 λ_ _ e=>e.Qv m},by rw[Qh X.ap.lv];exact X.le,by rw[Qh X.ap.mv];exact X.me,by rw[Qh X.ap.uv];exact X.us,
    {aa,{by rw[Qh (Zr l.at_ X.ab (by intro c;cases c))];exact l.at_,Zf m l.keys},d2,d3},{ls,by rw[Qh (Zr B X.ab (by intro c;cases c))];exact B,Qr l2 λ_ _ e=>e.Qv m},{kv,by rw[Qh (Zr o X.ab (by intro c;cases c))];exact o,Z},Qb,
    λp i=>by rw[Qh (Zr (X.ml p i) X.ab (by intro c;cases c))];exact X.ml p i,λp i=>by rw[Qh (Zr (X.ul p i) X.ab (by intro c;cases c))];exact X.ul p i,X.ap⟩
  .by_cases b:r=d.v
   .subst b;rw[Qb]at g;cases g
   .rw[Qh b]at g;exact g
 |cons a h=>
  refine Yw ?_;have l:=O a ⋯;have o:(zj j d.v (.dK (dS x.S λp=>ov (u p)))) n/.ins C y (Xr d):=by rw[Qh W];exact I
  have A:u a=h.head?:=by rw[R a ⋯];have:=Kb (S a h Xb) (i:=0) ⋯;simp only[List.getElem_cons_zero]at this;rw[this];cases h<;>rfl
  rw[Dw]at nd2;have m:=Oe.k (k:=ki a) (v:=jv over) (@Qb j d.v (.dK (dS x.S λp=>ov (u p)))) (by rw[V4,TD];ext);rw[X9,si l]at m;exists 0,n,C,y,30,o,z.cl,z.above,ny _,0,d.v,0,X0 Qb l,00,n,C,y,30,o,z.cl,z.above,ny _,0,d.v,0,m,00,⇑h,by simp,mq u a over,a,h,Ga (ov (u a)),1,λq i=>?_,λB Z E=>?_,nd2.2,λq i=>O q (by simp[i]),H,?_
  .unfold mq;rw[Gu (λc:q=a=>nd2.1 (c▸i))];exact R q (by simp[i])
  .have:=S a h rfl;subst E;exact this.suffix (a:=[a]) rfl
  .rw[A];rfl
  .congr 2;refine Vt λq _=>?_;unfold mq;by_cases b:q=a
   .rw[GY b,GY b];rfl
   .rw[Gu b,Gu b]
end
end K04
namespace Sb
open PySem PySem.Spec PyProof.Rows L2 Nt
theorem Ys{H:Hp}{a b:Ge}{o u:HO}(h:H a/o)(k:H b/u)(d:∀z:o=u,False):a≠b:=λz=>by subst z;rw[h]at k;exact d (T1 k)
section
variable{P:Gn}{w:Ti}{C:Ge}{H:Hp}{n:Ge}{A:Na}{fs:List Fm}{tb:Nat}{x:Nn}
theorem Yk.OH(X:Yk P w C H n A fs tb x)(ld:Nat->Nat):Yk P w C (zj H A.l (.dK (dS x.S λp=>jv (ld p)))) n A fs tb {x with zu:=ld}:=by
 have(q,j):=X.ob;have(y,g,r):=X.fo;have(c,D,l,m):=X.ta;have(v,i,t):=X.li;have(s,f,k):=X.at_;have d:Q8 H (zj H A.l (.dK (dS x.S λp=>jv (ld p)))):=Z1 λz e=>by rw[X.le]at e;cases e
 have u:∀{b o},H b/o->b≠A.l->(zj H A.l (.dK (dS x.S λp=>jv (ld p)))) b/o:=λe h=>by rw[Qh h];exact e
 exact⟨{q,u j (Ys j X.le nofun)},{y,u g (Ys g X.le nofun),Qr r λ_ _ h=>h.Qv d},Qb,u X.me (GQ X.ap.lm),u X.us (GQ X.ap.lu),{c,{u D.at_ (Ys D.at_ X.le nofun),Zf d D.keys},l,m},
  {v,u i (Ys i X.le nofun),Qr t λ_ _ h=>h.Qv d},{s,u f (Ys f X.le nofun),k},u X.ab (GQ X.ap.lv),λp a=>u (X.ml p a) (Ys (X.ml p a) X.le nofun),λp a=>u (X.ul p a) (Ys (X.ul p a) X.le nofun),X.ap⟩
theorem Yk.WX(X:Yk P w C H n A fs tb x){k:Nat}(a:k∈x.S)(l:List Nat):Yk P w C (zj H (A.ml k) (.lst (l.map jv))) n A fs tb {x with mem:=λp=>if p=k then l else x.mem p}:=by
 have(s,i):=X.ob;have(G,t,v):=X.fo;have(d,D,q,r):=X.ta;have(F,B,E):=X.li;have(y,g,j):=X.at_;have m:=X.ml k a;have f:Q8 H (zj H (A.ml k) (.lst (l.map jv))):=Z1 λI e=>by rw[m]at e;cases e
 have u:∀{b o},H b/o->b≠A.ml k->(zj H (A.ml k) (.lst (l.map jv))) b/o:=λe h=>by rw[Qh h];exact e
 refine⟨{s,u i (Ys i m nofun)},{G,u t (GQ (X.ap.mkf k a).2),Qr v λ_ _ h=>h.Qv f},u X.le (Ys X.le m nofun),u X.me (Ys X.me m nofun),u X.us (Ys X.us m nofun),{d,{u D.at_ (Ys D.at_ m nofun),Zf f D.keys},q,r},
  {F,u B (GQ (X.ap.mkf k a).1),Qr E λ_ _ h=>h.Qv f},{y,u g (Ys g m nofun),j},u X.ab (Ys X.ab m nofun),λp c=>?_,λp c=>u (X.ul p c) (GQ (X.ap.mul k a p c)),X.ap⟩
 by_cases e:p=k
 .subst e;show _/HO.lst ((if p=p then l else x.mem p).map jv);rw[Qb,GY rfl]
 .show _/HO.lst ((if p=k then l else x.mem p).map jv);rw[Gu e];exact u (X.ml p c) (λz=>e (X.ap.mm p c k a z))
theorem Yk.tT(X:Yk P w C H n A fs tb x){k:Nat}(a:k∈x.S)(l:List Nat):Yk P w C (zj H (A.ul k) (.lst (l.map jv))) n A fs tb {x with Xz:=λp=>if p=k then l else x.Xz p}:=by
 have(s,i):=X.ob;have(G,t,v):=X.fo;have(d,D,q,r):=X.ta;have(F,B,E):=X.li;have(y,g,j):=X.at_;have m:=X.ul k a;have f:Q8 H (zj H (A.ul k) (.lst (l.map jv))):=Z1 λI e=>by rw[m]at e;cases e
 have u:∀{b o},H b/o->b≠A.ul k->(zj H (A.ul k) (.lst (l.map jv))) b/o:=λe h=>by rw[Qh h];exact e
 refine⟨{s,u i (Ys i m nofun)},{G,u t (GQ (X.ap.ukf k a).2),Qr v λ_ _ h=>h.Qv f},u X.le (Ys X.le m nofun),u X.me (Ys X.me m nofun),u X.us (Ys X.us m nofun),{d,{u D.at_ (Ys D.at_ m nofun),Zf f D.keys},q,r},
  {F,u B (GQ (X.ap.ukf k a).1),Qr E λ_ _ h=>h.Qv f},{y,u g (Ys g m nofun),j},u X.ab (Ys X.ab m nofun),λp c=>u (X.ml p c) (X.ap.mul p c k a),λp c=>?_,X.ap⟩
 by_cases e:p=k
 .subst e;show _/HO.lst ((if p=p then l else x.Xz p).map jv);rw[Qb,GY rfl]
 .show _/HO.lst ((if p=k then l else x.Xz p).map jv);rw[Gu e];exact u (X.ul p c) (λz=>e (X.ap.uu p c k a z))
theorem Yk.KC(X:Yk P w C H n A fs tb x){c kvs':List KE}(D:DH P w H A.t c)(t:⇑kvs'<=tb+1)(l:Jd H kvs'){t':Fm->Option Nat}(ht:∀k:Fm,Yp kvs' (Y2 k)=(t' k).map jv):Yk P w C (zj H A.t (Ut P w A.t kvs')) n A fs (tb+1) {x with tab:=t'}:=by
 have(r,j):=X.ob;have(B,g,s):=X.fo;have(z,i,y):=X.li;have(v,f,q):=X.at_;have m:=D.at_;have d:Q8 H (zj H A.t (Ut P w A.t kvs')):=Z1 λE e=>by rw[m]at e;cases e
 have u:∀{b o},H b/o->b≠A.t->(zj H A.t (Ut P w A.t kvs')) b/o:=λe h=>by rw[Qh h];exact e
 exact⟨{r,u j (Ys j m nofun)},{B,u g (Ys g m nofun),Qr s λ_ _ h=>h.Qv d},u X.le (Ys X.le m nofun),u X.me (Ys X.me m nofun),u X.us (Ys X.us m nofun),{kvs',{Qb,Zf d l},t,ht},
  {z,u i (Ys i m nofun),Qr y λ_ _ h=>h.Qv d},{v,u f (Ys f m nofun),q},u X.ab (Ys X.ab m nofun),λp a=>u (X.ml p a) (Ys (X.ml p a) m nofun),λp a=>u (X.ul p a) (Ys (X.ul p a) m nofun),X.ap⟩
theorem Yk.Q0t(X:Yk P w C H n A fs tb x){kv2:List (List Wl×V)}{ls':List V}{lks:List Lk}{lat':Nat->Nat->Option Nat}(v:⇑kv2<=2*⇑lks)(y:∀i j:Nat,Xq kv2 [ki i,ki j]=(lat' i j).map jv)(z:Dm (Og H) ls' lks):
  Yk P w C (zj (zj H A.a (.dT kv2)) A.k (.lst ls')) n A fs tb {x with zm:=lks,Xs:=lat'}:=by
 have(r,g):=X.ob;have(B,l,s):=X.fo;have(f,D,m,q):=X.ta;have(I,c,G):=X.li;have(F,a,E):=X.at_;have k:Q8 H (zj (zj H A.a (.dT kv2)) A.k (.lst ls')):=λb J e=>by rw[Qh (Ys e c nofun),Qh (Ys e a nofun)];exact e
 have u:∀{b o},H b/o->b≠A.k->b≠A.a->(zj (zj H A.a (.dT kv2)) A.k (.lst ls')) b/o:=λe h t=>by rw[Qh h,Qh t];exact e
 refine⟨{r,u g (Ys g c nofun) (Ys g a nofun)},{B,u l (GQ X.ap.kf) (Ys l a nofun),Qr s λ_ _ h=>h.Qv k},u X.le (Ys X.le c nofun) (Ys X.le a nofun),u X.me (Ys X.me c nofun) (Ys X.me a nofun),u X.us (Ys X.us c nofun) (Ys X.us a nofun),
  {f,{u D.at_ (Ys D.at_ c nofun) (Ys D.at_ a nofun),Zf k D.keys},m,q},{ls',Qb,Qr z λ_ _ h=>h.Qv k},{kv2,?_,v,y},u X.ab (Ys X.ab c nofun) (Ys X.ab a nofun),λp d=>u (X.ml p d) (X.ap.mkf p d).1 (Ys (X.ml p d) a nofun),λp d=>u (X.ul p d) (X.ap.ukf p d).1 (Ys (X.ul p d) a nofun),X.ap⟩
 rw[Qh (Ys a c nofun),Qb]
end
end Sb
namespace K04
open PySem L2 Sb Nt
structure iP(fs:List Fm)(S:List Nat):Prop where
 str:∀p,DK (Yu fs p)=Gk
 lt:∀p∈S,p<⇑fs
 Ol:∀p∈S,∀q∈Zx fs p,q∈S
 few:∀p,⇑(Zx fs p)<=100000
inductive u7(P:Gn)(w:Ti)(C:Ge)(vs:List V)(H:Hp)(Q:VK):Prop
 |mk (n:Ge) (A:Na) (fs:List Fm) (tb:Nat) (x:Nn) (g:Nat) (k:Nat) (h0:vs=[↑n,jv g,jv k]) (h1:Yk P w C H n A fs tb x) (h2:iP fs x.S) (h3:g∈x.S) (h4:k∈x.S) (h5:g≠k) (h6:(∀p∈x.mem g,p∈x.S)) (h7:(∀p∈x.Xz g,p∈x.S)) (h8:⇑x.S<=100000) (h9:⇑(x.mem k)+⇑(x.mem g)<=100000) (h10:⇑(x.Xz k)+⇑(x.Xz g)<=100000) (h11:tb+⇑(x.Xz g)<=1000000) (h12:∀(r:Ge)(es:List V)(H':Hp),Yk P w C H' n A fs (tb+⇑(x.Xz g)) (Jh (Yu fs) (Zx fs) x g k).1->Ot A x.S H H'->H r=Gp->H' r/.lst es->Dm (Og H') es (Jh (Yu fs) (Zx fs) x g k).2->Q ↑r H'):u7 P w C vs H Q
def qh(P:Gn)(w:Ti)(C:Ge):Sp:=λa H Q _=>u7 P w C a H Q
section
variable{P:Gn}{w:Ti}{K:Gd}{mg:TQ->Option Gh}{base:Heap}
theorem vA:Q4 ["self","gone","kept","place","found","user","twin"] ["self","gone","kept"] (Qm Vd):=by eq_refl
theorem PB{ky:Nat->TQ×List Nat}{l:List Nat}{t:TQ×List Nat->Option Nat}{i u:Nat}(h:l[i]?/u):zy (ρ:=Ia) ky (l.take (i+1)) t []=(match(zy (ρ:=Ia) ky (l.take i) t []).1 (ky u)with
  |some v=>((zy (ρ:=Ia) ky (l.take i) t []).1,if v=u then(zy (ρ:=Ia) ky (l.take i) t []).2 else(zy (ρ:=Ia) ky (l.take i) t []).2++[(u,v,Gp)])
  |none=>((λk=>if k=ky u then Ga u else(zy (ρ:=Ia) ky (l.take i) t []).1 k),(zy (ρ:=Ia) ky (l.take i) t []).2)):=by
 have b:∀(a:List Nat)(t:TQ×List Nat->Option Nat)(f:List (Nat×Nat×Option Ia)),zy (ρ:=Ia) ky (a++[u]) t f=(match(zy (ρ:=Ia) ky a t f).1 (ky u)with
  |some v=>((zy (ρ:=Ia) ky a t f).1,if v=u then(zy (ρ:=Ia) ky a t f).2 else(zy (ρ:=Ia) ky a t f).2++[(u,v,Gp)])
  |none=>((λk=>if k=ky u then Ga u else(zy (ρ:=Ia) ky a t f).1 k),(zy (ρ:=Ia) ky a t f).2)):=by
  intro a;induction a with
  |nil=>intro t f;simp only[Nq,zy];all_goals (cases t (ky u)<;>rfl)
  |cons z a c=>
   intro t f;simp only[D9,zy];cases t (ky z)with
   |some v=>exact c _ _
   |none=>exact c _ _
 rw[Tt,h];exact b _ _ _
theorem OB{f fK g:Ge}{fd ak:Du}(F:Wc K "give_over" "Net.give_over" Vd f fd)(e:Jb K mg g)(mK:Ym K g "key_of" fK)(GK:Qz P w K mg base Z4 1 fK ak ["self","place"] (oE P w g))(bK:zk K ak ["self","place"] []):
  Qz P w K mg base Z4 2 f fd ["self","gone","kept"] (qh P w g):=by
 refine F.ok vA (λH B D r E=>?_) (λO c S s B H D r hr E=>?_)
 .obtain⟨n,c,b,tb,x,a,k,rfl,_⟩:=E;rfl
 have(n,c,b,tb,x,a,k,rfl,X,aa,z,A,ax,mS,uS,hS,U,aP,aO,q):=E;have Q:=Jy hr;have aB:=hr.units;have az:Yd 1 _:=hr.mono ∅;have nd:=vA.nd;show∃t,Wf ?my _ t/\_;let aI:Subtype (Wf ?my (sub [4,0,1] (Zd Vd))):={_,Qg (Zc (Qo X7 {6} {5} (Qs _)) (Qg (Zl (Xx Te Tx TB Z0 {4} (Qa (Zg (Qa {5} (Qa {6} (Qa Jk Qe)))) Qe)))) Qw)}
 let aJ:Subtype (Wf ?my (sub [4,0] (Zd Vd))):={_,Qc (Q3 6 nd (qx Lp Lq (OD aB) (Qx {0}) (Qa (Zk {0} e.cl mK GK az bK .nil Q7 (Qa {5} Qe)) (Qa {5} Qe)))) aI.2}
 let aK:Vr ?my Vd 3:={_,Qc (Q3 4 nd (Zz Qe)) (Qc (Z9 To rfl (Z6 (Yb Q (Qx {0}) {1} (λ_ _=>rfl))) (Zv 5 nd) aJ.2) (Qg (Qu {4})))}
 let aL:Vr ?my Vd 2:={_,Qc (Zl (Xx Te LZ L1 p6 (Yb Q (Qx {0}) {2} (λ_ _=>rfl)) (Qa (Yb Q (Qx {0}) {1} (λ_ _=>rfl)) Qe))) aK.2}
 let aM:Vr ?my Vd 1:={_,Qc (Zl (Xx Te LZ L1 p6 (Yb Q (Qx {0}) {2} (λ_ _=>rfl)) (Qa (Yb Q (Qx {0}) {1} (λ_ _=>rfl)) Qe))) aL.2}
 exists _,Qc (Z9 To rfl (Z6 (Yb Q (Qx {0}) {1} (λ_ _=>rfl))) (Zv 3 nd) (Qg (Vm Q (Qx {0}) {3} {2} rfl))) aM.2;have(dx,o1):=X.ob;have nl:n≠c.l:=Ys o1 X.le nofun;let aG:Nat->St->Hp->Prop:=λi I J=>kU (∃x3,I=[Ga ↑n,Ga (jv a),Ga (jv k),x3,Gp,Gp,Gp]) (J=zj B c.l (.dK (dS x.S λp=>jv (if p∈(x.mem a).take i then k else x.zu p))))
 refine⟨_,Xb,n,g,dx,_,_,Xb,o1,e.cl,e.members,Vz _,_,Xb,c.m,_,Xb,X0 X.me z,c.ml a,Xb,{_,Qi (X.ml a z)},Yv (K:=K) (a:=c.ml a) (xs:=(x.mem a).map jv)
  aG
  {{40},?_} (by rintro i I J _ ⟨_,d⟩;rw[d];exact Qi (by rw[Qh (Ys (X.ml a z) X.le nofun)];exact X.ml a z)) ?_ ?_⟩
 .funext C
  by_cases h:C=c.l
  .subst h;rw[Qb,X.le];simp
  .rw[Qh h]
 .rintro i y I J hi ⟨⟨x3,rfl⟩,rfl⟩;rw[Ta]at hi;cases eq:(x.mem a)[i]? with
  |none=>rw[eq]at hi;cases hi
  |some p=>
   rw[eq]at hi;cases hi;have H:=mS p (Gc eq);have D:(zj B c.l (.dK (dS x.S λp=>jv (if p∈(x.mem a).take i then k else x.zu p)))) n/.ins g dx (Xr c):=by rw[Qh nl];exact o1
   have r:=Oe.k (k:=ki p) (v:=jv k) (@Qb B c.l (.dK (dS x.S λp=>jv (if p∈(x.mem a).take i then k else x.zu p)))) (by rw[V4,TD];ext);rw[X9,si H]at r;exists 00,n,g,dx,30,D,e.cl,e.Vx,Xg _,0,c.l,0,r,{40};congr 2;refine Vt λj _=>?_;rw[Tt,eq];by_cases d:j=p
   .subst d;rw[GY Xb,GY ⋯]
   .rw[Gu d];by_cases U:j∈(x.mem a).take i
    .rw[GY U,GY (Gv _ U)]
    .rw[Gu U,Gu (by simp[U,d])]
 rintro I J ⟨⟨x3,rfl⟩,rfl⟩;rw[Gq,Tu];have L:=X.OH (Zj x a k);have eL:(dS x.S λp=>jv (if p∈x.mem a then k else x.zu p))=dS x.S λp=>jv (Zj x a k p):=rfl;rw[eL];have F1:Ot c x.S B (zj B c.l (.dK (dS x.S λp=>jv (Zj x a k p)))):=Ot.zj (.inl Xb);generalize zj B c.l (.dK (dS x.S λp=>jv (Zj x a k p)))=H1 at L F1⊢;have(ah,an):=L.ob;exists 0,n,g,ah,30,an,e.cl,e.members,Vz _,0,c.m,0,X0 L.me A,.inl {13,Qi (L.ml k A)},0,n,g,ah,30,an,e.cl,e.members,Vz _,0,c.m,0,X0 L.me z,c.ml k,c.ml a,301,L.ml k A,L.ml a z,small (by rw[Gq,Gq];show ⇑(x.mem k)+⇑(x.mem a)<=_;ext);have M:=L.WX A (x.mem k++x.mem a);have F2:Ot c x.S H1 (zj H1 (c.ml k) (.lst ((x.mem k++x.mem a).map jv))):=Ot.zj (.inr (.inr (.inr (.inr (.inr (.inr (.inr {k,A,.inl Xb})))))));have e2:((x.mem k).map jv++(x.mem a).map jv)=(x.mem k++x.mem a).map jv:=(T3 ..).symm;rw[e2];generalize zj H1 (c.ml k) (.lst ((x.mem k++x.mem a).map jv))=J at M F2⊢;have(ai,ao):=M.ob;exists 0,n,g,ai,30,ao,e.cl,e.Qgg,Rw _,0,c.u,0,X0 M.us A,.inl {13,Qi (M.ul k A)},0,n,g,ai,30,ao,e.cl,e.Qgg,Rw _,0,c.u,0,X0 M.us z,c.ul k,c.ul a,301,M.ul k A,M.ul a z,small (by rw[Gq,Gq];show ⇑(x.Xz k)+⇑(x.Xz a)<=_;ext);have X3:=M.tT A (x.Xz k++x.Xz a);have F3:Ot c x.S J (zj J (c.ul k) (.lst ((x.Xz k++x.Xz a).map jv))):=Ot.zj (.inr (.inr (.inr (.inr (.inr (.inr (.inr {k,A,.inr Xb})))))));have e3:((x.Xz k).map jv++(x.Xz a).map jv)=(x.Xz k++x.Xz a).map jv:=(T3 ..).symm;rw[e3];generalize zj J (c.ul k) (.lst ((x.Xz k++x.Xz a).map jv))=H3 at X3 F3⊢;have af:=(F1.trans F2).trans F3;refine{Tw _,λj al=>?_};have s4:=Qf al (.lst []);have X4:=X3.same s4;have(au,aF):=X4.ob;have N:B j=Gp:=af.there j al;have av:(λp=>if p=k then x.Xz k++x.Xz a else x.Xz p) a=x.Xz a:=Gu ax;have ug:∀{l:Hp}{t':Fm->Option Nat}{aD:Nat},Yk P w g l n c b aD {x with zu:=Zj x a k,mem:=(λp=>if p=k then x.mem k++x.mem a else x.mem p),Xz:=(λp=>if p=k then x.Xz k++x.Xz a else x.Xz p),tab:=t'}->l (c.ul a)/.lst ((x.Xz a).map jv):=λm=>by have:=m.ul a z;rw[this];show Ga (HO.lst (((λp=>if p=k then x.Xz k++x.Xz a else x.Xz p) a).map jv))=_;rw[av]
 let aH:Nat->St->Hp->Prop:=λi I l=>jc λ(x5 x6:Option V)(o:List V)=>ju (I=[Ga ↑n,Ga (jv a),Ga (jv k),x3,Ga ↑j,x5,x6]) (Yk P w g l n c b (tb+i) {x with zu:=Zj x a k,mem:=(λp=>if p=k then x.mem k++x.mem a else x.mem p),Xz:=(λp=>if p=k then x.Xz k++x.Xz a else x.Xz p),tab:=(zy (ρ:=Ia) (Zt (Yu b) (Zx b) (Zj x a k)) ((x.Xz a).take i) x.tab []).1}) (Ot c x.S B l) (l j/.lst o) (Dm (Og l) o (zy (ρ:=Ia) (Zt (Yu b) (Zx b) (Zj x a k)) ((x.Xz a).take i) x.tab []).2)
 refine⟨_,Xb,n,g,au,_,_,Xb,aF,e.cl,e.Qgg,Rw _,_,Xb,c.u,_,Xb,X0 X4.us z,c.ul a,Xb,{_,Qi (ug X4)},Yv (K:=K) (a:=c.ul a) (xs:=(x.Xz a).map jv)
  aH
  {2,[],1,?_,af.trans (Ot.of s4),Qb,.nil} (by rintro i I l _ ⟨_,_,_,_,m,_⟩;exact Qi (ug m)) ?_ ?_⟩
 .exact X4
 .rintro i y I l hi ⟨x5,x6,o,rfl,m,T,G,R⟩;rw[Ta]at hi;cases eq:(x.Xz a)[i]? with
  |none=>rw[eq]at hi;cases hi
  |some u=>
   rw[eq]at hi;cases hi;have aq:=uS u (Gc eq);have il:i<⇑(x.Xz a):=(Gg.mp eq).1;have(aj,ap):=m.ob;have(aC,ar,d2,d3):=m.ta;have aQ:⇑o<=i:=by rw[GJ R];have:=scan_len (ρ:=Ia) (ky:=Zt (Yu b) (Zx b) (Zj x a k)) (l:=(x.Xz a).take i) (t:=x.tab) (f:=[]);rw[Dq]at this;simp at this;ext
   refine{0,n,g,aj,30,ap,e.cl,e.table,ux _,{c.t,aC,1,ar.at_},0,n,aj,0,ap,sf _,0,n,c,b,2,u,1,m,aa.lt u aq,λq hq=>aa.Ol u aq q hq,by have:=aa.few u;ext,λac H6 r c6 aw=>{0,?_}};have Y6:=m.same r;have(Z,D6,aN,ag):=Y6.ta;have kc:=aw.key (aa.str u);have kk:Yp Z (Y2 (Zt (Yu b) (Zx b) (Zj x a k) u))=((zy (ρ:=Ia) (Zt (Yu b) (Zx b) (Zj x a k)) ((x.Xz a).take i) x.tab []).1 (Zt (Yu b) (Zx b) (Zj x a k) u)).map jv:=ag (Zt (Yu b) (Zx b) (Zj x a k) u);have O:=PB (ky:=Zt (Yu b) (Zx b) (Zj x a k)) (t:=x.tab) eq;have rO:¬hX c x.S j:=λH=>by rcases X.own H with⟨_,d⟩|⟨_,d⟩|⟨_,d⟩|⟨_,d⟩<;>rw[N]at d<;>cases d
   refine{c.t,ac,jv u,Z,01,D6,kc,by rw[TD];ext,λv W=>?_,λhn=>?_}
   ·
    rw[kk]at W;cases ev:(zy (ρ:=Ia) (Zt (Yu b) (Zx b) (Zj x a k)) ((x.Xz a).take i) x.tab []).1 (Zt (Yu b) (Zx b) (Zj x a k) u)with
    |none=>rw[ev]at W;cases W
    |some S=>
     rw[ev]at W;cases W;rw[ev]at O;exists 40010;rw[oo];by_cases ab:S=u
     .rw[Tk ab];refine Q6 {2,o,1,?_,T.trans (Ot.of r),r _ _ G,?_}
      .rw[O];exact Y6.mono ∅
      .rw[O];simp only[GY ab];exact Qr R λ_ _ E=>E.Qv (Q8.of r)
     .rw[Tj ab];refine Yw ?_;refine{0,.inl {13,Qi (r _ _ G)},00,Vb,λD ad=>?_};have s7:=Qf ad (.tup [jv u,jv S,.non]);exists j,o,↑D,11,s7 _ _ (r _ _ G),(by rw[TD];ext);have Y:=r.trans s7;have Y7:=m.same Y;have aA:=Y _ _ G;have ae:Q8 l (zj (zj H6 D (.tup [jv u,jv S,.non])) j (.lst (o++[↑D]))):=λC xs d=>by rw[Qh (Ys d G nofun)];exact Y _ _ d
      have aE:(zj (zj H6 D (.tup [jv u,jv S,.non])) j (.lst (o++[↑D]))) D/.tup [jv u,jv S,.non]:=by rw[Qh (λH=>by rw[H,r _ _ G]at ad;cases ad),Qb]
      have Y8:Yk P w g (zj (zj H6 D (.tup [jv u,jv S,.non])) j (.lst (o++[↑D]))) n c b (tb+i) _:=Y7.keep (λC am d h=>by
       rw[Qh λH=>?_]
       .exact d
       .subst H;rcases h with h|h|h
        .exact rO h
        .obtain⟨ws,f1,_⟩:=X.fo;rw[h,f1]at N;cases N
        .rw[h,o1]at N;cases N) (Z1 λxs d=>by rw[aA]at d;cases d)
      exists 20,?_,{λC am d h=>?_,λC h=>?_},Qb
      .rw[O];exact Y8.mono ∅
      .rw[Qh (Qd d N)];exact Y _ _ (T.keep C am d h)
      .by_cases d:C=j
       .subst d;exact N
       .rw[Qh d]at h;exact T.there C (Y.free h)
      .rw[O];simp only[Gu ab];exact Yx (Qr R λ_ _ E=>E.Qv ae) (.cons {D,.non,1,aE,1} .nil)
   ·
    rw[kk]at hn;have ev:(zy (ρ:=Ia) (Zt (Yu b) (Zx b) (Zj x a k)) ((x.Xz a).take i) x.tab []).1 (Zt (Yu b) (Zx b) (Zj x a k) u)=Gp:=by
     cases ev:(zy (ρ:=Ia) (Zt (Yu b) (Zx b) (Zj x a k)) ((x.Xz a).take i) x.tab []).1 (Zt (Yu b) (Zx b) (Zj x a k) u)with
     |none=>rfl
     |some S=>rw[ev]at hn;cases hn
    rw[ev]at O;exists 40010;rw[oo,Tk rfl];have ay:Yp Z (Y2 (Zt (Yu b) (Zx b) (Zj x a k) u))=Gp:=by rw[kk];exact hn
    have Y8:=Y6.KC (kvs':=Z++[(Y2 (Zt (Yu b) (Zx b) (Zj x a k) u),ac,jv u)]) D6 (by rw[Gs,Tg];ext) (λp D=>by
     rcases Gi.mp D with D|D
     .exact D6.keys p D
     .rw[Tf]at D;subst D;exact kc) (t':=λY=>if Y=Zt (Yu b) (Zx b) (Zj x a k) u then Ga u else(zy (ρ:=Ia) (Zt (Yu b) (Zx b) (Zj x a k)) ((x.Xz a).take i) x.tab []).1 Y) (λY=>by
     rw[rD _ _ _ _ _ ay];by_cases d:Y=Zt (Yu b) (Zx b) (Zj x a k) u
     .rw[GY (by rw[d]),GY d];rfl
     .rw[Gu (λH=>d (Jj H)),Gu d];exact ag Y)
    have rt:j≠c.t:=λH=>rO (by rw[H];exact .inr (.inr (.inr (.inl Xb))));have ae:Q8 l (zj H6 c.t (Ut P w c.t (Z++[(Y2 (Zt (Yu b) (Zx b) (Zj x a k) u),ac,jv u)]))):=λC xs d=>by rw[Qh (Ys (r _ _ d) D6.at_ nofun)];exact r _ _ d
    refine Q6 {2,o,1,?_,T.trans ((Ot.of r).trans (Ot.zj (.inr (.inr (.inr (.inl Xb)))))),?_,?_}
    .rw[O];exact Y8
    .rw[Qh rt];exact r _ _ G
    .rw[O];exact Qr R λ_ _ E=>E.Qv ae
 .rintro I l ⟨x5,x6,o,rfl,m,T,G,R⟩;rw[Gq,Tu]at m R;exact{0,q j o l m T N G R}
end
end K04
namespace Nt
theorem X5{l S:List Nat}(nd:l.Nodup)(h:∀p∈l,p∈S):⇑l<=⇑S:=by
 induction l generalizing S with
 |nil=>simp
 |cons a r e=>rw[Dw]at nd;have b:=h a ⋯;have:=e (S:=S.erase a) nd.2 λp c=>(FI (show p≠a fromλz=>nd.1 (by rw[<-z];exact c))).mpr (h p (by simp[c]));rw[L3 b]at this;have d:=Fl b;simp only[TW];ext
theorem xI{f:Nat->Nat}{g k:Nat}(a:g≠k):∀{S:List Nat},g∈S->k∈S->f g+f k<=(S.map f).sum
 |[],h,_=>by simp at h
 |x::r,d,e=>by
  simp only[TC,FC];by_cases b:x=g
  .subst b;have:=sy (f:=f) ((Td.mp e).resolve_left (GQ a));lia
  .by_cases c:x=k
   .subst c;have:=sy (f:=f) ((Td.mp d).resolve_left a);lia
   .have:=xI (f:=f) a ((Td.mp d).resolve_left (GQ b)) ((Td.mp e).resolve_left (GQ c));lia
theorem ia.chS{f:Type}{S:List Nat}{d:List (Nat×Nat×f)}{Xs:Nat->Nat->Option Nat}{up:Nat->Option Nat}(F:ia S d Xs up){p:Nat}{l:List Nat}(h:Ch up p l)(b:p∈S):∀q∈l,q∈S:=by
 induction h with
 |top=>intro q a;cases Tf.mp a;exact b
 |step e _ c=>
  intro q a;rcases Td.mp a with rfl|a
  .exact b
  .exact c (F.inS _ _ e).2 q a
theorem vr{W a:Type}(x:ic W a):cls x<=⇑x.S:=List.countP_le_length
end Nt
namespace K04
open PySem L2 Sb Nt
variable{C:Ge}{fd:Du}
inductive xK(P:Gn)(w:Ti)(C:Ge)(vs:List V)(H:Hp)(Q:VK):Prop
 |mk (n:Ge) (A:Na) (fs:List Fm) (tb:Nat) (x:Nn) (c:Ge) (a:Nat) (b:Nat) (r:Option Ia) (pend:List Lk) (h0:vs=[↑n,↑c]) (h1:Yk P w C H n A fs tb x) (h2:iP fs x.S) (h3:Og H ↑c (a,b,r)) (h4:Wy (Yu fs) (Zx fs) x (pend++[(a,b,r)])) (h5:x.zu a≠x.zu b) (h6:⇑x.S<=10000) (h7:Ji x<=10000) (h8:⇑x.zm<=100000) (h9:tb+Ji x<=1000000) (h10:∀(lo hi:Nat)(cl:List Nat)(l:Ge)(es:List V)(H':Hp),((lo=a/\hi=b)\/(lo=b/\hi=a))->Ch x.up lo cl->Yk P w C H' n A fs (tb+Ji x) (Y1 (Yu fs) (Zx fs) x a b r lo hi cl).1->Ot A x.S H H'->H l=Gp->H' l/.lst es->
  Dm (Og H') es (Y1 (Yu fs) (Zx fs) x a b r lo hi cl).2->Q ↑l H'):xK P w C vs H Q
def wJ(P:Gn)(w:Ti)(C:Ge):Sp:=λa H Q _=>xK P w C a H Q
section
variable{P:Gn}{w:Ti}{K:Gd}{mg:TQ->Option Gh}{base:Heap}
theorem vS:Q4 ["self","link","one","other"] ["self","link"] (Qm Wo):=by eq_refl
theorem Quk{H:Hp}{a b:Ge}{o u:HO}(h:a≠b):zj (zj H a o) b u=zj (zj H b u) a o:=by
 funext c
 by_cases d:c=b
 .subst d;rw[Qb,Qh (GQ h),Qb]
 .rw[Qh d];by_cases e:c=a
  .subst e;rw[Qb,Qb]
  .rw[Qh e,Qh e,Qh d]
theorem Rp(x y:V)(a:List V):Rt (x::y::a) (1:Int)/y:=Zi (xs:=x::y::a) (j:=1) rfl
theorem jz(x y z:V)(a:List V):Rt (x::y::z::a) (2:Int)/z:=Zi (xs:=x::y::z::a) (j:=2) rfl
theorem Qix{f fH fG:Ge}{aq ap:Du}(F:Wc K "merge_link" "Net.merge_link" Wo f fd)(d:Jb K mg C)(S:Ie mg)(mH:Ym K C "hang" fH)(GH:Qz P w K mg base Z4 1 fH aq ["self","low","high"] (rb P w C))(bH:zk K aq ["self","low","high"] [])
  (mG:Ym K C "give_over" fG)(GG:Qz P w K mg base Z4 2 fG ap ["self","gone","kept"] (qh P w C))(bG:zk K ap ["self","gone","kept"] []):
  Qz P w K mg base Z4 3 f fd ["self","link"] (wJ P w C):=by
 refine F.ok vS (λB y an ac l=>?_) (λI c Z s y B an ac hr l=>?_)
 .obtain⟨n,c,fs,R,x,E,a,b,ak,aM,rfl,_⟩:=l;rfl
 have(n,c,fs,R,x,E,a,b,ak,aM,rfl,X,aH,hc,g,ay,hS,hT,hL,aW,q):=l;have m:=Jy hr;have az:Yd 1 _:=hr.mono (by lia);have aA:Yd 2 _:=hr.mono (by lia);have nd:=vS.nd;show∃t,Wf ?my _ t/\_;let aN:Vr ?my Wo 6:={_,Qc (Zl (Zk {0} d.cl mH GH az bH .nil Q7 (Qa {3} (Qa {2} Qe)))) (Qg (Qu (Zk {0} d.cl mG GG aA bG .nil Q7 (Qa (Yb m (Qx {0}) {3} (λ_ _=>rfl)) (Qa (Yb m (Qx {0}) {2} (λ_ _=>rfl)) Qe)))))}
 let aO:Subtype (Wf ?my (sub [5,0] (Zd Wo))):={_,Qc (Zl (Zk {0} d.cl mH GH az bH .nil Q7 (Qa {2} (Qa {3} Qe)))) (Qg (Qu (Zk {0} d.cl mG GG aA bG .nil Q7 (Qa (Yb m (Qx {0}) {2} (λ_ _=>rfl)) (Qa (Yb m (Qx {0}) {3} (λ_ _=>rfl)) Qe)))))}
 let aP:Vr ?my Wo 5:={_,Qc (Zc (Qo oT (Qp Zm rfl S.len Tp (Qa (Yb m (Qx {0}) (Yb m (Qx {0}) {2} (λ_ _=>rfl)) (λ_ _=>rfl)) Qe)) (Qp Zm rfl S.len Tp (Qa (Yb m (Qx {0}) (Yb m (Qx {0}) {3} (λ_ _=>rfl)) (λ_ _=>rfl)) Qe)) (Qs _)) aO.2 Qw) aN.2}
 let aQ:Vr ?my Wo 3:={_,Qc (Vm m (Qx {0}) (Zg (Qa {3} (Qa {2} Qe))) (Qp Zm rfl S.len Tp (Qa (Qx {0}) Qe)) rfl) (Qc (Zl (Xx Te Tx TB Z0 (Qx {0}) (Qa {1} Qe))) aP.2)}
 let aR:Vr ?my Wo 1:={_,Qc (Q3 3 nd (Qn Qt {1} Qj)) (Qc (Vm m (Qx {0}) (Zg (Qa {2} (Qa {3} Qe))) (Qp Zm rfl S.len Tp (Qa (Qx {0}) Qe)) rfl) aQ.2)}
 exists _,Qc (Q3 2 nd (Qn Qt {1} Qj)) aR.2;ac_nf;have(A,Q):=X.ob;have(c',rv,ec,ar,aV):=id hc;intros;cases ec;ac_nf;have(o,l1,l2):=X.li;have(kv,U,a2,a3):=X.at_;have ll:⇑o=⇑x.zm:=GJ l2;have(W,Y,_):=g.pnd a b ak ⋯;intros;have lv:(V.int (⇑o:Int))=jv ⇑x.zm:=by rw[ll];rfl
 exists 0,E,201,Qk ar,Of _ _,0,E,201,Qk ar,Rp _ _ _;exists 0,n,C,A,30,Q,d.cl,d.zm,Js _,c.k,o,1,.inl (Qi l1);rw[lv];refine{0,n,C,A,30,Q,d.cl,d.Qdp,pE _,00,Yz,λG af=>?_};have s1:=Qf af (.tup [jv a,jv b]);exists c.a,0,Oe.t (k:=[ki a,ki b]) (s1 _ _ U) Qb (by rw[TD];lia);have aT:G≠c.a:=λh=>by rw[h,U]at af;cases af
 have nA:n≠c.a:=Ys Q U nofun;have kA:c.k≠c.a:=Ys l1 U nofun;generalize av:V7 kv [ki a,ki b] (jv ⇑x.zm)=N;have o2:(zj (zj y G (.tup [jv a,jv b])) c.a (.dT N)) n/.ins C A (Xr c):=by rw[Qh nA];exact s1 _ _ Q
 have aJ:(zj (zj y G (.tup [jv a,jv b])) c.a (.dT N)) c.k/.lst o:=by rw[Qh kA];exact s1 _ _ l1
 exists 0,n,C,A,30,o2,d.cl,d.zm,Js _,c.k,o,1,.inl (Qi aJ);rw[lv];refine{0,n,C,A,30,o2,d.cl,d.Qdp,pE _,00,Yz,λL M=>?_};have s2:=Qf M (.tup [jv b,jv a]);have ao:L≠c.a:=λh=>by rw[h,Qb]at M;cases M
 have aX:⇑N<=2*⇑x.zm+1:=by rw[<-av];have:=Vc kv [ki a,ki b] (jv ⇑x.zm);lia
 exists c.a,0,Oe.t (k:=[ki b,ki a]) (s2 _ _ Qb) Qb (by rw[TD];lia);generalize aw:V7 N [ki b,ki a] (jv ⇑x.zm)=kv2;have aK:⇑kv2<=2*(⇑x.zm+1):=by rw[<-aw];have:=Vc N [ki b,ki a] (jv ⇑x.zm);lia
 rw[Quk (a:=c.a) (b:=L) (GQ ao),X9];have aI:(zj y G (.tup [jv a,jv b])) L=Gp:=by rw[Qh ao]at M;exact M
 have D:Q5 y (zj (zj y G (.tup [jv a,jv b])) L (.tup [jv b,jv a])):=s1.trans (Qf aI _);generalize aU:zj (zj y G (.tup [jv a,jv b])) L (.tup [jv b,jv a])=T at D;have o3:(zj T c.a (.dT kv2)) n/.ins C A (Xr c):=by rw[Qh nA];exact D _ _ Q
 have l3:(zj T c.a (.dT kv2)) c.k/.lst o:=by rw[Qh kA];exact D _ _ l1
 exists 0,n,C,A,30,o3,d.cl,d.zm,Js _,.inl {13,Qi l3},0,c.k,o,01,l3,(by rw[TD];lia);have Xa:=X.same D;have u:=Xa.Q0t (kv2:=kv2) (ls':=o++[↑E]) (lks:=x.zm++[(a,b,ak)]) (lat':=iz x.Xs a b ⇑x.zm) (by rw[Gs,Tg];exact aK) (λi j=>by
  rw[<-aw,sF,<-av,sF,a3];unfold iz;by_cases z:(i=a/\j=b)\/(i=b/\j=a)
  .rw[GY z];rcases z with⟨rfl,rfl⟩|⟨rfl,rfl⟩
   .rw[GY rfl];split<;>rfl
   .rw[GY rfl];rfl
  .rw[Gu z,Gu (λh=>z (by simp only[DP,BU]at h;exact .inr {Ii h.1,Ii h.2})),Gu (λh=>z (by simp only[DP,BU]at h;exact .inl {Ii h.1,Ii h.2}))])
  (Yx (Qr l2 λ_ _ l=>l.Qv (Q8.of D)) (.cons (hc.Qv (Q8.of D)) .nil))
 have Fb:Ot c x.S y (zj (zj T c.a (.dT kv2)) c.k (.lst (o++[↑E]))):=((Ot.of D).trans (Ot.zj (.inr (.inr (.inr (.inr (.inr (.inl Xb)))))))).trans (Ot.zj (.inr (.inr (.inr (.inr (.inl Xb))))));generalize zj (zj T c.a (.dT kv2)) c.k (.lst (o++[↑E]))=Hb at u Fb;have(H,J):=u.ob;have aB:=g.ld a W;have aC:=g.ld b Y;have go:∀e hi,((e=a/\hi=b)\/(e=b/\hi=a))->rb P w C [↑n,jv e,jv hi] Hb (λ_ r=>∃k,r n/.ins C k (Xr c)/\r c.l/.dK (dS x.S λp=>jv (x.zu p))/\qh P w C [↑n,jv (x.zu e),jv (x.zu hi)] r an ac) ac:=by
  intro e hi aa;have ab:e∈x.S:=by rcases aa with⟨l,_⟩|⟨l,_⟩<;>rw[l]<;>assumption
  have au:hi∈x.S:=by rcases aa with⟨_,l⟩|⟨_,l⟩<;>rw[l]<;>assumption
  have ax:x.zu e≠x.zu hi:=by
   rcases aa with⟨z,h2⟩|⟨z,h2⟩<;>rw[z,h2]
   .exact ay
   .exact GQ ay
  have I:=g.ld e ab;have Z:=g.idem e ab;have kS:=g.ld hi au;have kk:=g.idem hi au;have(cl,ag):=g.fst.chain e ab;refine{n,c,fs,R,_,e,hi,cl,1,u,ag,g.fst.chS ag ab,by show ⇑x.S<=_;lia,λr X1 k1 t1=>?_};have(k,v):=X1.ob;have F1:Ot c x.S Hb r:={λb aL aG hb=>k1 b aL aG (λh=>hb (h▸.inr (.inr (.inr (.inr (.inr (.inr (.inl Xb)))))))),t1};have aY:=X5 (g.Qnq _ I Z) λp B=>((g.Qdg _ I Z p).mp B).1;have aZ:=X5 (g.Qnq _ kS kk) λp B=>((g.Qdg _ kS kk p).mp B).1;have am:=xI (f:=λp=>if x.zu p=p then ⇑(x.Xz p) else 0) ax I kS;rw[GY Z,GY kk]at am;have am:⇑(x.Xz (x.zu e))+⇑(x.Xz (x.zu hi))<=Ji x:=am;refine{k,v,X1.le,n,c,fs,R,_,x.zu e,x.zu hi,1,X1,aH,I,kS,ax,λp B=>((g.Qdg _ I Z p).mp B).1,λp B=>g.Qlw _ I p B,by show ⇑x.S<=_;lia,?_,?_,?_,λai es H' aD FY lY rY pY=>?_}
  .show ⇑(x.mem (x.zu hi))+⇑(x.mem (x.zu e))<=_;lia
  .show ⇑(x.Xz (x.zu hi))+⇑(x.Xz (x.zu e))<=_;lia
  .show R+⇑(x.Xz (x.zu e))<=_;lia
  .refine q e hi cl ai es H' aa ag (Yk.mono ?_ aD) ((Fb.trans F1).trans FY) (Fb.there ai (t1 ai lY)) rY pY;show R+⇑(x.Xz (x.zu e))<=_;lia
 have aE:=go a b (.inl ⟨Xb,Xb⟩);have aF:=go b a (.inr ⟨Xb,Xb⟩);exists 0,n,C,H,30,J,d.cl,d.members,Vz _,0,n,C,H,30,J,d.cl,d.Vx,Xg _,0,c.l,0,X0 u.le W,c.m,0,X0 u.me aB,30,.inl (Qi (u.ml _ aB)),0,n,C,H,30,J,d.cl,d.members,Vz _,0,n,C,H,30,J,d.cl,d.Vx,Xg _,0,c.l,0,X0 u.le Y,c.m,0,X0 u.me aC,30,.inl (Qi (u.ml _ aC)),3010;refine Uv (λ_=>?_) (λ_=>?_)
 .subst_vars;have(n',A',ae,al,x',aj,ah,ad,e1,e2,e3,e4,e5,e6):=aE;intros;refine{0,n,H,0,J,wj _,00,n',A',ae,al,x',aj,ah,ad,e1,e2,e3,e4,e5,λr y1 y2 y3=>?_};have(k,v,O,g1):=e6 r y1 y2 y3;exact{0,n,k,0,v,z0 _,0,n,C,k,30,v,d.cl,d.Vx,Xg _,0,c.l,0,X0 O W,0,n,C,k,30,v,d.cl,d.Vx,Xg _,0,c.l,0,X0 O Y,g1}
 .subst_vars;have(n',A',ae,al,x',aj,ah,ad,e1,e2,e3,e4,e5,e6):=aF;intros;refine{0,n,H,0,J,wj _,00,n',A',ae,al,x',aj,ah,ad,e1,e2,e3,e4,e5,λr y1 y2 y3=>?_};have(k,v,O,g1):=e6 r y1 y2 y3;exact{0,n,k,0,v,z0 _,0,n,C,k,30,v,d.cl,d.Vx,Xg _,0,c.l,0,X0 O Y,0,n,C,k,30,v,d.cl,d.Vx,Xg _,0,c.l,0,X0 O W,g1}
structure iv(fs:List Fm)(x x':Nn)(a b:Nat)(r:Option Ia)(pend:List Lk):Prop where
 inv:Wy (Yu fs) (Zx fs) x' pend
 S:x'.S=x.S
 Ji:Ji x'=Ji x
 eq:Cj x.S x'.zu pend a b
 mono:∀p∈x.S,∀q∈x.S,x.zu p=x.zu q->x'.zu p=x'.zu q
 snd:∀E,Ec (Yu fs) (Zx fs) x.S E->ij E x [(a,b,r)]->ij E x' pend
 rsn:∀y∈x'.zm,y∈x.zm\/y=(a,b,r)\/y.2.2=Gp
 pnd:∀y∈pend,y=(a,b,r)\/y.2.2=Gp
 less:cls x'+⇑x'.zm<=cls x+⇑x.zm
 more:⇑x.zm<=⇑x'.zm
inductive Kz(P:Gn)(w:Ti)(C:Ge)(vs:List V)(H:Hp)(Q:VK):Prop
 |mk (n:Ge) (A:Na) (fs:List Fm) (tb:Nat) (x:Nn) (a:Nat) (b:Nat) (rv:V) (r:Option Ia) (h0:vs=[↑n,jv a,jv b,rv]) (h1:Yk P w C H n A fs tb x) (h2:iP fs x.S) (h3:kM H rv r) (h4:r≠Gp) (h5:a∈x.S) (h6:b∈x.S) (h7:Wy (Yu fs) (Zx fs) x []) (h8:⇑x.S<=10000) (h9:Ji x<=10000) (h10:cls x+⇑x.zm<=10000) (h11:tb+cls x*Ji x<=900000) (h12:∀(x':Nn)(H':Hp),Yk P w C H' n A fs (tb+(⇑x'.zm - ⇑x.zm)*Ji x) x'->iv fs x x' a b r []->Ot A x.S H H'->Q .non H'):Kz P w C vs H Q
def rW(P:Gn)(w:Ti)(C:Ge):Sp:=λa H Q _=>Kz P w C a H Q
theorem iv.start{c:List Fm}{x:Nn}{a b:Nat}{r:Option Ia}(I:Wy (Yu c) (Zx c) x [])(g:r≠Gp)(d:a∈x.S)(f:b∈x.S):iv c x x a b r [(a,b,r)]:=
 {I.vV (λ_ _ _ h=>by simp at h) λi j k h=>by simp at h;have(rfl,rfl,rfl):=h;exact{d,f,λe=>absurd e g},11,.wait (r:=r) ⋯,λ_ _ _ _ e=>e,λE _ h=>h,λy h=>.inl h,λy h=>by simp at h;exact .inl h,Gy _,Gy _}
theorem iv.drop{k:List Fm}{x d:Nn}{a b f g:Nat}{r l:Option Ia}{c:List Lk}(M:iv k x d a b r (c++[(f,g,l)]))(e:d.zu f=d.zu g):iv k x d a b r c:=by
 have(i,j,_):=M.inv.pnd f g l ⋯;rw[M.S]at i j;refine{M.inv.drop e,M.S,M.Ji,M.eq.map (λp n q o e=>.zu n o e) (λp q w m=>?_),M.mono,λE X h=>{(M.snd E X h).1,λu v s m=>(M.snd E X h).2 u v s (Gv _ m)},M.rsn,λy t=>M.pnd y (Gv _ t),M.less,M.more};rcases Gi.mp m with m|m
 .exact .wait m
 .simp at m;have(rfl,rfl,rfl):=m;exact .zu i j e
theorem iv.join{g:List Fm}{x c:Nn}{a b d f:Nat}{r l:Option Ia}{n:List Lk}(M:iv g x c a b r (n++[(d,f,l)]))(t:c.zu d≠c.zu f){k hi:Nat}{o:List Nat}(j:(k=d/\hi=f)\/(k=f/\hi=d))(B:Ch c.up k o):
  iv g x (Y1 (Yu g) (Zx g) c d f l k hi o).1 a b r (n++(Y1 (Yu g) (Zx g) c d f l k hi o).2):=by
 have(D,F,_):=M.inv.pnd d f l ⋯;have(J,L):=M.inv.join t j B;have(I,G,K,N):=M.inv.less t j B;have C:∀p∈c.S,∀q∈c.S,c.zu p=c.zu q->(Y1 (Yu g) (Zx g) c d f l k hi o).1.zu p=(Y1 (Yu g) (Zx g) c d f l k hi o).1.zu q:=λp w q z e=>by rw[L p w,L q z,e]
 have A:(Y1 (Yu g) (Zx g) c d f l k hi o).1.zu d=(Y1 (Yu g) (Zx g) c d f l k hi o).1.zu f:=by
  rw[L d D,L f F];rcases j with⟨rfl,rfl⟩|⟨rfl,rfl⟩
  .rw[GY rfl];split<;>rfl
  .rw[GY rfl];split<;>rfl
 exists J,M.S,G.trans M.Ji,M.eq.map (λp w q z e=>.zu w z (C p (M.S▸w) q (M.S▸z) e)) (λp q H m=>?_),λp w q z e=>C p (M.S▸w) q (M.S▸z) (M.mono p w q z e),λE X h=>ij.join (M.snd E X h) (by rw[M.S];exact X) M.inv t j B,λy i=>?_,λy i=>?_,?_
 .rcases Gi.mp m with m|m
  .exact .wait (Gv _ m)
  .simp at m;have(rfl,rfl,rfl):=m;exact .zu (M.S▸D) (M.S▸F) A
 .have i:y∈c.zm++[(d,f,l)]:=i;rcases Gi.mp i with i|i
  .exact M.rsn y i
  .rw[Tf]at i;subst i;exact .inr (M.pnd _ ⋯)
 .rcases Gi.mp i with i|i
  .exact M.pnd y (Gv _ i)
  .obtain⟨u,v,s⟩:=y;exact .inr (Qmj i)
 .have:=M.less;lia
 .have:=M.more;lia
theorem tK:Q4 ["self","one","other","reason","waiting","link"] ["self","one","other","reason"] (Qm pH):=by eq_refl
theorem WI{c d:Type}{F:c->d->Prop}{a:List c}{b:List d}(p:Dm F a b)(l:a≠[]):∃x y,a[⇑a - 1]?/x/\b=b.dropLast++[y]/\F x y/\Dm F a.dropLast b.dropLast:=by
 induction p with
 |nil=>exact absurd rfl l
 |cons h t j=>
  cases t with
  |nil=>exact{301,h,.nil}
  |cons k t=>
   have(x,y,e,f,g,i):=j nofun;exists x,y,?_,?_,g
   .simpa using e
   .simp only[MY,D9];rw[<-f]
   .simp only[MY];exact .cons h i
theorem Qtt{ak fE fM:Ge}{al am:Du}(F:Wc K "merge" "Net.merge" pH ak fd)(ah:Jb K mg C)(mE:Ym K C "equal" fE)(GE:Qz P w K mg base Z4 1 fE al ["self","one","other"] (oA P w C))(bE:zk K al ["self","one","other"] [])
  (mM:Ym K C "merge_link" fM)(GM:Qz P w K mg base Z4 3 fM am ["self","link"] (wJ P w C))(bM:zk K am ["self","link"] []):
  Qz P w K mg base Z4 4 ak fd ["self","one","other","reason"] (rW P w C):=by
 refine F.ok tK (λc E ag a l=>?_) (λf j o s E c ag a hr l=>?_)
 .obtain⟨n,j,h,tb,x,H,I,W,ac,rfl,_⟩:=l;rfl
 have(n,j,h,tb,x,H,I,W,ac,rfl,X,az,aG,aF,aS,bS,aw,hS,hT,aL,aP,q):=l;have aD:Yd 1 _:=hr.mono (by lia);have aE:Yd 3 _:=hr.mono (by lia);have nd:=tK.nd;exists _,Qc (Q3 4 nd (Zz (Qa (Zg (Qa {1} (Qa {2} (Qa {3} Qe)))) Qe)))
  (Qg (Ww To (vj {4} (λ_=>rfl))
   (Qc (Q3 5 nd (O2 Te EG EH Oz {4}))
   (Qg (Zc (Yi (Z2 (Zk {0} ah.cl mE GE aD bE .nil Q7 (Qa (Qn Qt {5} Qj) (Qa (Qn Qt {5} Qj) Qe)))))
    (Qg (Zl (Xx Te LZ L1 p6 {4} (Qa (Zk {0} ah.cl mM GM aE bM .nil Q7 (Qa {5} Qe)) Qe)))) Qw)))))
 have(dx,o1):=X.ob;refine{000,Vb,λaa T=>?_};have s1:=Qf T (.tup [jv H,jv I,W]);refine{Uu,λe aq=>?_};have s2:=Qf aq (.lst [↑aa]);have ad:=s1.trans s2;have t:E e=Gp:=s1.free aq;have wO:¬hX j x.S e:=X.QK t;have wf:e≠j.f:=λm=>by have(d,f1,_):=X.fo;rw[m,f1]at t;cases t
 have wn:e≠n:=λm=>by rw[m,o1]at t;cases t
 dsimp only[Wt];let aH:Nat->St->Hp->Prop:=λau af i=>iE λ(x5:Option V)(d:List V)(b:Nn)(r:List Lk)=>iu (au=cls b*(Ji x+1)+⇑r) (af=[Ga ↑n,Ga (jv H),Ga (jv I),Ga W,Ga ↑e,x5]) (i e/.lst d) (Dm (Og i) d r) (Yk P w C i n j h (tb+(⇑b.zm - ⇑x.zm)*Ji x) b) (iv h x b H I ac r) (Ot j x.S E i) (⇑r<=1+(cls x - cls b)*Ji x)
 refine qp aH
  {_,Gp,[↑aa],x,[(H,I,ac)],11,Qb,.cons {aa,W,1,s2 _ _ Qb,aG.Qv (Q8.of ad)} .nil,(X.same ad).mono (by lia),iv.start aw aF aS bS,Ot.of ad,by simp} ?_ (λaf E ag c a=>λl=>by have(av,e1,k,R,e3):=l;exact{av,e1,k,R,a _ _ e3})
 rintro au af i ⟨x5,d,b,r,rfl,rfl,Z,p2,ai,g,F2,pl⟩;exists 03,.inl {d,Qi Z,1};have aT:=GJ p2;have aK:=vr x;cases hw:d with
 |nil=>refine Q6 ?_;subst hw;cases p2;exact q b i ai g F2
 |cons m zs=>
  refine Yw ?_;have aC:d≠[]:=by rw[hw];simp
  have(av,(o,p,u),e1,R,e3,e4):=WI p2 aC;have ap:⇑r=⇑r.dropLast+1:=by rw[R];simp
  have(J,aI,rfl,an,aA):=e3;exists 0,.inl {13,Qi Z},e,d,01,Z,e1;have Y:Q8 i (zj i e (.lst d.dropLast)):=Z1 λxs c=>by rw[Z]at c;cases c
  have v:=g.S;have y:Yk P w C (zj i e (.lst d.dropLast)) n j h (tb+(⇑b.zm - ⇑x.zm)*Ji x) b:=ai.keep (λf B c a=>by
   rw[Qh λm=>?_]
   .exact c
   .subst m;rcases a with a|a|a
    .rw[v]at a;exact wO a
    .exact wf a
    .exact wn a) Y
  have O:Ot j x.S E (zj i e (.lst d.dropLast)):=⟨λf B c a=>by rw[Qh (Qd c t)];exact F2.keep f B c a,λf a=>by
   by_cases c:f=e
   .subst c;exact t
   .rw[Qh c]at a;exact F2.there f a⟩
  have N:(zj i e (.lst d.dropLast)) e/.lst d.dropLast:=Qb;have L:Dm (Og (zj i e (.lst d.dropLast))) d.dropLast r.dropLast:=Qr e4 λ_ _ l=>l.Qv Y;have l3:Og (zj i e (.lst d.dropLast)) ↑J (o,p,u):=Og.Qv Y ⟨J,aI,Xb,an,aA⟩;have ab:=Y _ _ an;generalize zj i e (.lst d.dropLast)=H3 at y O N L l3 ab;rw[R]at g;generalize r.dropLast=M at g L ap;have(ax,ay,_):=g.inv.pnd o p u ⋯;have(aj,o3):=y.ob;exists 0,n,aj,0,o3,rj _,0,J,201,Qk ab,Of _ _,0,J,201,Qk ab,Rp _ _ _,n,j,h,_,b,o,p,1,y,ax,ay,0;by_cases A:b.zu o=b.zu p
  .rw[Tk A];refine Q6 {_,?_,_,d.dropLast,b,M,11,N,L,y,g.drop A,O,by lia};lia
  .rw[Tj A];refine Yw ?_;have aB:⇑b.zm - ⇑x.zm<=cls x:=by have:=g.less;lia
   have aO:(⇑b.zm - ⇑x.zm)*Ji x<=cls x*Ji x:=SJ _ aB;have z:=g.Ji;have aR:⇑d.dropLast=⇑M:=GJ L;have aM:⇑M+Ji x<=1000000:=by have:(cls x - cls b)*Ji x<=cls x*Ji x:=SJ _ (Nat.sub_le _ _);lia
   refine{0,.inl {13,Qi N},0,n,aj,0,o3,Qiy _,0,n,j,h,_,b,J,o,p,u,M,1,y,by rw[v];exact az,l3,g.inv,A,by rw[v];exact hS,by rw[z];exact hT,by have:=g.less;lia,by rw[z];lia,λU hi Q ar S G ao T Y4 D hl r4 p4=>?_};rw[v]at D;have w4:G e/.lst d.dropLast:=D.keep _ _ N wO;have aN:ar≠e:=λm=>by rw[m,N]at hl;cases hl
   have(j1,j2,j3,j4):=g.inv.less A ao T;have aQ:⇑S<=Ji x:=by rw[GJ p4,<-z];exact j3
   exists e,ar,d.dropLast,S,11,w4,r4,small (by lia);have aJ:Q8 H3 G:=λf xs c=>D.keep f _ c (by rw[<-v];exact y.qb c);have ae:Q8 G (zj G e (.lst (d.dropLast++S))):=Z1 λxs c=>by rw[w4]at c;cases c
   have Y5:Yk P w C (zj G e (.lst (d.dropLast++S))) n j h _ _:=Y4.keep (λf B c a=>by
    rw[Qh λm=>?_]
    .exact c
    .subst m;rcases a with a|a|a
     .have a:hX j b.S f:=a;rw[v]at a;exact wO a
     .exact wf a
     .exact wn a) ae
   have M5:=g.join A ao T;exists cls (Y1 (Yu h) (Zx h) b o p u U hi Q).1*(Ji x+1)+⇑(M++(Y1 (Yu h) (Zx h) b o p u U hi Q).2),?_,3201,Qb,Yx (Qr L λ_ _ l=>(l.Qv aJ).Qv ae) (Qr p4 λ_ _ l=>l.Qv ae),Y5.mono ?_,M5,{λf B c a=>?_,λf a=>?_}
   .rw[Gs,ap];have hj:cls (Y1 (Yu h) (Zx h) b o p u U hi Q).1+1<=cls b:=j1;have:=SJ (Ji x+1) hj;rw[Le,Bz]at this;rw[z]at j3;lia
   .rw[z,j4];have:=g.more;rw[show ⇑b.zm+1 - ⇑x.zm=(⇑b.zm - ⇑x.zm)+1 by lia,Le,Bz];lia
   .rw[Qh (Qd c t)];exact D.keep f B (O.keep f B c a) a
   .by_cases c:f=e
    .subst c;exact t
    .rw[Qh c]at a;exact O.there f (D.there f a)
   .rw[Gs];have h1:cls x - cls b+1<=cls x - cls (Y1 (Yu h) (Zx h) b o p u U hi Q).1:=by have:=g.less;have:=g.more;lia
    have:=SJ (Ji x) h1;rw[Le,Bz]at this;rw[z]at j3;lia
inductive yY(P:Gn)(w:Ti)(C:Ge)(vs:List V)(H:Hp)(Q:VK):Prop
 |mk (n:Ge) (dx:Ge) (f:Ge) (ws:List V) (fs:List Fm) (h0:vs=[↑n,↑f]) (h1:H n/.ins C dx []) (h2:H f/.lst ws) (h3:Dm (I0 H) ws fs) (h4:∀(A:Na)(H':Hp),A.f=f->Yk P w C H' n A fs 0 (fresh (Yu fs) (Zx fs) [])->(∀b o,H b/o->b≠n->H' b/o)->(∀b,hX A [] b->H b=Gp)->Q .non H'):yY P w C vs H Q
def vD(P:Gn)(w:Ti)(C:Ge):Sp:=λa H Q _=>yY P w C a H Q
theorem Px:Q4 ["self","forms"] ["self","forms"] (Qm oG):=by eq_refl
theorem YC{f0:Ge}(F:Wc K "__init__" "Net.__init__" oG f0 fd)(z:Jb K mg C):Qz P w K mg base Z4 1 f0 fd ["self","forms"] (vD P w C):=by
 refine F.ok Px (λvs y ap ao U=>?_) (λaD aC aE s y vs ap ao hr U=>?_)
 .obtain⟨n,e,o,ws,fs,rfl,_⟩:=U;rfl
 have(n,e,o,ws,fs,rfl,hn,hf,aA,q):=U;show∃t,Wf ?my _ t/\_;let aB:Vr ?my oG 3:={_,Qc (Xn {0} Jz Xb) (Qc (Xn (tv:=sH P w) {0} Ju Xb) (Qc (Xn {0} (Zz Qe) rfl) (Qc (Xn {0} oF Xb) (Qg (Xn {0} Jz Xb)))))}
 exists _,Qc (Xn {0} {1} rfl) (Qc (Xn {0} Jz Xb) (Qc (Xn {0} Jz Xb) aB.2));have h:∀{u:Hp}{a E:Ge}{b X:HO}{ab:List (TQ×V)},u a/b->a≠n->u E=Gp->(zj (zj u E X) n (.ins C e ab)) a/b:=λd c ha=>by rw[Qh c,Qh (Qd d ha)];exact d
 have Y:∀{u:Hp}{E:Ge}{X:HO}{ab:List (TQ×V)}{b:HO},u n/b->u E=Gp->(zj (zj u E X) n (.ins C e ab)) E/X:=λd ha=>by rw[Qh (GQ (Qd d ha)),Qb]
 exists 00,n,C,e,[],1,hn,z.cl,z.Qer,(by show 0<1000;decide);have fn:o≠n:=Ys hf hn nofun;have g0:∀a b,y a/b->a≠n->(zj y n (.ins C e (Y0 "forms" ↑o []))) a/b:=λa b d c=>by rw[Qh c];exact d
 have n0:(zj y n (.ins C e (Y0 "forms" ↑o []))) n/.ins C e (Y0 "forms" ↑o []):=Qb;have t0:∀a,(zj y n (.ins C e (Y0 "forms" ↑o []))) a=Gp->y a=Gp:=λa c=>by
  by_cases d:a=n
  .subst d;rw[Qb]at c;cases c
  .rw[Qh d]at c;exact c
 generalize zj y n (.ins C e (Y0 "forms" ↑o []))=u at g0 n0 t0;have tt:∀{u:Hp}{E:Ge}{X:HO}{ab:List (TQ×V)},(∀a,u a=Gp->y a=Gp)->∀a,(zj (zj u E X) n (.ins C e ab)) a=Gp->y a=Gp:=λU a c=>by
  refine U a ?_;by_cases d:a=n
  .subst d;rw[Qb]at c;cases c
  .rw[Qh d]at c
   rename_i u E X ab
   by_cases e2:a=E
   .subst e2;rw[Qb]at c;cases c
   .rw[Qh e2]at c;exact c
 intro g ae;exists 0,n,C,e,0,(by rw[Qh (Qd n0 ae)];exact n0),z.cl,z.Vx,(by show 1<1000;decide);have l1:=@Y u g (.dK []) (Y0 "leads" ↑g (Y0 "forms" ↑o [])) _ n0 ae;have n1:=@Qb (zj u g (.dK [])) n (.ins C e (Y0 "leads" ↑g (Y0 "forms" ↑o [])));have g1:∀a b,y a/b->a≠n->_:=λa b d c=>@h u a g b (.dK []) (Y0 "leads" ↑g (Y0 "forms" ↑o [])) (g0 a b d c) c ae;have t1:=@tt u g (.dK []) (Y0 "leads" ↑g (Y0 "forms" ↑o [])) t0;have ln:g≠n:=GQ (Qd n0 ae);have ar:=t0 _ ae;generalize zj (zj u g (.dK [])) n (.ins C e (Y0 "leads" ↑g (Y0 "forms" ↑o [])))=Z at l1 n1 g1 t1⊢;intro l W;exists 0,n,C,e,0,(by rw[Qh (Qd n1 W)];exact n1),z.cl,z.members,(by show 2<1000;decide);generalize ac:Y0 "members" ↑l (Y0 "leads" ↑g (Y0 "forms" ↑o []))=S;have m2:=@Y Z l (.dK []) S _ n1 W;have n2:=@Qb (zj Z l (.dK [])) n (.ins C e S);have g2:∀a b,y a/b->a≠n->_:=λa b d c=>@h Z a l b (.dK []) S (g1 a b d c) c W;have t2:=@tt Z l (.dK []) S t1;have mn:l≠n:=GQ (Qd n1 W);have aw:=t1 _ W;have l2:=@h Z g l _ (.dK []) S l1 ln W;have lm:g≠l:=Qd l1 W;generalize zj (zj Z l (.dK [])) n (.ins C e S)=T at m2 n2 g2 t2 l2⊢;intro m M;exists 0,n,C,e,0,(by rw[Qh (Qd n2 M)];exact n2),z.cl,z.Qgg,(by rw[<-ac];show 3<1000;decide);generalize ad:Y0 "users" ↑m S=N;have u3:=@Y T m (.dK []) N _ n2 M;have n3:=@Qb (zj T m (.dK [])) n (.ins C e N);have g3:∀a b,y a/b->a≠n->_:=λa b d c=>@h T a m b (.dK []) N (g2 a b d c) c M;have t3:=@tt T m (.dK []) N t2;have un:m≠n:=GQ (Qd n2 M);have ay:=t2 _ M;have l3:=@h T g m _ (.dK []) N l2 ln M;have m3:=@h T l m _ (.dK []) N m2 mn M;have lu:g≠m:=Qd l2 M;have mu:l≠m:=Qd m2 M;generalize zj (zj T m (.dK [])) n (.ins C e N)=O at u3 n3 g3 t3 l3 m3⊢;intro f Q;exists 0,n,C,e,0,(by rw[Qh (Qd n3 Q)];exact n3),z.cl,z.table,by rw[<-ad,<-ac];show 4<1000;decide,Tw _;generalize af:Y0 "table" ↑f N=H;have d4:=@Y O f (Ut P w f []) H _ n3 Q;have n4:=@Qb (zj O f (Ut P w f [])) n (.ins C e H);have g4:∀a b,y a/b->a≠n->_:=λa b d c=>@h O a f b (Ut P w f []) H (g3 a b d c) c Q;have t4:=@tt O f (Ut P w f []) H t3;have dn:f≠n:=GQ (Qd n3 Q);have ax:=t3 _ Q;have l4:=@h O g f _ (Ut P w f []) H l3 ln Q;have m4:=@h O l f _ (Ut P w f []) H m3 mn Q;have u4:=@h O m f _ (Ut P w f []) H u3 un Q;generalize zj (zj O f (Ut P w f [])) n (.ins C e H)=I at d4 n4 g4 t4 l4 m4 u4⊢;intro r L;exists 0,n,C,e,0,(by rw[Qh (Qd n4 L)];exact n4),z.cl,z.zm,(by rw[<-af,<-ad,<-ac];show 5<1000;decide);generalize ah:Y0 "links" ↑r H=B;have k5:=@Y I r (.lst []) B _ n4 L;have n5:=@Qb (zj I r (.lst [])) n (.ins C e B);have g5:∀a b,y a/b->a≠n->_:=λa b d c=>@h I a r b (.lst []) B (g4 a b d c) c L;have t5:=@tt I r (.lst []) B t4;have kn:r≠n:=GQ (Qd n4 L);have ag:=t4 _ L;have l5:=@h I g r _ (.lst []) B l4 ln L;have m5:=@h I l r _ (.lst []) B m4 mn L;have u5:=@h I m r _ (.lst []) B u4 un L;have d5:=@h I f r _ (.lst []) B d4 dn L;generalize zj (zj I r (.lst [])) n (.ins C e B)=D at k5 n5 g5 t5 l5 m5 u5 d5⊢;intro v G;exists 0,n,C,e,0,(by rw[Qh (Qd n5 G)];exact n5),z.cl,z.Qdp,(by rw[<-ah,<-af,<-ad,<-ac];show 6<1000;decide);generalize aj:Y0 "link_at" ↑v B=A;have a6:=@Y D v (.dT []) A _ n5 G;have n6:=@Qb (zj D v (.dT [])) n (.ins C e A);have g6:∀a b,y a/b->a≠n->_:=λa b d c=>@h D a v b (.dT []) A (g5 a b d c) c G;have t6:=@tt D v (.dT []) A t5;have an:v≠n:=GQ (Qd n5 G);have aq:=t5 _ G;have l6:=@h D g v _ (.dT []) A l5 ln G;have m6:=@h D l v _ (.dT []) A m5 mn G;have u6:=@h D m v _ (.dT []) A u5 un G;have d6:=@h D f v _ (.dT []) A d5 dn G;have k6:=@h D r v _ (.dT []) A k5 kn G;generalize zj (zj D v (.dT [])) n (.ins C e A)=H6 at a6 n6 g6 t6 l6 m6 u6 d6 k6⊢;intro J R;exists 0,n,C,e,0,(by rw[Qh (Qd n6 R)];exact n6),z.cl,z.above,(by rw[<-aj,<-ah,<-af,<-ad,<-ac];show 7<1000;decide);have az:Y0 "above" ↑J A=Xr {o,g,l,m,f,r,v,J,λ_=>0,λ_=>0}:=by rw[<-aj,<-ah,<-af,<-ad,<-ac];rfl
 rw[az];have v7:=@Y H6 J (.dK []) (Xr {o,g,l,m,f,r,v,J,λ_=>0,λ_=>0}) _ n6 R;have g7:∀a b,y a/b->a≠n->_:=λa b d c=>@h H6 a J b (.dK []) (Xr {o,g,l,m,f,r,v,J,λ_=>0,λ_=>0}) (g6 a b d c) c R;have s7:∀{a b},H6 a/b->a≠n->_:=λ{a b}d c=>@h H6 a J b (.dK []) (Xr {o,g,l,m,f,r,v,J,λ_=>0,λ_=>0}) d c R;refine q {o,g,l,m,f,r,v,J,λ_=>0,λ_=>0} _ rfl ⟨⟨e,Qb⟩,{ws,g7 _ _ hf fn,Qr aA λ_ _ U=>U.Qv λa xs d=>g7 a _ d (Ys d hn nofun)},s7 l6 ln,s7 m6 mn,s7 u6 un,{[],{s7 d6 dn,(λp x=>nomatch x)},Gy _,λk=>rfl},{[],s7 k6 kn,.nil},{[],s7 a6 an,Gy _,λi j=>rfl},v7,(λp x=>nomatch x),(λp x=>nomatch x),
  {lm,lu,Qd l6 R,mu,Qd m6 R,Qd u6 R,λai=>?_,(λp x=>nomatch x),(λp x=>nomatch x),(λp x=>nomatch x),(λp x=>nomatch x),(λp x=>nomatch x)}⟩ g7 (λa c=>?_)
 .have ai:r=o:=ai;rw[ai,hf]at ag;cases ag
 .rcases c with rfl|rfl|rfl|rfl|rfl|rfl|rfl|⟨p,x,_⟩
  .exact ar
  .exact aw
  .exact ay
  .exact ax
  .exact ag
  .exact aq
  .exact t6 _ R
  .exact nomatch x
end
end K04
namespace Nt
theorem zZ{a:Nat->List Nat}{M:Nat}(h:∀p,⇑(a p)<=M):∀(S:List Nat)(q:Nat),⇑(Xo a S q)<=⇑S*M
 |[],q=>by simp[Xo]
 |p::S,q=>by have b:=zZ h S q;have c:((a p).count q)<=⇑(a p):=NL;have d:=h p;unfold Xo at b⊢;rw[MD,Gs,Sw,TW,Le];lia
theorem UZ{a:Nat->List Nat}{S:List Nat}{p:Nat}(h:∀q∈S,p∉a q):Xo a S p=[]:=by unfold Xo;rw[List.flatMap_eq_nil_iff];intro q b;have:(a q).count p=0:=List.count_eq_zero.mpr (h q b);rw[this];rfl
theorem ZR{l:List Nat}{i u q:Nat}(h:l[i]?/u):(l.take (i+1)).count q=(l.take i).count q+if u=q then 1 else 0:=by
 rw[Tt,h,List.count_append];congr 1;simp only[Option.toList];rw[List.count_singleton];by_cases e:u=q
 .rw[GY e];simp[e]
 .rw[Gu e];simp[e]
end Nt
namespace K04
open PySem L2 Sb Nt
variable{A:Na}{S:List Nat}{H:Hp}{C:Ge}
structure qm(fs:List Fm)(rk:Nat->Nat):Prop where
 str:∀p,DK (Yu fs p)=Gk
 few:∀p,⇑(Zx fs p)<=100
 Ol:∀p,p<⇑fs->∀q∈Zx fs p,q<⇑fs/\rk q<rk p
 inj:∀p q,p<⇑fs->q<⇑fs->Yu fs p=Yu fs q->Zx fs p=Zx fs q->p=q
 len:⇑fs<=1000
structure Frs(P:Gn)(w:Ti)(C:Ge)(H:Hp)(n:Ge)(A:Na)(fs:List Fm)(S:List Nat):Prop where
 at_:Yk P w C H n A fs ⇑S (fresh (Yu fs) (Zx fs) S)
 nd:S.Nodup
 cl:∀p∈S,∀q∈Zx fs p,q∈S
 lt:∀p∈S,p<⇑fs
structure iD(A:Na)(S:List Nat)(A':Na)(S':List Nat)(H H':Hp):Prop where
 keep:∀b o,H b/o->¬hX A S b->H' b/o
 own:∀b,hX A' S' b->hX A S b\/H b=Gp
 there:∀b,H' b=Gp->H b=Gp
theorem iD.refl:iD A S A S H H:={λ_ _ e _=>e,λ_ h=>.inl h,λ_ h=>h}
theorem iD.trans{a c:Na}{g i:List Nat}{d f:Hp}(x:iD A S a g H d)(y:iD a g c i d f):iD A S c i H f:=by
 refine{λb o e h=>y.keep b o (x.keep b o e h) λz=>?_,λb h=>?_,λb h=>x.there b (y.there b h)}
 .rcases x.own b z with z|z
  .exact h z
  .rw[e]at z;cases z
 .rcases y.own b h with h|h
  .exact x.own b h
  .exact .inr (x.there b h)
def na(A:Na)(ml ul:Nat->Ge):Na:={A with ml:=ml,ul:=ul}
inductive A4(P:Gn)(w:Ti)(C:Ge)(k:Nat)(vs:List V)(H:Hp)(Q:VK):Prop
 |mk (n:Ge) (A:Na) (fs:List Fm) (rk:Nat->Nat) (S:List Nat) (p:Nat) (h0:vs=[↑n,jv p]) (h1:Frs P w C H n A fs S) (h2:qm fs rk) (h3:p<⇑fs) (h4:rk p<k) (h5:∀(S':List Nat)(ml ul:Nat->Ge)(H':Hp),Frs P w C H' n (na A ml ul) fs S'->(∀q∈S,q∈S')->p∈S'->(∀q∈S',q∈S\/rk q<=rk p)->iD A S (na A ml ul) S' H H'->Q .non H'):A4 P w C k vs H Q
def kJ(P:Gn)(w:Ti)(C:Ge)(k:Nat):Sp:=λa H Q _=>A4 P w C k a H Q
section
variable{P:Gn}{w:Ti}{K:Gd}{mg:TQ->Option Gh}{base:Heap}
theorem KM:Q4 ["self","place","part"] ["self","place"] (Qm Im):=by eq_refl
theorem VG{P:Gn}{w:Ti}{n:Ge}{g:List Fm}{p:Nat}{m0 u0:Ge}(X:Yk P w C H n A g ⇑S (fresh (Yu g) (Zx g) S))(hp:p∉S)(hm:H m0=Gp)(hu:H u0=Gp)(t:m0≠u0)(x:Xo (Zx g) S p=[]):
  Yk P w C (zj (zj (zj (zj (zj (zj H A.l (.dK (dS (S++[p]) λq=>jv q))) m0 (.lst [jv p])) A.m (.dK (dS (S++[p]) λq=>.ref (if q=p then m0 else A.ml q)))) u0 (.lst [])) A.u (.dK (dS (S++[p]) λq=>.ref (if q=p then u0 else A.ul q)))) A.v (.dK (dS (S++[p]) λ_=>.non)))
   n (na A (λq=>if q=p then m0 else A.ml q) (λq=>if q=p then u0 else A.ul q)) g ⇑S {fresh (Yu g) (Zx g) (S++[p])with Xz:=Xo (Zx g) S,tab:=jA (Yu g) (Zx g) S}:=by
 have(V,o1):=X.ob;have(ws,B,W):=X.fo;have(i,D,T,U):=X.ta;have(ls,E,l2):=X.li;have(kv,Q,R):=X.at_;have j:∀{b o},H b/o->b≠m0:=λe=>Qd e hm;have k:∀{b o},H b/o->b≠u0:=λe=>Qd e hu;have u:∀{b o},H b/o->b≠A.l->b≠A.m->b≠A.u->b≠A.v->(zj (zj (zj (zj (zj (zj H A.l (.dK (dS (S++[p]) λq=>jv q))) m0 (.lst [jv p])) A.m (.dK (dS (S++[p]) λq=>.ref (if q=p then m0 else A.ml q)))) u0 (.lst [])) A.u (.dK (dS (S++[p]) λq=>.ref (if q=p then u0 else A.ul q)))) A.v (.dK (dS (S++[p]) λ_=>.non))) b/o:=λe m s Y Z=>by rw[Qh Z,Qh Y,Qh (k e),Qh s,Qh (j e),Qh m];exact e
 have y:∀{b o},H b/o->(∀i,o≠.dK i)->b≠A.l/\b≠A.m/\b≠A.u/\b≠A.v:=λe h=>{Ys e X.le (h _),Ys e X.me (h _),Ys e X.us (h _),Ys e X.ab (h _)};have l:∀{b o},H b/o->(∀i,o≠.dK i)->_:=λ{b o}e h=>u e (y e h).1 (y e h).2.1 (y e h).2.2.1 (y e h).2.2.2;have K:Q8 H _:=λb xs e=>l e (λ_ z=>nomatch z);have F:=j X.le;have I:=j X.me;have L:=j X.us;have N:=j X.ab;have G:=k X.le;have J:=k X.me;have M:=k X.us;have O:=k X.ab;have f:∀q∈S,q≠p:=λq a z=>hp (z▸a);refine{{V,l o1 (λ_ z=>nomatch z)},{ws,l B (λ_ z=>nomatch z),Qr W λ_ _ h=>h.Qv K},?_,?_,?_,{i,{l D.at_ (λ_ z=>nomatch z),Zf K D.keys},T,U},{ls,l E (λ_ z=>nomatch z),Qr l2 λ_ _ h=>h.Qv K},{kv,l Q (λ_ z=>nomatch z),R},Qb,λq a=>?_,λq a=>?_,{X.ap.lm,X.ap.lu,X.ap.lv,X.ap.mu,X.ap.mv,X.ap.uv,X.ap.kf,λq a r v=>?_,λq a r v=>?_,λq a r v=>?_,λq a=>?_,λq a=>?_}}
 .show(zj _ A.v _) A.l/HO.dK (dS (S++[p]) λq=>jv q);rw[Qh X.ap.lv,Qh X.ap.lu,Qh G,Qh X.ap.lm,Qh F,Qb]
 .show(zj _ A.v _) A.m/HO.dK (dS (S++[p]) λq=>.ref (if q=p then m0 else A.ml q));rw[Qh X.ap.mv,Qh X.ap.mu,Qh J,Qb]
 .show(zj _ A.v _) A.u/HO.dK (dS (S++[p]) λq=>.ref (if q=p then u0 else A.ul q));rw[Qh X.ap.uv,Qb]
 .show(zj _ A.v _) (if q=p then m0 else A.ml q)/.lst [jv q];rcases Gi.mp a with a|a
  .rw[Gu (f q a)];exact l (X.ml q a) (λ_ z=>nomatch z)
  .have:q=p:=by simpa using a
   subst this;rw[GY Xb,Qh (GQ N),Qh (GQ L),Qh t,Qh (GQ I),Qb]
 .show(zj _ A.v _) (if q=p then u0 else A.ul q)/.lst ((Xo (Zx g) S q).map jv);rcases Gi.mp a with a|a
  .rw[Gu (f q a)];exact l (X.ul q a) (λ_ z=>nomatch z)
  .have:q=p:=by simpa using a
   subst this;rw[GY Xb,x,Qh (GQ O),Qh (GQ M),Qb];rfl
 .show(if q=p then m0 else A.ml q)=(if r=p then m0 else A.ml r)->q=r;rcases Gi.mp a with c|c<;>rcases Gi.mp v with d|d
  .rw[Gu (f q c),Gu (f r d)];exact X.ap.mm q c r d
  .have:r=p:=by simpa using d
   subst this;rw[Gu (f q c),GY rfl];intro z;exact absurd z (j (X.ml q c))
  .have:q=p:=by simpa using c
   subst this;rw[Gu (f r d),GY rfl];intro z;exact absurd z.symm (j (X.ml r d))
  .intro _;have m:q=p:=by simpa using c
   have s:r=p:=by simpa using d
   rw[m,s]
 .show(if q=p then u0 else A.ul q)=(if r=p then u0 else A.ul r)->q=r;rcases Gi.mp a with c|c<;>rcases Gi.mp v with d|d
  .rw[Gu (f q c),Gu (f r d)];exact X.ap.uu q c r d
  .have:r=p:=by simpa using d
   subst this;rw[Gu (f q c),GY rfl];intro z;exact absurd z (k (X.ul q c))
  .have:q=p:=by simpa using c
   subst this;rw[Gu (f r d),GY rfl];intro z;exact absurd z.symm (k (X.ul r d))
  .intro _;have m:q=p:=by simpa using c
   have s:r=p:=by simpa using d
   rw[m,s]
 .show(if q=p then m0 else A.ml q)≠(if r=p then u0 else A.ul r);rcases Gi.mp a with c|c<;>rcases Gi.mp v with d|d
  .rw[Gu (f q c),Gu (f r d)];exact X.ap.mul q c r d
  .have:r=p:=by simpa using d
   subst this;rw[Gu (f q c),GY rfl];exact k (X.ml q c)
  .have:q=p:=by simpa using c
   subst this;rw[Gu (f r d),GY rfl];exact GQ (j (X.ul r d))
  .have m:q=p:=by simpa using c
   have s:r=p:=by simpa using d
   rw[GY m,GY s];exact t
 .show(if q=p then m0 else A.ml q)≠A.k/\(if q=p then m0 else A.ml q)≠A.f;rcases Gi.mp a with a|a
  .rw[Gu (f q a)];exact X.ap.mkf q a
  .have:q=p:=by simpa using a
   rw[GY this];exact{GQ (j E),GQ (j B)}
 .show(if q=p then u0 else A.ul q)≠A.k/\(if q=p then u0 else A.ul q)≠A.f;rcases Gi.mp a with a|a
  .rw[Gu (f q a)];exact X.ap.ukf q a
  .have:q=p:=by simpa using a
   rw[GY this];exact{GQ (k E),GQ (k B)}
theorem Yf{b c:Ge}{o:HO}(h:zj H b o c=Gp):H c=Gp:=by
 by_cases e:c=b
 .subst e;rw[Qb]at h;cases h
 .rw[Qh e]at h;exact h
theorem Ql{b c:Ge}{o u:HO}(e:H c/u)(h:c≠b):zj H b o c/u:=by rw[Qh h];exact e
theorem XP{k:Nat}{ae fK:Ge}{fd au:Du}(F:Wc K "take_in" "Net.take_in" Im ae fd)(m:Jb K mg C)(mT:Ym K C "take_in" ae)(bT:zk K fd ["self","place"] [])(aC:Qz P w K mg base Z4 (k+1) ae fd ["self","place"] (kJ P w C k))
  (mK:Ym K C "key_of" fK)(GK:Qz P w K mg base Z4 1 fK au ["self","place"] (oE P w C))(bK:zk K au ["self","place"] []):Qz P w K mg base Z4 (k+2) ae fd ["self","place"] (kJ P w C (k+1)):=by
 refine F.ok KM (λR Z N r b=>?_) (λap e aq s Z R N r l b=>?_)
 .obtain⟨n,e,d,rk,S,p,rfl,_⟩:=b;rfl
 have(n,e,d,rk,S,p,rfl,X,Q,J,hk,q):=b;have D:=Jy l;have aO:=l.units;have aN:Yd 1 _:=l.mono ∅;have nd:=KM.nd;show∃t,Wf ?my _ t/\_;let a1:Vr ?my Im 6:={_,Qc (Z9 To rfl (Ui (Qn Qt (Qn Q9 (Qx {0}) {1}) Qj)) (Zv 2 nd) (Qg (Zl (Xx Te Tx TB Z0 (Yb D (Qx {0}) {2} (λ_ _=>rfl)) (Qa {1} Qe))))) (Qg (Il {1} (Oy (Qx {0}) (Zk {0} m.cl mK GK aN bK .nil Q7 (Qa {1} Qe)) (O8 aO))))}
 let a2:Vr ?my Im 3:={_,Qc (Vm D (Qx {0}) {1} (Zz (Qa {1} Qe)) rfl) (Qc (Vm D (Qx {0}) {1} (Zz Qe) rfl) (Qc (Vm D (Qx {0}) {1} Jk Xb) a1.2))}
 let a3:Vr ?my Im 1:={_,Qc (Z9 To rfl (Ui (Qn Qt (Qn Q9 (Qx {0}) {1}) Qj)) (Zv 2 nd) (Qg (Zl (Zk {0} m.cl mT aC l bT .nil Q7 (Qa {2} Qe))))) (Qc (Vm D (Qx {0}) {1} {1} rfl) a2.2)}
 exists _,Qc (Zc (Ow (px D {1} (Qx {0}))) (Qg QV) Qw) a3.2;have(dx,o1):=X.at_.ob;have bb:⇑S<=⇑d:=X5 (S:=So ⇑d) X.nd (λa l=>Sq.mpr (X.lt a l))|>λb=>by rw[Sa]at b;exact b
 have a9:=Q.len;have gl:Vv Z e.l (jv p) (Xq (dS S λa=>jv a) (ki p)):=Vv.k (k:=ki p) X.at_.le;exists 00,n,C,dx,30,o1,m.cl,m.Vx,Xg _,e.l,0,gl,0;rw[Kv];by_cases af:p∈S
 .rw[Tk af];refine Yw ?_;exact q S e.ml e.ul Z X (λ_ b=>b) af (λa b=>.inl b) iD.refl
 rw[Tj af];refine Q6 ?_;ac_nf;have(ws,f1,f2):=X.at_.fo;have hw:p<⇑ws:=by rw[GJ f2];exact J
 have(y,hy,aE,A,ec,E,z):=Qy f2 (Gf hw);intros;rw[la J]at hy;cases hy;have a8:=Q.few p;let aV:Nat->St->Hp->Prop:=λi G v=>iE λ(x2:Option V)(c:List Nat)(x o:Nat->Ge)=>mw (G=[Ga ↑n,Ga (jv p),x2]) (Frs P w C v n (na e x o) d c) (∀a∈S,a∈c) (∀a∈(Zx d p).take i,a∈c) (∀a∈c,a∈S\/rk a<rk p) (iD e S (na e x o) c Z v)
 refine⟨_,Xb,n,C,dx,_,_,Xb,o1,m.cl,m.Qer,Jw _,_,Xb,e.f,ws,_,_,Xb,Xb,Qi f1,Zi (Gf hw),aE,_,_,_,ec,Xb,Qk E,Rp _ _ _,A,Xb,{_,Qk z},qz (K:=K) (a:=A) (xs:=(Zx d p).map jv)
  aV
  {_,S,e.ml,e.ul,1,X,λ_ b=>b,by simp,λa b=>.inl b,iD.refl} (by rintro i G v _ ⟨_,_,_,_,_,_,_,_,_,Y⟩;exact Qk (Y.keep _ _ z (X.at_.qb z))) ?_ ?_⟩
 .rintro i y G v hi ⟨x2,c,x,o,rfl,h,sub,done,ah,Y⟩;rw[Ta]at hi;cases eq:(Zx d p)[i]? with
  |none=>rw[eq]at hi;cases hi
  |some a=>
   rw[eq]at hi;cases hi;have(rl,rr):=Q.Ol p J a (Gc eq);have(I,L):=h.at_.ob;refine{0,n,I,0,L,qN _,0,n,na e x o,d,rk,c,a,1,h,Q,rl,by ext,λR ai ak H3 X3 r r3 aj N=>?_};refine{_,R,ai,ak,1,X3,λt ht=>r t (sub t ht),λt ht=>?_,λt ht=>?_,Y.trans N}
   .rw[Tt,eq]at ht;rcases Gi.mp ht with ht|ht
    .exact r t (done t ht)
    .have:t=a:=by simpa using ht
     rw[this];exact r3
   .rcases aj t ht with b|b
    .exact ah t b
    .exact .inr ∅
 rintro G v ⟨x2,c,x,o,rfl,h,sub,done,ah,Y⟩;rw[Gq,Tu]at done;have M:p∉c:=λf=>by
  rcases ah p f with b|b
  .exact af b
  .ext
 have ba:⇑c<=1000:=by have:=X5 (S:=So ⇑d) h.nd (λa l=>Sq.mpr (h.lt a l));rw[Sa]at this;ext
 have aM:Xo (Zx d) c p=[]:=UZ λa l f=>M (h.cl a l p f);have(I,L):=h.at_.ob;have aL:⇑(dS c λa=>jv a)<TF:=by rw[V4,TD];ext
 have aP:v e.l/.dK (dS c λa=>jv a):=h.at_.le;have aQ:v e.m/.dK (dS c λa=>.ref (x a)):=h.at_.me;have aZ:v e.u/.dK (dS c λa=>.ref (o a)):=h.at_.us;have aD:v e.v/.dK (dS c λ_=>.non):=h.at_.ab;have k1:=Oe.k (k:=ki p) (v:=jv p) aP aL;rw[kL M]at k1;have e1:(dS (c++[p]) λa=>if a=p then jv p else jv a)=dS (c++[p]) λa=>jv a:=Vt λa _=>by
  by_cases b:a=p
  .rw[GY b,b]
  .rw[Gu b]
 rw[e1]at k1;exists 00,n,C,I,30,L,m.cl,m.Vx,Xg _,0,e.l,0,k1;have nl:n≠e.l:=Ys L h.at_.le nofun;have o3:(zj v e.l (.dK (dS (c++[p]) λa=>jv a))) n/.ins C I (Xr e):=by rw[Qh nl];exact L
 refine{0,Uu,λm0 aa=>?_};have s3:=Qf aa (.lst [jv p]);have ao:v m0=Gp:=by
  by_cases b:m0=e.l
  .subst b;rw[Qb]at aa;cases aa
  .rw[Qh b]at aa;exact aa
 have aR:(zj v e.l (.dK (dS (c++[p]) λa=>jv a))) e.m/.dK (dS c λa=>.ref (x a)):=Ql aQ (GQ h.at_.ap.lm);have k2:=Oe.k (k:=ki p) (v:=↑m0) (s3 _ _ aR) (by rw[V4,TD];ext);rw[kL M]at k2;have e2:(dS (c++[p]) λa=>if a=p then V.ref m0 else .ref (x a))=dS (c++[p]) λa=>.ref (if a=p then m0 else x a):=Vt λa _=>by split<;>rfl
 rw[e2]at k2;exists 0,n,C,I,30,s3 _ _ o3,m.cl,m.members,Vz _,0,e.m,0,k2;have aT:n≠e.m:=Ys L h.at_.me nofun;generalize am:zj (zj (zj v e.l (.dK (dS (c++[p]) λa=>jv a))) m0 (.lst [jv p])) e.m (.dK (dS (c++[p]) λa=>.ref (if a=p then m0 else x a)))=O;have cA:∀{j ac},v j/ac->j≠e.l->j≠e.m->O j/ac:=λA E z=>by rw[<-am,Qh z,Qh (Qd A ao),Qh E];exact A
 have cN:∀{j},O j=Gp->v j=Gp/\j≠m0:=λ{j}b=>by
  rw[<-am]at b;by_cases E:j=e.m
  .subst E;rw[Qb]at b;cases b
  .rw[Qh E]at b;by_cases z:j=m0
   .subst z;rw[Qb]at b;cases b
   .rw[Qh z]at b;by_cases r:j=e.l
    .subst r;rw[Qb]at b;cases b
    .rw[Qh r]at b;exact⟨b,z⟩
 have o4:=cA L nl aT;refine{Tw _,λu0 aw=>?_};have(aA,aX):=cN aw;have U:=Qf aw (.lst []);have aY:=cA aZ (GQ h.at_.ap.lu) (GQ h.at_.ap.mu);have k3:=Oe.k (k:=ki p) (v:=↑u0) (U _ _ aY) (by rw[V4,TD];ext);rw[kL M]at k3;have e3:(dS (c++[p]) λa=>if a=p then V.ref u0 else .ref (o a))=dS (c++[p]) λa=>.ref (if a=p then u0 else o a):=Vt λa _=>by split<;>rfl
 rw[e3]at k3;exists 0,n,C,I,30,U _ _ o4,m.cl,m.Qgg,Rw _,0,e.u,0,k3;have nu:n≠e.u:=Ys L h.at_.us nofun;have o5:(zj (zj O u0 (.lst [])) e.u (.dK (dS (c++[p]) λa=>.ref (if a=p then u0 else o a)))) n/.ins C I (Xr e):=by rw[Qh nu];exact U _ _ o4
 have a0:(zj (zj O u0 (.lst [])) e.u (.dK (dS (c++[p]) λa=>.ref (if a=p then u0 else o a)))) e.v/.dK (dS c λ_=>.non):=by exact Ql (U _ _ (cA aD (GQ h.at_.ap.lv) (GQ h.at_.ap.mv))) (GQ h.at_.ap.uv)
 have k4:=Oe.k (k:=ki p) (v:=.non) a0 (by rw[V4,TD];ext);rw[kL M]at k4;have e4:(dS (c++[p]) λa=>if a=p then V.non else .non)=dS (c++[p]) λ_=>.non:=Vt λa _=>by split<;>rfl
 rw[e4]at k4;exists 0,n,C,I,30,o5,m.cl,m.above,ny _,0,e.v,0,k4;have H:=VG (m0:=m0) (u0:=u0) h.at_ M ao aA (GQ aX) aM;have FY:iD (na e x o) c (na e (λa=>if a=p then m0 else x a) (λa=>if a=p then u0 else o a)) (c++[p]) v (zj (zj (zj O u0 (.lst [])) e.u (.dK (dS (c++[p]) λa=>.ref (if a=p then u0 else o a)))) e.v (.dK (dS (c++[p]) λ_=>.non))):=by
  refine{λj ac A g=>?_,λj g=>?_,λj g=>?_}
  .rw[Qh (λf=>g (by rw[f];exact .inr (.inr (.inr (.inr (.inr (.inr (.inl Xb)))))))),Qh (λf=>g (by rw[f];exact .inr (.inr (.inl Xb))))];exact U _ _ (cA A (λf=>g (by rw[f];exact .inl Xb)) (λf=>g (by rw[f];exact .inr (.inl Xb))))
  .rcases g with b|b|b|b|b|b|b|⟨a,R,b⟩
   .exact .inl (.inl b)
   .exact .inl (.inr (.inl b))
   .exact .inl (.inr (.inr (.inl b)))
   .exact .inl (.inr (.inr (.inr (.inl b))))
   .exact .inl (.inr (.inr (.inr (.inr (.inl b)))))
   .exact .inl (.inr (.inr (.inr (.inr (.inr (.inl b))))))
   .exact .inl (.inr (.inr (.inr (.inr (.inr (.inr (.inl b)))))))
   .have b:j=(if a=p then m0 else x a)\/j=(if a=p then u0 else o a):=b;by_cases r:a=p
    .rw[GY r,GY r]at b;rcases b with b|b
     .rw[b];exact .inr ao
     .rw[b];exact .inr aA
    .rw[Gu r,Gu r]at b;have N:a∈c:=by
      rcases Gi.mp R with f|f
      .exact f
      .exact absurd (by simpa using f) r
     exact .inl (.inr (.inr (.inr (.inr (.inr (.inr (.inr ⟨a,N,b⟩)))))))
  .by_cases E:j=e.v
   .subst E;rw[Qb]at g;cases g
   .rw[Qh E]at g;by_cases z:j=e.u
    .subst z;rw[Qb]at g;cases g
    .rw[Qh z]at g;exact(cN (U.free g)).1
 have H:Yk P w C (zj (zj (zj O u0 (.lst [])) e.u (.dK (dS (c++[p]) λa=>.ref (if a=p then u0 else o a)))) e.v (.dK (dS (c++[p]) λ_=>.non))) n (na e (λa=>if a=p then m0 else x a) (λa=>if a=p then u0 else o a)) d ⇑c {fresh (Yu d) (Zx d) (c++[p])with Xz:=Xo (Zx d) c,tab:=jA (Yu d) (Zx d) c}:=by rw[<-am];exact H
 generalize zj (zj (zj O u0 (.lst [])) e.u (.dK (dS (c++[p]) λa=>.ref (if a=p then u0 else o a)))) e.v (.dK (dS (c++[p]) λ_=>.non))=H4 at H FY⊢;generalize (λa=>if a=p then m0 else x a)=ab at H FY;generalize (λa=>if a=p then u0 else o a)=W at H FY;have F4:=Y.trans FY;ac_nf;have(aG,aU):=H.ob;have(aB,aI,ar):=H.fo;have ax:p<⇑aB:=by rw[GJ ar];exact J
 have(y4,ay,c4,al,aH,aK,av):=Qy ar (Gf ax);intros;rw[la J]at ay;cases ay;let aW:Nat->St->Hp->Prop:=λi G T=>jK λ(x2:Option V)=>jR (G=[Ga ↑n,Ga (jv p),x2]) (Yk P w C T n (na e ab W) d ⇑c {fresh (Yu d) (Zx d) (c++[p])with Xz:=(λa=>Xo (Zx d) c a++D4 (((Zx d p).take i).count a) p),tab:=jA (Yu d) (Zx d) c}) (iD e S (na e ab W) (c++[p]) Z T) (T al/.tup ((Zx d p).map jv))
 refine⟨_,Xb,n,C,aG,_,_,Xb,aU,m.cl,m.Qer,Jw _,_,Xb,e.f,aB,_,_,Xb,Xb,Qi aI,Zi (Gf ax),c4,_,_,_,aH,Xb,Qk aK,Rp _ _ _,al,Xb,{_,Qk av},qz (K:=K) (a:=al) (xs:=(Zx d p).map jv)
  aW
  {0,?_,F4,av} (by rintro i G T _ ⟨_,_,_,_,b⟩;exact Qk b) ?_ ?_⟩
 .have:(λa=>Xo (Zx d) c a++D4 (((Zx d p).take 0).count a) p)=Xo (Zx d) c:=by funext a;simp
  rw[this];exact H
 .rintro i y G T hi ⟨x5,rfl,B,F5,h5⟩;rw[Ta]at hi;cases eq:(Zx d p)[i]? with
  |none=>rw[eq]at hi;cases hi
  |some a=>
   rw[eq]at hi;cases hi;have N:a∈c++[p]:=Gv _ (done a (Gc eq));have R:=B.ul a N;have(ad,ag):=B.ob;have a5:=zZ Q.few c a;have a4:((Zx d p).take i).count a<=100:=Dj NL (by rw[Dq];ext);exists 0,n,C,ad,30,ag,m.cl,m.Qgg,Rw _,0,e.u,0,X0 B.us N,.inl {13,Qi R},0201,R,?_
   .rw[Gq,TD];show ⇑(Xo (Zx d) c a++D4 (((Zx d p).take i).count a) p)<_;rw[Gs,Sw];ext
   .have Y6:=B.tT N (Xo (Zx d) c a++D4 (((Zx d p).take i).count a) p++[p]);have eH:(HO.lst ((Xo (Zx d) c a++D4 (((Zx d p).take i).count a) p++[p]).map jv))=.lst ((Xo (Zx d) c a++D4 (((Zx d p).take i).count a) p).map jv++[jv p]):=by rw[T3];rfl
    rw[eH]at Y6;have oR:hX (na e ab W) (c++[p]) (W a):=.inr (.inr (.inr (.inr (.inr (.inr (.inr {a,N,.inr Xb}))))));have eU:(λr=>if r=a then Xo (Zx d) c a++D4 (((Zx d p).take i).count a) p++[p]else Xo (Zx d) c r++D4 (((Zx d p).take i).count r) p)=λr=>Xo (Zx d) c r++D4 (((Zx d p).take (i+1)).count r) p:=by
     funext r
     rw[ZR eq];by_cases b:r=a
     .rw[GY b,GY b.symm,b,List.replicate_succ',DF]
     .rw[Gu b,Gu (GQ b),RY]
    exists 0,?_,F5.trans {λj ac A g=>?_,λj g=>.inl g,λj g=>?_}
    .rw[<-eU];exact Y6
    .exact Ql A (λf=>g (by rw[f];exact oR))
    .exact Yf g
    .exact Ql h5 (Ys h5 R nofun)
 rintro G T ⟨x5,rfl,B,F5,h5⟩;rw[Gq,Tu]at B;have eU:(λa=>Xo (Zx d) c a++D4 ((Zx d p).count a) p)=Xo (Zx d) (c++[p]):=by
  funext a
  rw[Qvu]
 rw[eU]at B;have(ad,ag):=B.ob;have az:∀a∈Zx d p,a∈c++[p]:=λa l=>Gv _ (done a l);refine{00,n,C,ad,30,ag,m.cl,m.table,ux _,0,n,ad,0,ag,sf _,0,n,na e ab W,d,2,p,1,B,J,az,by ext,λc6 H6 g6 a6 aJ=>?_};have Y6:=B.same g6;have(an,D6,a7,aF):=Y6.ta;have kc:=aJ.key (Q.str p);exists e.t,c6,_,an,11,D6,kc,(by rw[TD];ext);have aS:∀a∈c,Zt (Yu d) (Zx d) id a≠Zt (Yu d) (Zx d) id p:=λa l f=>by simp only[Zt,FH,EJ]at f;exact M (Q.inj a p (h.lt a l) J f.1 f.2▸l)
 have Y7:=Y6.KC (kvs':=Vg an (Y2 (Zt (Yu d) (Zx d) id p)) c6 (jv p)) D6 (by have:=Rg an (Y2 (Zt (Yu d) (Zx d) id p)) c6 (jv p);ext) (D6.keys.put kc) (t':=jA (Yu d) (Zx d) (c++[p])) (λr=>by
  rw[U7,VZ _ _ aS];by_cases b:r=Zt (Yu d) (Zx d) id p
  .rw[GY (by rw[b]),GY b];rfl
  .rw[Gu (λf=>b (Jj f)),Gu b];exact aF r)
 refine q (c++[p]) ab W _ {?_,?_,λa l=>?_,λa l=>?_} (λa l=>Gv _ (sub a l)) ⋯ (λa l=>?_) (F5.trans {λj ac A g=>?_,λj g=>.inl ?_,λj g=>?_})
 .rw[Gs,Tg];exact Y7
 .rw[DO];refine{h.nd,by simp,λa l u D=>?_};have:u=p:=by simpa using D
  rw[this];exactλf=>M (f▸l)
 .rcases Gi.mp l with b|b
  .exactλu D=>Gv _ (h.cl a b u D)
  .have:a=p:=by simpa using b
   subst this;exact az
 .rcases Gi.mp l with b|b
  .exact h.lt a b
  .have:a=p:=by simpa using b
   subst this;exact J
 .rcases Gi.mp l with b|b
  .rcases ah a b with b|b
   .exact .inl b
   .exact .inr ∅
  .have:a=p:=by simpa using b
   subst this;exact .inr (Gy _)
 .exact Ql (g6 _ _ A) (λf=>g (by rw[f];exact .inr (.inr (.inr (.inl Xb)))))
 .exact g
 .exact g6.free (Yf g)
theorem Q7a{f:Ge}{e:Du}:Qz P w K mg base Z4 1 f e ["self","place"] (kJ P w C 0):=by
 have d:∀a H Q E,¬kJ P w C 0 a H Q E:=λa H Q E h=>by have(n,A,g,j,S,p,_,_,_,_,i,_):=h;lia
 exact{λa H Q E h=>absurd h (d a H Q E),λA b s H c k a Q E _ _ _ _ h=>absurd h (d a H Q E)}
theorem zH{f g C:Ge}{b a:Du}(F:Wc K "take_in" "Net.take_in" Im f b)(T:Jb K mg C)(i:Ym K C "take_in" f)(e:zk K b ["self","place"] [])
  (h:Ym K C "key_of" g)(c:Qz P w K mg base Z4 1 g a ["self","place"] (oE P w C))(d:zk K a ["self","place"] []):∀k:Nat,Qz P w K mg base Z4 (k+1) f b ["self","place"] (kJ P w C k)
 |0=>Q7a
 |k+1=>XP F T i e (zH F T i e h c d k) h c d
end
end K04
namespace Nt
theorem wt{l:List Nat}:∀{S:List Nat},S.Nodup->(S.map λq=>l.count q).sum<=⇑l
 |[],_=>by simp
 |q::S,b=>by
  rw[Dw]at b;have d:=wt (l:=l.filter (λz=>z !=q)) b.2;have e:(S.map λr=>(l.filter (λz=>z !=q)).count r)=S.map λr=>l.count r:=De λr c=>by rw[List.count_filter];simp only[bne_iff_ne,ne_eq];intro z;exact b.1 (z▸c)
  rw[e]at d;have g:⇑(l.filter (λz=>z !=q))+l.count q=⇑l:=by
   have:=List.length_eq_countP_add_countP (λz=>z !=q) (l:=l);rw[<-List.countP_eq_length_filter];have f:l.countP (λa=>¬(a !=q)=Gk)=l.count q:=by unfold List.count;refine List.countP_congr λx _=>?_;simp
   lia
  simp only[TC,FC];lia
theorem uJ{f g:Nat->Nat}:∀S:List Nat,(S.map λq=>f q+g q).sum=(S.map f).sum+(S.map g).sum
 |[]=>rfl
 |q::S=>by simp only[TC,FC,uJ S];lia
theorem YI{W ρ:Type}[DecidableEq W]{f:Nat->W}{b:Nat->List Nat}{S:List Nat}{M:Nat}(nd:S.Nodup)(h:∀p,⇑(b p)<=M):Ji (fresh (ρ:=ρ) f b S)<=⇑S*M:=by
 have c:∀T:List Nat,(S.map λq=>⇑(Xo b T q)).sum<=⇑T*M:=by
  intro T;induction T with
  |nil=>
   have:(S.map λq=>⇑(Xo b [] q))=S.map λ_=>0:=De λq _=>by simp[Xo]
   rw[this];clear this nd;have z:∀S:List Nat,(S.map λ_=>0).sum=0:=by
    intro S;induction S with
    |nil=>rfl
    |cons a S d=>simpa using d
   rw[z];lia
  |cons p T d=>
   have e:(S.map λq=>⇑(Xo b (p::T) q))=S.map λq=>(b p).count q+⇑(Xo b T q):=De λq _=>by simp only[Xo,MD,Gs,Sw]
   rw[e,uJ];have a:=wt (l:=b p) nd;have g:=h p;rw[TW,Le];lia
 unfold Ji;refine Dj (Ff ?_) (c S);congr 1;refine De λq _=>?_;rw[GY (show(fresh (ρ:=ρ) f b S).zu q=q from rfl)];rfl
end Nt
namespace K04
open PySem L2 Sb Nt
variable{C:Ge}
abbrev En:=TQ×Nat×Nat
abbrev sme(p q:Nat):En:=(("same":TQ),p,q)
abbrev unl(p q:Nat):En:=(("unlike":TQ),p,q)
inductive iI(H:Hp)(v:V)(e:En):Prop
 |mk (c:_) (h0:v=↑c) (h1:H c/.tup [.str e.1,jv e.2.1,jv e.2.2]):iI H v e
theorem iI.Qv{H a:Hp}{v:V}{e:En}(t:Q8 H a)(h:iI H v e):iI a v e:=by have(c,b,d):=h;exact{c,b,t _ _ d}
structure ip(P:Gn)(w:Ti)(C:Ge)(H0 H:Hp)(n:Ge)(A:Na)(fs:List Fm)(tb:Nat)(x:Nn):Prop where
 at_:Yk P w C H n A fs tb x
 inv:Wy (Yu fs) (Zx fs) x []
 fok:iP fs x.S
 new:∀b,hX A x.S b->H0 b=Gp
 nn:H0 n=Gp
 sam:Q5 H0 H
 len:⇑x.S<=60
 tt:Ji x<=6000
 cl:cls x+⇑x.zm<=⇑x.S
 tbb:tb<=⇑x.S+⇑x.zm*Ji x
structure iR(fs:List Fm)(x:Nn)(ens:List En)(i:Nat):Prop where
 ins:∀e∈ens,e.2.1∈x.S/\e.2.2∈x.S
 eq:∀(j p q:Nat),j<i->ens[j]?/sme p q->x.zu p=x.zu q
 snd:∀E,Ec (Yu fs) (Zx fs) x.S E->(∀(j p q:Nat),j<i->ens[j]?/sme p q->E p q)->∀p∈x.S,∀q∈x.S,x.zu p=x.zu q->E p q
 rsn:∀y∈x.zm,y.2.2=Gp\/∃(j p q:Nat),y=(p,q,Ga (.told j))/\ens[j]?/sme p q
inductive uI(P:Gn)(w:Ti)(C:Ge)(vs:List V)(H:Hp)(Q:VK):Prop
 |mk (f:Ge) (t:Ge) (ws:List V) (es:List V) (fs:List Fm) (ens:List En) (rk:Nat->Nat) (h0:vs=[↑f,↑t]) (h1:H f/.lst ws) (h2:Dm (I0 H) ws fs) (h3:H t/.lst es) (h4:Dm (iI H) es ens) (h5:qm fs rk) (h6:⇑fs<=60) (h7:(∀p,rk p<59)) (h8:(∀e∈ens,e.2.1<⇑fs/\e.2.2<⇑fs)) (h9:⇑ens<=1000) (h10:∀(n:Ge)(A:Na)(tb:Nat)(x:Nn)(H':Hp),ip P w C H H' n A fs tb x->A.f=f->iR fs x ens ⇑ens->Q ↑n H'):uI P w C vs H Q
def oh(P:Gn)(w:Ti)(C:Ge):Sp:=λa H Q _=>uI P w C a H Q
theorem ip.merged{P:Gn}{w:Ti}{j H g:Hp}{n:Ge}{A:Na}{f:List Fm}{i:Nat}{x d:Nn}{a b:Nat}{r:Option Ia}(N:ip P w C j H n A f i x)(Y:Yk P w C g n A f (i+(⇑d.zm - ⇑x.zm)*Ji x) d)(M:iv f x d a b r [])(F:Ot A x.S H g):ip P w C j g n A f (i+(⇑d.zm - ⇑x.zm)*Ji x) d:=by
 have e:=M.S;exists Y,M.inv,by rw[e];exact N.fok,by rw[e];exact N.new,N.nn,λc o h=>F.keep c o (N.sam c o h) (λz=>by rw[N.new c z]at h;cases h),by rw[e];exact N.len,by rw[M.Ji];exact N.tt,(by rw[e];have:=N.cl;have:=M.less;ext);rw[e,M.Ji];have k:=N.tbb;have l:=M.more;have:⇑d.zm*Ji x=⇑x.zm*Ji x+(⇑d.zm - ⇑x.zm)*Ji x:=by rw[<-Le];congr 1;ext
 ext
theorem iR.step{f:List Fm}{x k:Nn}{d:List En}{i a b:Nat}(U:iR f x d i)(e:d[i]?/sme a b)(M:iv f x k a b (Ga (.told i)) []):iR f k d (i+1):=by
 have g:=M.S;have(r,t):=U.ins _ (Gc e);refine{by rw[g];exact U.ins,λj p q n c=>?_,λE X h=>?_,λy o=>?_}
 .rcases Dn j i with h|h
  .obtain⟨l,m⟩:=U.ins _ (Gc c);exact M.mono p l q m (U.eq j p q h c)
  .have:j=i:=by lia
   subst this;rw[e]at c;cases c;exact M.eq.nil
 .rw[g]at X;have l:=U.snd E X λj p q n=>h j p q (by lia);have:=M.snd E X {l,λu v s m=>by simp at m;have(rfl,rfl,rfl):=m;exact h i u v (by lia) e}
  exact this.1
 .rcases M.rsn y o with h|h|h
  .exact U.rsn y h
  .exact .inr ⟨i,a,b,h,e⟩
  .exact .inl h
theorem iR.skip{f:List Fm}{x:Nn}{c:List En}{i:Nat}{k:TQ}{a b:Nat}(U:iR f x c i)(e:c[i]?/(k,a,b))(l:k≠"same"):iR f x c (i+1):=by
 refine{U.ins,λj p q g d=>?_,λE X h=>U.snd E X λj p q g=>h j p q ∅,U.rsn};rcases Dn j i with h|h
 .exact U.eq j p q h d
 .have:j=i:=by ext
  subst this;rw[e]at d;cases d;exact absurd rfl l
def sG(x:Nn)(a:List En):Option Nat->Prop
 |none=>∀(j p q:Nat),a[j]?/unl p q->x.zu p≠x.zu q
 |some i=>(∃p q,a[i]?/unl p q/\x.zu p=x.zu q)/\∀(j p q:Nat),j<i->a[j]?/unl p q->x.zu p≠x.zu q
inductive yp(P:Gn)(w:Ti)(C:Ge)(vs:List V)(H:Hp)(Q:VK):Prop
 |mk (n:Ge) (t:Ge) (A:Na) (fs:List Fm) (tb:Nat) (x:Nn) (es:List V) (ens:List En) (h0:vs=[↑n,↑t]) (h1:Yk P w C H n A fs tb x) (h2:H t/.lst es) (h3:Dm (iI H) es ens) (h4:(∀e∈ens,e.2.1∈x.S/\e.2.2∈x.S)) (h5:∀(o:Option Nat)(H':Hp),Q5 H H'->sG x ens o->Q (ov o) H'):yp P w C vs H Q
def qJ(P:Gn)(w:Ti)(C:Ge):Sp:=λa H Q _=>yp P w C a H Q
section
variable{P:Gn}{w:Ti}{K:Gd}{mg:TQ->Option Gh}{base:Heap}
theorem vH:Q4 ["net","entries","number","entry"] ["net","entries"] (Qm oH):=by eq_refl
theorem Zp{a b:TQ}:decide (V.str a=V.str b)=(a==b):=by rw[L4];simp
theorem Qyo{L M:Ge}{N O:Du}(F:Wc K "least_clash" "least_clash" oH L N)(W:Jb K mg C)(U:Ie mg)(mE:Ym K C "equal" M)(V:Qz P w K mg base Z4 1 M O ["self","one","other"] (oA P w C))(Z:zk K O ["self","one","other"] []):
  Qz P w K mg base Z4 2 L N ["net","entries"] (qJ P w C):=by
 refine F.ok vH (λl H g d b=>?_) (λm v o s H l g d hr b=>?_)
 .obtain⟨n,t,v,Q,T,x,B,J,rfl,_⟩:=b;rfl
 have(n,t,v,Q,T,x,B,J,rfl,X,ht,R,ac,q):=b;have ad:Yd 1 _:=hr.mono (by lia);have S:=vH.nd;show∃t,Wf ?my _ t/\_;let af:Subtype (Wf ?my (sub [0,0] (Zd oH))):={_,Qg (Zc (PW.pt (U6 (Qo Xy (Qn Qt {3} Qj) Zo (Qs _)) (Ua (Z2 (Zk {0} W.cl mE V ad Z .nil Q7 (Qa (Qn Qt {3} Qj) (Qa (Qn Qt {3} Qj) Qe))))))) (Qg (Qu {2})) Qw)}
 exists _,Qc (Z9 To rfl (ub rfl U.enumerate (Qa {1} Qe)) (Wi rfl (Zb (Zv 2 S) (Zb (Zv 3 S) Xt))) af.2) (Qg (Qu Jk));let ae:Nat->St->Hp->Prop:=λi u e=>j8 (∃E G,u=[Ga ↑n,Ga ↑t,E,G]) (Q5 H e) (∀(j p c:Nat),j<i->J[j]?/unl p c->x.zu p≠x.zu c)
 refine⟨_,Xb,t,B,Xb,Qi ht,xO (K:=K) (a:=t) (xs:=B) ae
  {{430},λ_ _ b=>b,λ_ _ _ b=>by lia} (by rintro i u e _ ⟨_,f,_⟩;exact Qi (f _ _ ht)) ?_ ?_⟩
 .rintro i y aa u e hi ⟨⟨E,G,rfl⟩,f,h⟩ hc;ac_nf;have((k,a,z),m,l,rfl,ab):=Qy R hi;have s3:=Qf hc (.tup [.int (i:Int),↑l]);have g:=f.trans s3;have(Y,bS):=ac _ (Gc m);intros;have A:=g _ _ ab;exists aa,0,Qk Qb,130301;exists 0,l,201,Qk A,Of _ _,10;rw[Zp];by_cases D:k="unlike"
  .subst D;rw[LJ];refine Yw ?_;have I:=X.same g;have(dx,o1):=I.ob;exists 0,n,dx,0,o1,rj _,0,l,201,Qk A,Rp _ _ _,0,l,201,Qk A,jz _ _ _ _,n,v,Q,T,x,a,z,1,I,Y,bS,0;by_cases o:x.zu a=x.zu z
   .rw[Tk o];refine Yw {0,q (Ga i) _ g {⟨a,z,m,o⟩,h}}
   .rw[Tj o];refine Q6 {{430},g,λj p c r d=>?_};rcases Dn j i with b|b
    .exact h j p c b d
    .have:j=i:=by lia
     subst this;rw[m]at d;cases d;exact o
  .have:(k==("unlike":TQ))=Gx:=by simpa using D
   rw[this];refine Q6 ?_;refine Q6 {{430},g,λj p c r d=>?_};rcases Dn j i with b|b
   .exact h j p c b d
   .have:j=i:=by lia
    subst this;rw[m]at d;cases d;exact absurd rfl D
 .rintro u e ⟨⟨E,G,rfl⟩,f,h⟩;refine q Gp e f λj p c r=>h j p c ?_ r;rw[GJ R];exact(Gg.mp r).1
theorem KJ:Q4 ["forms","told","net","kind","one","other","number","entry"] ["forms","told"] (Qm lb):=by eq_refl
theorem K7{G fI fT fM:Ge}{fd av ax aw:Du}(F:Wc K "net_of" "net_of" lb G fd)(ab:Jb K mg C)(aA:Ie mg)(aB:Mk K C fI)(GI:Qz P w K mg base Z4 1 fI av ["self","forms"] (vD P w C))(bI:zk K av ["self","forms"] [])
  (mT:Ym K C "take_in" fT)(GT:Qz P w K mg base Z4 60 fT ax ["self","place"] (kJ P w C 59))(bT:zk K ax ["self","place"] [])(mM:Ym K C "merge" fM)(GM:Qz P w K mg base Z4 4 fM aw ["self","one","other","reason"] (rW P w C))(bM:zk K aw ["self","one","other","reason"] []):
  Qz P w K mg base Z4 61 G fd ["forms","told"] (oh P w C):=by
 refine F.ok KJ (λR h o au m=>?_) (λaq f ar s h R o au z m=>?_)
 .obtain⟨G,t,ws,W,e,U,rk,rfl,_⟩:=m;rfl
 have(G,t,ws,W,e,U,rk,rfl,hf,aG,ht,ah,Q,aT,ay,aD,aR,q):=m;have aE:Yd 2 _:=z.mono (by lia);have aF:Yd 4 _:=z.mono (by lia);have O:=KJ.nd;show∃t,Wf ?my _ t/\_;let aJ:Subtype (Wf ?my (sub [2,0,0,0] (Zd lb))):={_,Qg (Zl (Zk {2} ab.cl mM GM aF bM .nil Q7 (Qa (Qn Qt {7} Qj) (Qa (Qn Qt {7} Qj) (Qa (Zg (Qa Zo (Qa {6} Qe))) Qe)))))}
 let aK:Vr ?my lb 2:={_,Qc (Z9 To rfl (ub rfl aA.enumerate (Qa {1} Qe)) (Wi rfl (Zb (Zv 6 O) (Zb (Zv 7 O) Xt))) (Qg (Zc (Qo Xy (Qn Qt {7} Qj) Zo (Qs _)) aJ.2 Qw))) (Qg (Qu {2}))}
 let aL:Vr ?my lb 1:={_,Qc (Z9 To rfl (Z6 {1}) (Wi rfl (Zb (Zv 3 O) (Zb (Zv 4 O) (Zb (Zv 5 O) Xt)))) (Qc (Zl (Zk {2} ab.cl mT GT z bT .nil Q7 (Qa {4} Qe))) (Qg (Zl (Zk {2} ab.cl mT GT z bT .nil Q7 (Qa {5} Qe)))))) aK.2}
 exists _,Qc (Q3 2 O (rE aB GI aE rfl ab.mgC bI .nil Q7 (Qa {0} Qe))) aL.2;refine{0,λn dx hn aC aU=>?_};have s0:Q5 h (zj (zj h dx (.own n)) n (.ins C dx [])):=λg A c=>by rw[Qh (Qd c hn),Qh (Qd c aC)];exact c
 refine{n,dx,G,ws,e,1,Qb,s0 _ _ hf,Qr aG λ_ _ m=>m.Qv (Q8.of s0),λf H1 fA X1 k1 w1=>{1,?_}};have s1:Q5 h H1:=λg A c=>k1 g A (s0 g A c) (Qd c hn);have n1:∀d,hX f [] d->h d=Gp:=λd Z=>s0.free (w1 d Z);have az:⇑W=⇑U:=GJ ah;let aH:Nat->St->Hp->Prop:=λi B I=>jk λ(x3 x4 x5:Option V)(S:List Nat)(r u:Nat->Ge)=>ju (B=[Ga ↑G,Ga ↑t,Ga ↑n,x3,x4,x5,Gp,Gp]) (Frs P w C I n (na f r u) e S) (Q5 h I) (∀d,hX (na f r u) S d->h d=Gp) (∀c∈U.take i,c.2.1∈S/\c.2.2∈S)
 refine⟨_,Xb,t,Xb,{_,Qi (s1 _ _ ht)},Yv (K:=K) (a:=t) (xs:=W) aH
  {32,[],f.ml,f.ul,1,{X1,SY,(λp N=>nomatch N),(λp N=>nomatch N)},s1,n1,by simp} (by rintro i B I _ ⟨_,_,_,_,_,_,_,_,o,_⟩;exact Qi (o _ _ ht)) ?_ ?_⟩
 .rintro i y B I hi ⟨x3,x4,x5,S,r,u,rfl,l,L,n2,T⟩;ac_nf;have((k,a,d),M,D,rfl,ag):=Qy ah hi;have(al,bl):=aD _ (Gc M);have(am,o2):=l.at_.ob;intros;exists D,0,Qk (L _ _ ag),13030301;refine{0,n,am,0,o2,qN _,0,n,na f r u,e,rk,S,a,1,l,Q,al,ay a,λS3 ad af v X3 ae a3 _ F3=>?_};have g3:Q5 h v:=λg A c=>F3.keep g A (L g A c) (λo=>by rw[n2 g o]at c;cases c);have n3:∀d,hX (na f ad af) S3 d->h d=Gp:=λd Z=>(F3.own d Z).elim (n2 d) (λo=>L.free o);have(an,o3):=X3.at_.ob;refine{0,n,an,0,o3,qN _,0,n,na f ad af,e,rk,S3,d,1,X3,Q,bl,ay d,λS4 ao ap H4 X4 R b4 _ F4=>?_};have Y:Q5 h H4:=λg A c=>F4.keep g A (g3 g A c) (λo=>by rw[n3 g o]at c;cases c);refine{32,S4,ao,ap,1,X4,Y,λd Z=>(F4.own d Z).elim (n3 d) (λo=>g3.free o),λc ac=>?_};rw[Tt,M]at ac;rcases Gi.mp ac with m|m
  .exact{R _ (ae _ (T c m).1),R _ (ae _ (T c m).2)}
  .have:c=(k,a,d):=by simpa using m
   subst this;exact{R _ a3,b4}
 rintro B I ⟨x3,x4,x5,S,r,u,rfl,l,L,n2,T⟩;rw[az,Tu]at T;have aQ:⇑S<=⇑e:=X5 (S:=So ⇑e) l.nd (λH z=>Sq.mpr (l.lt H z))|>λm=>by rw[Sa]at m;exact m
 have ni:Wy (ρ:=Ia) (Yu e) (Zx e) (fresh (Yu e) (Zx e) S) []:=Qrf l.nd l.cl λp N H z e1 e2=>Q.inj p H (l.lt p N) (l.lt H z) e1 e2;have N0:ip P w C h I n (na f r u) e ⇑S (fresh (Yu e) (Zx e) S):={l.at_,ni,{Q.str,l.lt,l.cl,λp=>by have:=Q.few p;lia},n2,hn,L,by show ⇑S<=60;lia,Dj (YI l.nd Q.few) (by lia),vr _,by show ⇑S<=⇑S+0*_;lia};have U0:iR e (fresh (Yu e) (Zx e) S) U 0:={T,λj p H hj=>by lia,λau X _ p N H z c=>by have c:p=H:=c;subst c;exact X.refl p,λy o=>nomatch o}
 let aI:Nat->St->Hp->Prop:=λi B v=>iE λ(x6 x7:Option V)(E:Nat)(x:Nn)=>j8 (B=[Ga ↑G,Ga ↑t,Ga ↑n,x3,x4,x5,x6,x7]) (ip P w C h v n (na f r u) e E x) (iR e x U i)
 refine⟨_,Xb,t,W,Xb,Qi (L _ _ ht),xO (K:=K) (a:=t) (xs:=W) aI
  {320,N0,U0} (by rintro i B v _ ⟨_,_,_,_,_,b,_⟩;exact Qi (b.sam _ _ ht)) ?_ ?_⟩
 .rintro i y g B v hi ⟨x6,x7,E,x,rfl,b,J⟩ hc;ac_nf;have((k,a,d),M,D,rfl,ag):=Qy ah hi;have s4:=Qf hc (.tup [.int (i:Int),↑D]);have Y:=b.sam.trans s4;have aa:=Y _ _ ag;have(aS,bS):=J.ins _ (Gc M);intros;have R:ip P w C h (zj v g (.tup [.int (i:Int),↑D])) n (na f r u) e E x:={b.at_.same s4,b.inv,b.fok,b.new,b.nn,Y,b.len,b.tt,b.cl,b.tbb};exists g,0,Qk Qb,130301;exists 0,D,201,Qk aa,Of _ _,10;rw[Zp];by_cases hk:k="same"
  .subst hk;rw[LJ];refine Yw ?_;have(ai,o4):=R.at_.ob;refine{0,n,ai,0,o4,yV _,0,D,201,Qk aa,Rp _ _ _,0,D,201,Qk aa,jz _ _ _ _,0,Yz,λo ak=>?_};have s5:=Qf ak (.tup [.str "told",.int (i:Int)]);have g5:=Y.trans s5;have N5:ip P w C h (zj (zj v g (.tup [.int (i:Int),↑D])) o (.tup [.str "told",.int (i:Int)])) n (na f r u) e E x:={R.at_.same s5,b.inv,b.fok,b.new,b.nn,g5,b.len,b.tt,b.cl,b.tbb};have aM:=b.len;have aj:=b.tt;have aN:=b.cl;have aO:=b.tbb;have aP:⇑x.zm*Ji x+cls x*Ji x<=60*6000:=by rw[<-Le];exact BV (by lia) aj
   refine{n,na f r u,e,E,x,a,d,↑o,Ga (.told i),1,N5.at_,b.fok,⟨o,Xb,Qb⟩,by simp,aS,bS,b.inv,by lia,by lia,by lia,by lia,λx' H6 Y6 M6 F6=>?_};exact{32,x',1,N5.merged Y6 M6 F6,J.step M M6}
  .have:(k==("same":TQ))=Gx:=by simpa using hk
   rw[this];exact Q6 {2,E,x,1,R,J.skip M hk}
 .rintro B v ⟨x6,x7,E,x,rfl,b,J⟩;rw[az]at J;exact{0,q n (na f r u) E x v b fA J}
end
end K04
namespace L2
open PySem PySem.Spec PyProof.Rows
inductive KH(x:V)(vs:List V)(H:Hp)(Q:VK):Prop
 |mk (d:_) (k:_) (dv:_) (zw:_) (h0:x=↑d) (h1:vs=[kV k,dv]) (h2:H d/.dK zw) (h3:⇑zw<TF) (h4:(∀v,Xq zw k/v->Q v H)) (h5:(Xq zw k=Gp->Q dv (zj H d (.dK (V7 zw k dv))))):KH x vs H Q
def Qq:V->List V->Hp->VK->Prop:=λx a H Q=>KH x a H Q
theorem YE{X:Cx}:i4 X "dict.setdefault" Qq:=by
 intro l s M H x L v K Q I C B h;have(d,k,g,a,rfl,rfl,e,G,t,u):=h;cases(show v=Tq d from C);have(J,D,rfl,A,m):=vals2 B;have(z,j,E,b,i):=ot I.Yc e;refine Nj F.slot_dict_setdefault i.typeIs F.entry_dict_setdefault (F.args_dict_setdefault_3 _ _ _) (kt_meets_setdefault (Y9 X.prog X.w) d (kh A) j D) {E,i,by rw[<-⇑b];exact z,λw hw=>?_,λr n f hs=>?_}
 .have c:=b.val k;rw[hw]at c;cases q:Xq a k with
  |none=>rw[q]at c;exact(show False from c).elim
  |some y=>rw[q]at c;exact{y,H,I.tok _,c,t y q}
 .have c:=b.val k;rw[r]at c;cases q:Xq a k with
  |some y=>rw[q]at c;exact(show False from c).elim
  |none=>
   have o:∃q,n.get? d/q:=let⟨q,_,_,hq,_⟩:=f;⟨q,hq⟩;have p:⇑(V7 a k g)<=TF:=by have:=Vc a k g;ext
   exact{g,_,R7 I (by rw[e];exact Es) hs o (AX p j (b.put k m) f),m,u q}
end L2
namespace PySem
variable{Q:Gh->Gw->Prop}{it:Ge}{xs:Array Gh}{i:Nat}{x:Gh}
structure nk(prog:Gn)(w:Ti)(A:DW)(I S:Ge)(fp:List Ge)(n:Nat)(St:Nat->Heap->List Gh->Prop)(Out:Heap->List Gh->Prop):Prop where
 item:∀(i:Nat)(s:Gw)(acc:List Gh)(Q:Option Gh->Gw->Prop)(E:Gh->Gw->Prop),i<n->St i s.heap acc->(∀v h' tk,St (i+1) h' (acc++[v])->(∀b o,b∉fp->s.heap.get? b/o->h'.get? b/o)->Q (Ga v) {s with heap:=h',toks:=tk})->wpAny (TV prog w) A (pyNext ↑I) Q E s
 done:∀(s:Gw)(acc:List Gh)(Q:Option Gh->Gw->Prop)(E:Gh->Gw->Prop),St n s.heap acc->(∀h' tk,Out h' acc->(∀b o,b∉fp->s.heap.get? b/o->h'.get? b/o)->Q Gp {s with heap:=h',toks:=tk})->wpAny (TV prog w) A (pyNext ↑I) Q E s
 keep:∀(i:Nat)(h h':Heap)(acc:List Gh),St i h acc->(∀b o,b≠S->h.get? b/o->h'.get? b/o)->S<h'.objs.size->St i h' acc
section
variable{prog:Gn}{w:Ti}{A:DW}{E:Gh->Gw->Prop}{s:Gw}{R:He->Gw->Prop}{I S:Ge}{fp:List Ge}{n:Nat}{St:Nat->Heap->List Gh->Prop}{Out:Heap->List Gh->Prop}
theorem UW(G:nk prog w A.in1 I S fp n St Out)(t:S∉fp)(g:n<=TF)(res:Gh){h₁:Heap}
  (B:∀f p a c,(∀b o,b≠S->b∉fp->h₁.get? b/o->f.get? b/o)->f.get? S=Ga {cls:=.type "list",dict:=Gp,data:=.seq a c,slots:=#[]}->a.size=n->Out f a.toList->R (.ok (.ret res)) {s with heap:=f,toks:=p}):
  ∀(k i:Nat)(h:Heap)(p c:Nat)(a:Array Gh),n - i=k->i<=n->St i h a.toList->(∀b o,b≠S->b∉fp->h₁.get? b/o->h.get? b/o)->a.size=i->
   h.get? S=Ga {cls:=.type "list",dict:=Gp,data:=.seq a c,slots:=#[]}->codeAny (TV prog w) A (.builtin "list.extend.loop" {[↑S,↑I,res],[]}) R {s with heap:=h,toks:=p}:=by
 intro k;induction k with
 |zero=>
  intro i h p c a D hi m d j y;have g:i=n:=by lia
  subst g;refine BF Mu ?_;rw[NM EX _];show wpAny _ A.in1 (pyNext ↑I>>=_) _ _ _;refine Gb (G.done {s with heap:=h,toks:=p} a.toList _ _ m λf q u l=>?_);exact Gj (B f q a c (λb o x r e=>l b o r (d b o x r e)) (l S _ t y) j u)
 |succ k E=>
  intro i h p c a D hi m d j y;refine BF Mu ?_;rw[NM EX _];show wpAny _ A.in1 (pyNext ↑I>>=_) _ _ _;refine Gb (G.item i {s with heap:=h,toks:=p} a.toList _ _ (by lia) m λv f q u l=>?_);dsimp only at l⊢;have g:=l S _ t y;have z:∀b o,b≠S->f.get? b/o->(f.update S (Lh (·.push v))).get? b/o:=λb o C e=>(Sh _ _ (GQ C)).trans e;show wpAny _ A.in1 (updateSeq S (·.push v)>>=_) _ _ _;refine Gb ?_;refine L6 g rfl (Gj ⟨NX EX _,E (i+1) _ q _ (a.push v) (by lia) (by lia) (G.keep _ _ _ _ (by rw[Array.toList_push];exact u) z (Tn (DU _ g Xb)))
   (λb o x r e=>z b o x (l b o r (d b o x r e))) (by rw[BG,j]) (DU _ g Xb)⟩) (by lia) (by show(a.push v).size<=TF+1;rw[BG];lia)
theorem A1{T:String}{hb:Bool}(G:nk prog w A.in1.in1 I s.heap.objs.size fp n St Out)(B:∀b∈fp,b<s.heap.objs.size)(L:I<s.heap.objs.size)(P:n<=TF)(C:∀f:Heap,(∀b o,s.heap.get? b/o->f.get? b/o)->s.heap.objs.size<f.objs.size->St 0 f [])
  (N:∀h d,St 0 h d->CT {s with heap:=h} ↑I T)(U:(Lf T==Lf "list")=Gx)(V:(Lf T==Lf "tuple")=Gx)
  (self:∀(A:DW)(E:Gh->Gw->Prop)(h:Heap)(Q:Gh->Gw->Prop),St 0 h []->Q ↑I {s with heap:=h}->wpAny (TV prog w) A (pyIter ↑I) Q E {s with heap:=h})
  (hint:∀(A:DW)(E:Gh->Gw->Prop)(h:Heap)(Q:Bool->Gw->Prop),St 0 h []->Q hb {s with heap:=h}->wpAny (TV prog w) A (EO ↑I) Q E {s with heap:=h})
  (M:∀l F d c,(∀b o,b∉fp->s.heap.get? b/o->l.get? b/o)->l.get? s.heap.objs.size=Ga {cls:=.type "list",dict:=Gp,data:=.seq d c,slots:=#[]}->d.size=n->Out l d.toList->Q ↑s.heap.objs.size {s with heap:=l,toks:=F}):
  wpAny (TV prog w) A (call (.type "list") [↑I]) Q E s:=by
 have z:s.heap.objs.size∉fp:=λr=>ER _ (B _ r);have y:s.heap.objs.size≠I:=DC L;refine callType_codes (Q₁:=λt k=>t=.ref s.heap.objs.size/\k={s with heap:=s.heap.push {cls:=.type "list",data:=.seq #[]}}) HP (C3 _) C4
  (code_list_new _ ⟨Xb,Xb⟩) λt k h₁=>?_
 have(rfl,rfl):=h₁;have v:(s.heap.push {cls:=.type "list",data:=.seq #[]}).get? s.heap.objs.size=Ga {cls:=.type "list",data:=.seq #[]}:=Tc _ rfl;exists {_,v,1},CU _ _;show wpAny _ _ (do let r<-Nk ↑s.heap.objs.size;C5 ↑s.heap.objs.size (λ_=>#[]);letGo r.toList.reverse;LB ↑s.heap.objs.size ↑I .none) _ _ _;refine Gb ?_;unfold Nk;refine Gb (DD v rfl (Gj ?_));show wpAny _ _ (updateSeq s.heap.objs.size (λ_=>#[])>>=λ_=>letGo (#[]:Array Gh).toList.reverse>>=λ_=>LB ↑s.heap.objs.size ↑I .none) _ _ _;refine Gb (L6 v rfl ?_);have a:=DU (Lh (λ_=>(#[]:Array Gh))) v rfl;refine Gb (LF ?_);generalize q:(s.heap.push {cls:=.type "list",data:=.seq #[]}).update s.heap.objs.size (Lh (λ_=>(#[]:Array Gh)))=f at a;have H:∀b o,s.heap.get? b/o->f.get? b/o:=λb o e=>by rw[<-q];exact(Sh _ _ (GQ (T9 (Tn e)))).trans (Gm _ e)
 have j:St 0 f []:=C f H (Tn a);clear q;unfold LB;refine Gb (Hg (T:=T) (N _ _ j) ?_);have K:MK ↑s.heap.objs.size ↑I=Gx:=by simp[MK,y]
 simp -iota only [K,U,V,CI,DQ,EN];refine Gb (self _ _ f _ j ?_);refine Gb (Ej (hint _ _ f _ j ?_));have p:∀(m:Heap)(c:Nat),St 0 m []->(∀b o,b≠s.heap.objs.size->f.get? b/o->m.get? b/o)->m.get? s.heap.objs.size=Ga {cls:=.type "list",dict:=Gp,data:=.seq #[] c,slots:=#[]}->
   codeAny (TV prog w) A.in1 (.builtin "list.extend.loop" {[↑s.heap.objs.size,↑I,.none],[]}) (wants (λr u=>r=DJ/\Q (Tq s.heap.objs.size) u) E) {s with heap:=m,toks:=s.toks}:=by
  intro m c D S x;refine UW (A:=A.in1) (s:=s) (h₁:=s.heap) G z P .none (λl F d c u r O R=>{1,M l F d c (λb o hb e=>u b o (T9 (Tn e)) hb e) r O R}) n 0 m s.toks c #[] (by lia) (Tw _) D (λb o hb _ e=>S b o hb (H b o e)) rfl x
 refine FP (λ_=>?_) (λ_=>Gj {NX EX _,p f _ j (λb o _ e=>e) a});refine Gb (LD ?_);refine Gb ?_;show wpAny _ _ (updateSeq s.heap.objs.size (·.push .none)>>=λ_=>updateSeq s.heap.objs.size (·.pop)) _ _ _;refine Gb (L6 a rfl ?_);have g:=DU (Lh (·.push DJ)) a rfl;refine L6 (hz:=by seq_fits) g rfl ?_;have i:=DU (Lh (·.pop)) g rfl;have J:∀b o,b≠s.heap.objs.size->f.get? b/o->((f.update s.heap.objs.size (Lh (·.push DJ))).update s.heap.objs.size (Lh (·.pop))).get? b/o:=λb o hb e=>(Sh _ _ (GQ hb)).trans ((Sh _ _ (GQ hb)).trans e)
 exact Gj {NX EX _,p _ _ (G.keep _ _ _ _ j J (Tn i)) J i}
end
structure iB(prog:Gn)(w:Ti)(it l:Ge)(xs:Array Gh)(St:Nat->Heap->Prop):Prop where
 item:∀(A:DW)(E:Gh->Gw->Prop)(s:Gw)(i:Nat)(x:Gh)(Q:Gh->Gw->Prop),St i s.heap->xs[i]?/x->(∀h',St (i+1) h'->Eb it s.heap h'->Q x {s with heap:=h'})->wpAny (TV prog w) A (TR ↑it) Q E s
 fin:∀(A:DW)(E:Gh->Gw->Prop)(s:Gw)(i:Nat)(Q:Gh->Gw->Prop),A.handled=Gp->St i s.heap->xs[i]?=Gp->(∀h' e,NG it s.heap h'->(∃o,h'.get? e/o/\o.cls=.type "StopIteration")->E ↑e {s with heap:=h'})->wpAny (TV prog w) A (TR ↑it) Q E s
 keep:∀(i:Nat)(h h':Heap),St i h->(∀b,b=it\/b=l->∀o,h.get? b/o->h'.get? b/o)->St i h'
 there:∀(i:Nat)(h:Heap),St i h->it<h.objs.size/\l<h.objs.size
theorem vy{b:Gn}{w:Ti}{l:Ge}(d:l≠it):iB b w it l xs (λi h=>h.IsListIter it l i/\h.IsList l xs) where
 item:=λA E s i x Q a f m=>Ll a.1 a.2 f λg c hs=>m g {c,a.2.extBut hs.extBut d} hs
 fin:=λA E s i Q n a f j=>Nx n a.1 a.2 f j
 keep:=λi h g a k=>{a.1.at λo e=>k it (.inl Xb) o e,a.2.at λo e=>k l (.inr Xb) o e}
 there:=λi h a=>{let⟨_,e,_⟩:=a.1;Tn e,let⟨_,e,_⟩:=a.2;Tn e}
section
variable{prog:Gn}{w:Ti}{A:DW}{E:Gh->Gw->Prop}{s:Gw}
theorem J1{t:Ge}{a:Array Gh}(b:s.heap.IsTupleIter it t i)(ht:s.heap.IsTuple t a)(k:a[i]?/x)
  (h:∀e,e.IsTupleIter it t (i+1)->Eb it s.heap e->Q x {s with heap:=e}):wpAny (TV prog w) A (TR ↑it) Q E s:=by
 have(o,d,j,c):=id b;have(m,g,_,l,f):=ht;unfold TR;refine Gb (Dz (name:=Ev "__next__") b.typeIs F.slot_tuple_iterator_next
  (Dy F.slot_tuple_iterator_next b.typeIs F.entry_tuple_iterator_next ?_ (F.args_tuple_iterator_next_1 _)))
 show wpAny _ _ (field ↑it 0>>=_) _ _ s;refine Gb (Do d c (x:=↑t) rfl ?_);show wpAny _ _ (if(Tq t==DJ)=Gk then _ else _) _ _ s;rw[Gu (show¬((Tq t==DJ)=Gk)from TH)];show wpAny _ _ (field ↑it 1>>=_) _ _ s;refine Gb (Do d c (x:=.int i 0) rfl ?_);show wpAny _ _ (seqItems? ↑t>>=_) _ _ s;refine Gb (DD g f ?_);simp only[EE,k];refine Gb (LG d c ⋯ (Gj {x,1,Gj (h _ ?_ (D0 ..))}));exact{_,DU _ d (Fp (Ss c _)),(MC ..).trans j,by rw[Ss c];simp -iota [rawInt]}
theorem Ip{t:Ge}{a:Array Gh}(j:A.handled=Gp)(b:s.heap.IsTupleIter it t i)(ht:s.heap.IsTuple t a)(l:a[i]?=Gp)
  (k:∀c e,NG it s.heap c->(∃o,c.get? e/o/\o.cls=.type "StopIteration")->E ↑e {s with heap:=c}):wpAny (TV prog w) A (TR ↑it) Q E s:=by
 have(o,g,c,d):=id b;have(n,h,_,m,f):=ht;unfold TR;refine Gb (Dz (name:=Ev "__next__") b.typeIs F.slot_tuple_iterator_next
  (Dy F.slot_tuple_iterator_next b.typeIs F.entry_tuple_iterator_next ?_ (F.args_tuple_iterator_next_1 _)))
 show wpAny _ _ (field ↑it 0>>=_) _ _ s;refine Gb (Do g d (x:=↑t) rfl ?_);show wpAny _ _ (if(Tq t==DJ)=Gk then _ else _) _ _ s;rw[Gu (show¬((Tq t==DJ)=Gk)from TH)];show wpAny _ _ (field ↑it 1>>=_) _ _ s;refine Gb (Do g d (x:=.int i 0) rfl ?_);show wpAny _ _ (seqItems? ↑t>>=_) _ _ s;refine Gb (DD h f ?_);simp only[EE,l];refine Gb (LD (Gb (LG g d ⋯ ?_)));show wpAny _ _ (newExc (.type "StopIteration") []>>=_) _ _ _;refine Gb ?_;simp -iota only [newExc,newTuple];refine Gb (DE ?_ (by size_fits));refine Gb (m:=firstArgMember _ _) (Bx (a:=DJ) (by first|rfl|(simp -iota only [firstArgMember];rfl)) ?_);refine DE ?_ (by size_fits);simp -iota only [raiseNew];refine Gb (NW ?_);first|rw[show A.in1.handled=Gp from j]|rw[j]
 refine Gb (Gj (By ?_));exact k _ _ (((D0 ..).extBut.push _).push _) {_,Tc _ Xb,1}
end
theorem yh{b:Gn}{w:Ti}{l:Ge}(d:l≠it):iB b w it l xs (λi h=>h.IsTupleIter it l i/\h.IsTuple l xs) where
 item:=λA E s i x Q a f m=>J1 a.1 a.2 f λg c hs=>m g {c,a.2.extBut hs.extBut d} hs
 fin:=λA E s i Q n a f j=>Ip n a.1 a.2 f j
 keep:=λi h g a k=>{let⟨o,ho,r⟩:=a.1;{o,k it (.inl Xb) o ho,r},let⟨o,ho,r⟩:=a.2;{o,k l (.inr Xb) o ho,r}}
 there:=λi h a=>{let⟨_,e,_⟩:=a.1;Tn e,let⟨_,e,_⟩:=a.2;Tn e}
abbrev Rr(h:Heap)(z TI TO a:Ge)(f:Bool):Prop:=h.get? z=Ga {cls:=.type "zip",dict:=Gp,data:=.fields #[rawInt a,.bool f,.bool Gx,↑TI,↑TO],slots:=#[]}
section
variable{prog:Gn}{w:Ti}{A:DW}{E:Gh->Gw->Prop}{s:Gw}{z TI TO i1 i2 l1 l2:Ge}{k:Nat}{xs ys:Array Gh}{S1 S2:Nat->Heap->Prop}
theorem XW{y M r:Gh}(c:BW z TI TO i1 i2 l1 l2)(B:iB prog w i1 l1 xs S1)(C:iB prog w i2 l2 ys S2)
  (q:Fe s.heap z TI TO .none)(ac:E7 s.heap TI ↑i1 ↑i2)(ad:E7 s.heap TO M r)(h1:S1 k s.heap)(h2:S2 k s.heap)(hx:xs[k]?/x)(hy:ys[k]?/y)
  (hQ:∀g,Rr g z TI TO s.heap.objs.size Gx->E7 g TO x y->S1 (k+1) g->S2 (k+1) g->E7 g s.heap.objs.size x y->
   (∀a b,a≠z->a≠TO->a≠i1->a≠i2->s.heap.get? a/b->g.get? a/b)->Q ↑s.heap.objs.size {s with heap:=g}):
  wpAny (TV prog w) A (Builtin.«zip.__next__» {[↑z],[]}) (λfin s'=>∃g,fin=.done (.ret g)/\Q g s') E s:=by
 show wpAny _ _ (field ↑z 2>>=_) _ _ _;refine Gb (Do q rfl (x:=.bool Gx) rfl ?_);show wpAny _ _ (field ↑z 3>>=_) _ _ _;refine Gb (Do q rfl (x:=↑TI) rfl ?_);refine Gb (DD ac rfl ?_);show wpAny _ _ (TU ↑z>>=_) _ _ _;refine Gb ?_;unfold TU;refine Gb (Do q rfl (x:=.none) rfl (Gj ?_));simp -iota only [Fz];refine Gb (LD ?_);refine Gb (Do q rfl (x:=↑TO) rfl ?_);refine Gb (DS q ⋯ λK I S=>?_);replace I:Fe K z TI TO .ellipsis:=I;have D:∀a b,a≠z->s.heap.get? a/b->K.get? a/b:=λa b Z d=>S.extBut _ _ Z d;refine Gb ?_;simp -iota only [Fw,FQ,SF,LH];refine Gb (Gb (SQ ?_));show wpAny _ _ (TR ↑i1>>=_) _ _ _;refine Gb (B.item _ _ _ k x _ (B.keep k _ K h1 λa h b d=>D a b (by rcases h with rfl|rfl;exact c.i1z;exact c.l1z) d) hx λag aa u=>Gj ?_);have N:E7 ag TO M r:=u.extBut _ _ c.TOi1 (D _ _ c.TOz ad);refine Gb (DD N rfl ?_);refine Gb (FJ N λL H p=>?_);replace H:E7 L TO x r:=H;refine Gb (LF (Gj ?_));have F:∀a b,a≠z->a≠i1->a≠TO->s.heap.get? a/b->L.get? a/b:=λa b f j o d=>p.extBut _ _ o (u.extBut _ _ j (D a b f d));refine Gb (Gb (SQ ?_));show wpAny _ _ (TR ↑i2>>=_) _ _ _;refine Gb (C.item _ _ _ k y _ (C.keep k _ L h2 λa h b d=>by
  rcases h with rfl|rfl
  .exact F _ b c.i2z c.i12.symm c.TOi2.symm d
  .exact F _ b c.l2z c.l2i1 c.l2TO d) hy λah ab l=>Gj ?_)
 have O:E7 ah TO x r:=l.extBut _ _ c.TOi2 H;refine Gb (DD O rfl ?_);refine Gb (FJ O λe t i=>?_);replace t:E7 e TO x y:=t;refine Gb (LF (Gj (Gj ?_)));refine Gb (DD t rfl ?_);refine Gb (NN ?_);have R:e.objs.size=s.heap.objs.size:=by rw[i.1,l.1,p.1,u.1,S.1]
 have W:Fe e z TI TO .ellipsis:=i.extBut _ _ c.TOz.symm (l.extBut _ _ c.i2z.symm (p.extBut _ _ c.TOz.symm (u.extBut _ _ c.i1z.symm I)));have ae:∀a b,a≠z->a≠TO->a≠i1->a≠i2->s.heap.get? a/b->e.get? a/b:=λa b f j o G d=>i.extBut _ _ j (l.extBut _ _ G (F a b f o j d));have V:z<e.objs.size:=Tn W;show wpAny _ _ (EC ↑z ↑e.objs.size>>=_) _ _ _;refine Gb ?_;unfold EC;have af:Fe (e.push {cls:=.type "tuple",data:=.seq #[x,y]}) z TI TO .ellipsis:=Gm _ W;refine Gb (DS af ⋯ λai J T=>?_);replace J:Fe ai z TI TO (rawInt e.objs.size):=J;refine DS J ⋯ λm v U=>?_;replace v:Fe m z TI TO (rawInt e.objs.size):=v;have n:∀a b,a≠z->e.get? a/b->m.get? a/b:=λa b f d=>U.extBut _ _ f (T.extBut _ _ f (Gm _ d));have P:E7 m e.objs.size x y:=U.extBut _ _ (DC V) (T.extBut _ _ (DC V) (Tc _ Xb));rw[R]at v P;refine Gj {0,?_};show Q ↑e.objs.size _;rw[R];have X:S1 (k+1) m:=B.keep _ _ _ aa λa h b d=>by
  rcases h with rfl|rfl
  .exact n _ b c.i1z (i.extBut _ _ c.TOi1.symm (l.extBut _ _ c.i12 (p.extBut _ _ c.TOi1.symm d)))
  .exact n _ b c.l1z (i.extBut _ _ c.l1TO (l.extBut _ _ c.l1i2 (p.extBut _ _ c.l1TO d)))
 have Y:S2 (k+1) m:=C.keep _ _ _ ab λa h b d=>by
  rcases h with rfl|rfl
  .exact n _ b c.i2z (i.extBut _ _ c.TOi2.symm d)
  .exact n _ b c.l2z (i.extBut _ _ c.l2TO d)
 exact hQ m v (n _ _ c.TOz t) X Y P λa b f j o G d=>n a b f (ae a b f j o G d)
theorem KA{a:Ge}{f:Bool}{i:Lc}{Q:Bool->Gw->Prop}(e:Rr s.heap z TI TO a f)(h:s.heap.get? a/i)(g:∀b,Rr b z TI TO a Gk->Eb z s.heap b->Q Gx {s with heap:=b}):
  wpAny (TV prog w) A (TU ↑z) Q E s:=by
 unfold TU;refine Gb (Do e rfl (x:=rawInt a) rfl ?_);show wpAny _ _ (loadIfAlive ((a:Int).toNat)>>=_) _ _ _;rw[EE];refine Gb (I3 h ?_);simp -iota only [Option.isNone_some,DQ,EN];refine Gb (Do e rfl (x:=.bool f) rfl ?_);cases f with
 |true=>rw[Gu (show¬((LC Gk !=LC Gk)=Gk)from TH)];exact Gj (g _ e (I6 _ _))
 |false=>rw[GY (show(LC Gx !=LC Gk)=Gk from rfl)];exact Gb (DS e ⋯ λd b c=>Gj (g d b c))
theorem Qu2{y:Gh}{a:Ge}{f:Bool}{S:Lc}(D:BW z TI TO i1 i2 l1 l2)(u:iB prog w i1 l1 xs S1)(B:iB prog w i2 l2 ys S2)
  (I:Rr s.heap z TI TO a f)(O:s.heap.get? a/S)(H:E7 s.heap TI ↑i1 ↑i2)(L:S1 k s.heap)(M:S2 k s.heap)(P:xs[k]?/x)(R:ys[k]?/y)
  (N:∀q,Rr q z TI TO a Gk->S1 (k+1) q->S2 (k+1) q->E7 q s.heap.objs.size x y->
   (∀c o,c≠z->c≠i1->c≠i2->s.heap.get? c/o->q.get? c/o)->Q ↑s.heap.objs.size {s with heap:=q}):
  wpAny (TV prog w) A (Builtin.«zip.__next__» {[↑z],[]}) (λfin s'=>∃v,fin=.done (.ret v)/\Q v s') E s:=by
 show wpAny _ _ (field ↑z 2>>=_) _ _ _;refine Gb (Do I rfl (x:=.bool Gx) rfl ?_);show wpAny _ _ (field ↑z 3>>=_) _ _ _;refine Gb (Do I rfl (x:=↑TI) rfl ?_);refine Gb (DD H rfl ?_);show wpAny _ _ (TU ↑z>>=_) _ _ _;refine Gb (KA I O λj p i=>?_);have J:∀c o,c≠z->s.heap.get? c/o->j.get? c/o:=λc o h e=>i.extBut _ _ h e;simp -iota only [DQ,EN];refine Gb ?_;rw[<-L9];simp -iota only [SF,LH];refine Gb (Gb (Ej ?_));show wpAny _ _ (TR ↑i1>>=_) _ _ _;refine Gb (u.item _ _ _ k x _ (u.keep k _ j L λc r o e=>J c o (by rcases r with rfl|rfl;exact D.i1z;exact D.l1z) e) P λl m d=>Gj (Gj ?_));have C:∀c o,c≠z->c≠i1->s.heap.get? c/o->l.get? c/o:=λc o F G e=>d.extBut _ _ G (J c o F e);refine Gb (Gb (Ej ?_));show wpAny _ _ (TR ↑i2>>=_) _ _ _;refine Gb (B.item _ _ _ k y _ (B.keep k _ l M λc r o e=>by
  rcases r with rfl|rfl
  .exact C _ o D.i2z D.i12.symm e
  .exact C _ o D.l2z D.l2i1 e) R λg n b=>Gj (Gj (Gj ?_)))
 refine Gb (NN (hsz:=Yz) ?_);have hsz:g.objs.size=s.heap.objs.size:=by rw[b.1,d.1,i.1]
 refine Gj {0,?_};show Q ↑g.objs.size _;rw[hsz];have t:∀c o,g.get? c/o->(g.push {cls:=.type "tuple",data:=.seq #[x,y]}).get? c/o:=λc o e=>Gm _ e;refine N _ (t _ _ (b.extBut _ _ D.i2z.symm (d.extBut _ _ D.i1z.symm p))) (u.keep _ _ _ m λc r o e=>t _ _ ?_) (B.keep _ _ _ n λc r o e=>t _ _ e) (by rw[<-hsz];exact Tc _ Xb) λc o F G K e=>t _ _ (b.extBut _ _ K (C c o F G e));rcases r with rfl|rfl
 .exact b.extBut _ _ D.i12 e
 .exact b.extBut _ _ D.l1i2 e
theorem Qxs{M N:Gh}{Y:Fin->Gw->Prop}(F:A.handled=Gp)(d:BW z TI TO i1 i2 l1 l2)(q:iB prog w i1 l1 xs S1)(C:iB prog w i2 l2 ys S2)
  (g:Fe s.heap z TI TO .none\/∃a O X,Rr s.heap z TI TO a O/\s.heap.get? a/X)(R:E7 s.heap TI ↑i1 ↑i2)(aa:E7 s.heap TO M N)(P:S1 k s.heap)(Q:S2 k s.heap)(T:xs[k]?=Gp\/ys[k]?=Gp)
  (D:∀o c,(∀a b,a≠z->a≠TO->a≠i1->a≠i2->s.heap.get? a/b->o.get? a/b)->(∃b,o.get? c/b/\b.cls=.type "StopIteration")->E ↑c {s with heap:=o}):
  wpAny (TV prog w) A (Builtin.«zip.__next__» {[↑z],[]}) Y E s:=by
 rcases g with g|⟨o,O,X,g,ha⟩
 .show wpAny _ _ (field ↑z 2>>=_) _ _ _;refine Gb (Do g rfl (x:=.bool Gx) rfl ?_);show wpAny _ _ (field ↑z 3>>=_) _ _ _;refine Gb (Do g rfl (x:=↑TI) rfl ?_);refine Gb (DD R rfl ?_);show wpAny _ _ (TU ↑z>>=_) _ _ _;refine Gb ?_;unfold TU;refine Gb (Do g rfl (x:=.none) rfl (Gj ?_));simp -iota only [Fz];refine Gb (LD ?_);refine Gb (Do g rfl (x:=↑TO) rfl ?_);refine Gb (DS g ⋯ λr y J=>?_);replace y:Fe r z TI TO .ellipsis:=y;have j:∀a b,a≠z->s.heap.get? a/b->r.get? a/b:=λa b f c=>J.extBut _ _ f c;refine Gb ?_;simp -iota only [Fw,FQ,SF,LH];refine Gb (Gb (SQ ?_));show wpAny _ _ (TR ↑i1>>=_) _ _ _;have B:=q.keep k _ r P λa m b c=>j a b (by rcases m with rfl|rfl;exact d.i1z;exact d.l1z) c;cases hx:xs[k]? with
  |none=>
   refine Gb (q.fin _ _ _ k _ F B hx λl c h n=>?_);have(L,o,v):=n;have G:Fe l z TI TO .ellipsis:=h _ _ d.i1z.symm y;have I:c≠z:=λx=>by subst x;rw[G]at o;cases o;simp at v
   refine DS G ⋯ λt _ p=>D t c (λa b e _ i _ x=>p.extBut _ _ e (h _ _ i (j _ _ e x))) {L,p.extBut _ _ I o,v}
  |some x=>
   have K:ys[k]?=Gp:=by rcases T with f|f;rw[hx]at f;cases f;exact f
   refine Gb (q.item _ _ _ k x _ B hx λl Z h=>Gj ?_);have S:E7 l TO M N:=h.extBut _ _ d.TOi1 (j _ _ d.TOz aa);refine Gb (DD S rfl ?_);refine Gb (FJ S λt ad p=>?_);refine Gb (LF (Gj ?_));have G:∀a b,a≠z->a≠i1->a≠TO->s.heap.get? a/b->t.get? a/b:=λa b e u i c=>p.extBut _ _ i (h.extBut _ _ u (j a b e c));refine Gb (Gb (SQ ?_));show wpAny _ _ (TR ↑i2>>=_) _ _ _;refine Gb (C.fin _ _ _ k _ F (C.keep k _ t Q λa m b c=>by
    rcases m with rfl|rfl
    .exact G _ b d.i2z d.i12.symm d.TOi2.symm c
    .exact G _ b d.l2z d.l2i1 d.l2TO c) K λab c U n=>?_)
   have(L,o,v):=n;have W:Fe ab z TI TO .ellipsis:=U _ _ d.i2z.symm (p.extBut _ _ d.TOz.symm (h.extBut _ _ d.i1z.symm y));have I:c≠z:=λx=>by subst x;rw[W]at o;cases o;simp at v
   refine DS W ⋯ λac _ V=>D ac c (λa b e u i H x=>V.extBut _ _ e (U _ _ H (G a b e i u x))) {L,V.extBut _ _ I o,v}
 .show wpAny _ _ (field ↑z 2>>=_) _ _ _;refine Gb (Do g rfl (x:=.bool Gx) rfl ?_);show wpAny _ _ (field ↑z 3>>=_) _ _ _;refine Gb (Do g rfl (x:=↑TI) rfl ?_);refine Gb (DD R rfl ?_);show wpAny _ _ (TU ↑z>>=_) _ _ _;refine Gb (KA g ha λr y J=>?_);have j:∀a b,a≠z->s.heap.get? a/b->r.get? a/b:=λa b f c=>J.extBut _ _ f c;simp -iota only [DQ,EN];refine Gb ?_;rw[<-L9];simp -iota only [SF,LH];refine Gb (Gb (Ej ?_));show wpAny _ _ (TR ↑i1>>=_) _ _ _;have B:=q.keep k _ r P λa m b c=>j a b (by rcases m with rfl|rfl;exact d.i1z;exact d.l1z) c;cases hx:xs[k]? with
  |none=>exact Gb (q.fin _ _ _ k _ F B hx λl c h n=>D l c (λa b e _ i _ x=>h _ _ i (j _ _ e x)) n)
  |some x=>
   have K:ys[k]?=Gp:=by rcases T with f|f;rw[hx]at f;cases f;exact f
   refine Gb (q.item _ _ _ k x _ B hx λl Z h=>Gj (Gj ?_));have o:∀a b,a≠z->a≠i1->s.heap.get? a/b->l.get? a/b:=λa b e u c=>h.extBut _ _ u (j a b e c);refine Gb (Gb (Ej ?_));show wpAny _ _ (TR ↑i2>>=_) _ _ _;exact Gb (C.fin _ _ _ k _ F (C.keep k _ l Q λa m b c=>by
    rcases m with rfl|rfl
    .exact o _ b d.i2z d.i12.symm c
    .exact o _ b d.l2z d.l2i1 c) K λt c p n=>D t c (λa b e _ i H x=>p _ _ H (o a b e i x)) n)
structure sx(S1 S2:Nat->Heap->Prop)(xs ys:Array Gh)(z TI TO i1 i2 S:Ge)(i:Nat)(h:Heap)(acc:List Gh):Prop where
 zip:(i=0/\Fe h z TI TO .none)\/∃c f oa,Rr h z TI TO c f/\h.get? c/oa/\c≠S/\c≠z/\c≠TO/\c≠i1/\c≠i2
 ti:E7 h TI ↑i1 ↑i2
 to:∃a b,E7 h TO a b
 s1:S1 i h
 s2:S2 i h
 len:⇑acc=i
 sl:S<h.objs.size
 out:∀(j:Nat)v,acc[j]?/v->∃c x y,v=.ref c/\xs[j]?/x/\ys[j]?/y/\E7 h c x y/\c≠S/\c≠z/\c≠TO/\c≠i1/\c≠i2/\z<c
theorem vU{Q:Option Gh->Gw->Prop}{R:Gh->Gw->Prop}(b:s.TypeIs ↑z "zip")(h:wpAny (TV prog w) A.in1 (Builtin.«zip.__next__» {[↑z],[]}) (λfin s'=>∃v,fin=.done (.ret v)/\Q (Ga v) s') (λe s'=>∃o,(∃a,e=.ref a/\s'.heap.get? a/o/\o.cls=.type "StopIteration")/\Q Gp s') s):wpAny (TV prog w) A (pyNext ↑z) Q E s:=by
 unfold pyNext;refine Gb (Lv (Dz (name:=Ev "__next__") b F.slot_zip_next
  (Dy F.slot_zip_next b F.entry_zip_next (E1 h (λfin s'⟨v,e,q⟩=>{v,e,Gj q}) λe s'⟨o,⟨a,c,f,d⟩,q⟩=>?_) (F.args_zip_next_1 _))))
 subst c;exact Gb (S0 (T:="StopIteration") (b:=Gk) ⟨o,f,d⟩ Mm (Gj q))
theorem sx.type{S:Ge}{h:Heap}{a:List Gh}(x:sx S1 S2 xs ys z TI TO i1 i2 S i h a):CT {s with heap:=h} ↑z "zip":=by
 rcases x.zip with⟨_,e⟩|⟨c,f,b,e,_⟩
 .exact{_,e,1}
 .exact{_,e,1}
theorem Qz8{S:Ge}(hh:A.handled=Gp)(p:BW z TI TO i1 i2 l1 l2)(E:iB prog w i1 l1 xs S1)(F:iB prog w i2 l2 ys S2)(u:S≠z/\S≠TI/\S≠TO/\S≠i1/\S≠i2/\S≠l1/\S≠l2):
  nk prog w A z S [z,TO,i1,i2] (min xs.size ys.size) (sx S1 S2 xs ys z TI TO i1 i2 S)
   (λh G=>∀(j:Nat)v,G[j]?/v->∃a x y,v=.ref a/\xs[j]?/x/\ys[j]?/y/\E7 h a x y/\a≠S/\z<a):=by
 have D:∀{a:Ge},a≠z->a≠TO->a≠i1->a≠i2->a∉[z,TO,i1,i2]:=λac l a d h=>by simp at h;rcases h with h|h|h|h<;>contradiction
 have t:∀{a:Ge},a∉[z,TO,i1,i2]->a≠z/\a≠TO/\a≠i1/\a≠i2:=λh=>by simp at h;exact h
 refine{λi s G ab ae hi b Y=>?_,λs G ab ae b Y=>?_,λi h e G b k P=>?_}
 .have Z:xs[i]?/xs[i]:=Dg ∅;have hy:ys[i]?/ys[i]:=Dg ∅;have(ta,tb,C):=b.to;have P:=b.sl;refine vU (R:=λ_ _=>True) b.type ?_;have ad:∀e,(∃a r q,Rr e z TI TO a r/\e.get? a/q/\a≠S/\a≠z/\a≠TO/\a≠i1/\a≠i2)->(∃ac l,E7 e TO ac l)->S1 (i+1) e->S2 (i+1) e->E7 e s.heap.objs.size xs[i] ys[i]->(∀a f,a≠z->a≠TO->a≠i1->a≠i2->s.heap.get? a/f->e.get? a/f)->ab (Ga ↑s.heap.objs.size) {s with heap:=e,toks:=s.toks}:=by
   intro e ah ag I J D m;have W:z<s.heap.objs.size:=by rcases b.zip with⟨_,c⟩|⟨a,r,q,c,_⟩<;>exact Tn c
   have aa:TO<s.heap.objs.size:=Tn C;have ai:i1≠s.heap.objs.size:=T9 (E.there _ _ b.s1).1;have aj:i2≠s.heap.objs.size:=T9 (F.there _ _ b.s2).1;refine Y _ e s.toks {.inr ah,m _ _ p.TIz p.TITO p.TIi1 p.TIi2 b.ti,ag,I,J,by simp -iota [b.len],Hk P (Tn D),λj v n=>?_} λl f g c=>m l f (t g).1 (t g).2.1 (t g).2.2.1 (t g).2.2.2 c;rcases Dn j ⇑G with h|h
   .rw[Tz h]at n;have(a,x,y,L,M,N,O,H,R,T,U,V,K):=b.out j v n;exact{a,x,y,L,M,N,m _ _ R T U V O,H,R,T,U,V,K}
   .rw[Dc h]at n;have h0:j - ⇑G=0:=by have:=(Gg.mp n).1;simp at this;ext
    rw[h0]at n;simp at n;subst n;have:j=i:=by have:=b.len;ext
    subst this;exact{20,Z,hy,D,DC P,DC W,DC aa,GQ ai,GQ aj,W}
  have W:z<s.heap.objs.size:=by rcases b.zip with⟨_,c⟩|⟨a,r,q,c,_⟩<;>exact Tn c
  have aa:TO<s.heap.objs.size:=Tn C;rcases b.zip with⟨_,o⟩|⟨a,r,q,o,B,Q,c2,c3,c4,c5⟩
  .exact XW p E F o b.ti C b.s1 b.s2 Z hy λe X af I J D m=>ad e {32,X,D,DC P,DC W,DC aa,DC (E.there _ _ b.s1).1,DC (F.there _ _ b.s2).1} {2,af} I J D m
  .exact Qu2 p E F o B b.ti b.s1 b.s2 Z hy λe X I J D m=>ad e {a,Gk,q,X,m _ _ c2 c4 c5 B,Q,c2,c3,c4,c5} {2,m _ _ p.TOz p.TOi1 p.TOi2 C} I J D λl f b1 _ b3 b4 c=>m l f b1 b3 b4 c
 .obtain⟨ta,tb,C⟩:=b.to;refine vU (R:=λ_ _=>True) b.type (Qxs (k:=min xs.size ys.size) hh p E F ?_ b.ti C b.s1 b.s2 ?_ λe c m D=>?_)
  .rcases b.zip with⟨_,o⟩|⟨a,r,q,o,B,_⟩
   .exact .inl o
   .exact .inr ⟨a,r,q,o,B⟩
  .rcases Nat.le_total xs.size ys.size with h|h
   .exact .inl (Ed ∅)
   .exact .inr (Ed ∅)
  .obtain⟨f,I,B⟩:=D;refine{f,⟨c,Xb,I,B⟩,Y e s.toks (λj v n=>?_) λl f g c=>m l f (t g).1 (t g).2.1 (t g).2.2.1 (t g).2.2.2 c};have(a,x,y,L,M,N,O,H,R,T,U,V,K):=b.out j v n;exact{a,x,y,L,M,N,m _ _ R T U V O,H,K}
 .obtain⟨ta,tb,C⟩:=b.to;refine{?_,k _ _ (GQ u.2.1) b.ti,{ta,tb,k _ _ (GQ u.2.2.1) C},E.keep _ _ _ b.s1 λl g f c=>k l f ?_ c,F.keep _ _ _ b.s2 λl g f c=>k l f ?_ c,b.len,P,λj v n=>?_}
  .rcases b.zip with⟨K,o⟩|⟨a,r,q,o,B,Q,D⟩
   .exact .inl {K,k _ _ (GQ u.1) o}
   .exact .inr {a,r,q,k _ _ (GQ u.1) o,k _ _ Q B,Q,D}
  .rcases g with rfl|rfl
   .exact GQ u.2.2.2.1
   .exact GQ u.2.2.2.2.2.1
  .rcases g with rfl|rfl
   .exact GQ u.2.2.2.2.1
   .exact GQ u.2.2.2.2.2.2
  .obtain⟨a,x,y,L,M,N,O,H,D⟩:=b.out j v n;exact{a,x,y,L,M,N,k _ _ H O,H,D}
end
theorem VO:typeLookup (.type "zip") "__len__"=pure Gp:=by rw[FR,Lz];kernel_rfl
theorem PX:typeLookup (.type "zip") "__length_hint__"=pure Gp:=by rw[FR,Lz];kernel_rfl
section
variable{prog:Gn}{w:Ti}{A:DW}{E:Gh->Gw->Prop}{s:Gw}
theorem YG{z:Ge}{Q:Bool->Gw->Prop}(a:s.TypeIs ↑z "zip")(h:Q Gk s):wpAny (TV prog w) A (EO ↑z) Q E s:=by unfold EO;refine Gb (Sf a VO ?_);show wpAny _ A (specialOf (Tq z) (Ev "__length_hint__")>>=_) _ _ _;refine Gb (Sf a PX ?_);exact Gj h
noncomputable abbrev n8(h:Heap)(l1:Ge):Heap:=h.push {cls:=.type "tuple_iterator",data:=.fields #[↑l1,.int 0 0]}
noncomputable abbrev om(h:Heap)(l1 l2:Ge):Heap:=(n8 h l1).push {cls:=.type "tuple_iterator",data:=.fields #[↑l2,.int 0 0]}
noncomputable abbrev oq(h:Heap)(l1 l2:Ge):Heap:=(om h l1 l2).push {cls:=.type "tuple",data:=.seq #[↑h.objs.size,.ref (n8 h l1).objs.size]}
noncomputable abbrev nM(h:Heap)(l1 l2:Ge):Heap:=(oq h l1 l2).push {cls:=.type "tuple",data:=.seq #[.none,.none]}
noncomputable abbrev jO(h:Heap)(l1 l2:Ge):Heap:=(nM h l1 l2).push {cls:=.type "zip",data:=.fields #[.none,.bool Gx,.bool Gx,.ref (om h l1 l2).objs.size,.ref (oq h l1 l2).objs.size]}
theorem P7(a b:Ge)(n o:Array Gh):
  Meets (Builtin.«zip.__new__» {[.type "zip",↑a,↑b],[]}) (λ_ R s=>s.heap.IsTuple a n/\s.heap.IsTuple b o/\
   R (.ok (.ret (.ref (nM s.heap a b).objs.size))) {s with heap:=jO s.heap a b}):=
 .of_wp λl w A R s h=>by
  have(j,g,d,m,os):=s;have(f,i,h):=h;have k:=sub_zip;have c:Hn (ME ⟨j,g,d,m,os⟩) a n:=f;have e:Hn (ME {j.push {cls:=.type "tuple_iterator",data:=.fields #[↑a,.int 0 0]},g,d,m,os}) b o:=I7 i _;wp_walk using Mb c,Mb e
  exact{0,h}
theorem PN{a b:Ge}{q:Array Gh}(f:s.heap.IsTuple a xs)(g:s.heap.IsTuple b q)
  (h:∀d,Fe d (s.heap.objs.size+4) (s.heap.objs.size+2) (s.heap.objs.size+3) .none->E7 d (s.heap.objs.size+2) ↑s.heap.objs.size (.ref (s.heap.objs.size+1))->
   E7 d (s.heap.objs.size+3) .none .none->d.IsTupleIter s.heap.objs.size a 0->d.IsTupleIter (s.heap.objs.size+1) b 0->d.objs.size=s.heap.objs.size+5->
   (∀c o,s.heap.get? c/o->d.get? c/o)->Q (.ref (s.heap.objs.size+4)) {s with heap:=d}):
  wpAny (TV prog w) A (call (.type "zip") [↑a,↑b]) Q E s:=by
 refine Ho F.called_zip (by decide) (F.typeCall_zip_2 _ _) (F.newCall_zip_2 _ _) (λd=>F.args_object_init_3 d _ _) F.entry_zip_new
  (P7 a b xs q) {f,g,?_}
 have i:(n8 s.heap a).objs.size=s.heap.objs.size+1:=Ef ..;have j:(om s.heap a b).objs.size=s.heap.objs.size+2:=by rw[Ef,i]
 have k:(oq s.heap a b).objs.size=s.heap.objs.size+3:=by rw[Ef,j]
 have l:(nM s.heap a b).objs.size=s.heap.objs.size+4:=by rw[Ef,k]
 have t:(jO s.heap a b).objs.size=s.heap.objs.size+5:=by rw[Ef,l]
 have e:(jO s.heap a b).get? (nM s.heap a b).objs.size/_:=Tc _ rfl;have p:(jO s.heap a b).get? (oq s.heap a b).objs.size/_:=Gm _ (Tc _ Xb);have n:(jO s.heap a b).get? (om s.heap a b).objs.size/_:=Gm _ (Gm _ (Tc _ Xb));have m:(jO s.heap a b).get? (n8 s.heap a).objs.size/_:=Gm _ (Gm _ (Gm _ (Tc _ Xb)));have r:(jO s.heap a b).get? s.heap.objs.size/_:=Gm _ (Gm _ (Gm _ (Gm _ (Tc _ Xb))));show _/\_;rw[j,k,l]at e;rw[i,j]at n;rw[k]at p;rw[i]at m;rw[l];exact{{_,e,1},h _ e n p {_,r,11} {_,m,11} t λc o x=>Gm _ (Gm _ (Gm _ (Gm _ (Gm _ x))))}
theorem xY{H I:Nat->Heap->Prop}{N O:Ge}{l:Array Gh}{n0:Nat}(V:A.handled=Gp)(B:iB prog w n0 N xs H)(C:iB prog w (n0+1) O l I)(J:N<n0)(K:O<n0)(a:s.heap.objs.size=n0+5)
  (Z:Fe s.heap (n0+4) (n0+2) (n0+3) .none)(m:E7 s.heap (n0+2) ↑n0 (.ref (n0+1)))(n:E7 s.heap (n0+3) .none .none)(r:H 0 s.heap)(t:I 0 s.heap)(Y:min xs.size l.size<=TF)
  (U:∀g u d c,(∀b o,b<n0->s.heap.get? b/o->g.get? b/o)->g.get? (n0+5)=Ga {cls:=.type "list",dict:=Gp,data:=.seq d c,slots:=#[]}->d.size=min xs.size l.size->
   (∀(j:Nat)v,d.toList[j]?/v->∃c x y,v=.ref c/\xs[j]?/x/\l[j]?/y/\E7 g c x y/\c≠n0+5/\n0<=c)->Q (.ref (n0+5)) {s with heap:=g,toks:=u}):
  wpAny (TV prog w) A (call (.type "list") [.ref (n0+4)]) Q E s:=by
 have D:=Ck (n:=n0) J K;have G:=Qz8 (A:=A.in1.in1) (S:=s.heap.objs.size) V D B C {by rw[a];exact DC (EZ _),by rw[a];exact DC (by show n0+2<n0+5;exact SV (by decide) _),by rw[a];exact DC (by show n0+3<n0+5;exact SV (by decide) _),by rw[a];exact DC (MZ (by decide)),by rw[a];exact DC (by show n0+1<n0+5;exact SV (by decide) _),by rw[a];exact DC (TZ J (DM _ _)),by rw[a];exact DC (TZ K (DM _ _))};refine A1 (T:="zip") (hb:=Gk) G (λb hb=>?_) (by rw[a];exact EZ _) Y (λz f q=>{.inl {1,f _ _ Z},f _ _ m,{2,f _ _ n},B.keep _ _ _ r λb _ o e=>f b o e,C.keep _ _ _ t λb _ o e=>f b o e,1,q,λj v p=>by simp at p}) (λh d i=>i.type) (by decide) (by decide) (λA E h Q i k=>?_) (λA E h Q i k=>YG i.type k) (λg u d c W L X M=>?_)
 .simp only[Td,Ek,LW]at hb;rw[a];rcases hb with h|h|h|h<;>rw[h]
  .exact EZ _
  .exact SV (by decide) _
  .exact MZ (by decide)
  .exact SV (by decide) _
 .rcases i.zip with⟨_,e⟩|⟨c,f,q,e,_⟩
  .exact M1 e k
  .refine MA (s:={s with heap:=h}) {_,e,1} F.slot_zip_iter (Dy F.slot_zip_iter {_,e,1} F.entry_zip_iter ?_ (F.args_zip_iter_1 _));show wpAny _ _ (ret (.ref (n0+4))) _ _ _;exact Gj {0,"zip",_,{_,e,1},F.slot_zip_next.lookup,k}
 .rw[a]at L M⊢;refine U g u d c (λb o hb e=>W b o (λz=>?_) e) L X λj v p=>?_
  .simp only[Td,Ek,LW]at z;rcases z with h|h|h|h<;>rw[h]at hb
   .exact absurd hb (RI.mpr (DM _ _))
   .exact absurd hb (RI.mpr (DM _ _))
   .exact absurd hb (ER _)
   .exact absurd hb (RI.mpr (DM _ _))
  .obtain⟨c,x,y,f,q,P,R,S,T⟩:=M j v p;exact{c,x,y,f,q,P,R,S,FU (Sn (DM _ _) T)}
end
end PySem
namespace L2
open PySem PySem.Spec PyProof.Rows
theorem zx.Pj{X:Cx}{a:List (Ge×Lc)}{l:List (Option V)}{H f:Hp}{s:Gw}{h:Heap}{m:Nat}(I:zx X a l H s)(k:∀b u,s.heap.get? b/u->h.get? b/u)(d:∀b,b<s.heap.objs.size->f b=H b)
  (i:∀b o,s.heap.objs.size<=b->f b/o->Yr X.prog X.w f h b o):zx X a l f {s with heap:=h,toks:=m}:=by
 have g:∀b o,H b/o->f b/o:=λb o e=>by rw[d b (I.Yc b o e).lt];exact e
 refine I.un {λb u q _ _ _=>k b u q,λb u q _ _ _=>{u.slots,k b u q},λb u q n _=>by rw[d b (Tn q)];exact n,λb u q _=>{u,k b u q},λb p e=>g b _ e,λb o u e=>g b _ e,λb r e=>{#[],by rw[g b _ e];simp}} λb o e=>?_;by_cases j:b<s.heap.objs.size
 .rw[d b j]at e;exact(I.Yc b o e).jE (λc u _ q=>k c u q) (λc q=>g c _ q) λc p q=>g c _ q
 .exact i b o (Bp j) e
def mQ(H:Hp)(v:V)(p:V×V):Prop:=∃c,v=.ref c/\H c/.tup [p.1,p.2]
def VD(K:Gd):List V->Hp->VK->Prop:=λa H Q=>∃p q xs ys,a=[↑p,↑q]/\((Vh K H p xs/\Vh K H q ys)\/(hB K H p xs/\hB K H q ys))/\
 ∀(r:Ge)(es:List V)(H':Hp),Q5 H H'->H r=Gp->H' r/.lst es->Dm (mQ H') es (xs.zip ys)->Q ↑r H'
open Classical in
noncomputable def ja(H:Hp)(r:Ge)(es:List V)(xs ys:List V):Hp:=λb=>if b=r then Ga (.lst es)else if h:∃p:V×V,∃j:Nat,es[j]?/↑b/\xs[j]?/p.1/\ys[j]?/p.2 then Ga (.tup [(Ft h).1,(Ft h).2])else H b
section
variable{X:Cx}{zq:List (Ge×Lc)}{σ:St}{H:Hp}{s:Gw}
theorem zS{E:Heap}{tk c:Nat}{g:Nat}{e:Array Gh}{l m:List V}{us ws:List Gh}(T:zx X zq σ H s)(I:s.heap.objs.size=g)(rx:Yh l us)(ry:Yh m ws)(hk:∀a D,a<g->s.heap.get? a/D->E.get? a/D)
  (hS:E.get? (g+5)=Ga {cls:=.type "list",dict:=Gp,data:=.seq e c,slots:=#[]})(C:e.size=min ⇑us ⇑ws)(q:⇑l<=TF)
  (Y:∀(j:Nat)v,e.toList[j]?/v->∃c x y,v=.ref c/\us[j]?/x/\ws[j]?/y/\E7 E c x y/\c≠g+5/\g<=c):
  ∃d J,zx X zq σ J {s with heap:=E,toks:=tk}/\Q5 H J/\H (g+5)=Gp/\J (g+5)/.lst d/\Dm (mQ J) d (l.zip m):=by
 have lx:=⇑rx;have ly:=⇑ry;have ex:∀j:Nat,j<e.size->∃c,e.toList[j]?/Tq c:=λj z=>by
  have b:e.toList[j]?/e[j]:=by rw[Em,Dg z]
  have(c,x,y,f,_):=Y j _ b;exact{c,by rw[b,f]}
 let d:List V:=(So e.size).map λj=>match e.toList[j]? with|some (Tq c)=>V.ref c|_=>V.non
 have U:∀(j:Nat)c,e.toList[j]?/Tq c->d[j]?/V.ref c:=λj c b=>by
  have z:j<e.size:=by rw[<-DI];exact(Gg.mp b).1
  show((So e.size).map _)[j]?=_;rw[Ta,List.getElem?_range z,Eh];simp only[b]
 have ad:∀(j:Nat)a,d[j]?/V.ref a->e.toList[j]?/Tq a:=λj a b=>by
  have z:j<e.size:=by have:=(Gg.mp b).1;simpa[d]using this
  have(c,K):=ex j z;rw[U j c K]at b;cases b;exact K
 have W:⇑d=e.size:=by simp[d]
 have lz:e.size=⇑(l.zip m):=by rw[L8,C,lx,ly]
 have L:∀a(p:V×V)(j:Nat),d[j]?/↑a->l[j]?/p.1->m[j]?/p.2->∃u v,zv p.1 u/\zv p.2 v/\E7 E a u v/\a≠g+5/\g<=a:=λa p j f k r=>by have(c,x,y,B,M,N,O,P,Q):=Y j _ (ad j a f);cases B;have(u,q,R):=rx.get k;have(v,A,S):=ry.get r;rw[M]at q;cases q;rw[N]at A;cases A;exact⟨x,y,R,S,O,P,Q⟩
 have aa:∀a(p:V×V)(j:Nat),d[j]?/↑a->l[j]?/p.1->m[j]?/p.2->ja H (g+5) d l m a/.tup [p.1,p.2]:=λa p j f k r=>by have(u,v,r1,r2,n,o,_):=L a p j f k r;have B:∃p:V×V,∃j:Nat,d[j]?/↑a/\l[j]?/p.1/\m[j]?/p.2:=⟨p,j,f,k,r⟩;unfold ja;rw[Gu o,dif_pos B];have(Q,M,N,O):=Nv B;have(u',v',R,S,P,_):=L a (Ft B) Q M N O;have:({cls:=.type "tuple",data:=.seq #[u,v]}:Lc)={cls:=.type "tuple",data:=.seq #[u',v']}:=T1 (n.symm.trans P);injection this with _ _ q;injection q with q;injection q with q;injection q with F w;injection w with w;subst F w;rw[r1.inj R,r2.inj S]
 have ab:∀a,a<g->ja H (g+5) d l m a=H a:=λa o=>by unfold ja;rw[Gu (T9 (TZ o (DM _ _))),dif_neg];rintro⟨p,j,f,k,r⟩;have(_,_,_,_,_,_,q):=L a p j f k r;exact absurd o (RI.mpr q)
 have ac:∀a,g<=a->H a=Gp:=λa o=>T.Yc.fresh (by rw[I];exact o);exists d,ja H (g+5) d l m,?_,λa D b=>?_,ac _ (DM _ _),(by unfold ja;rw[GY rfl])
 .refine T.Pj (λa u b=>hk a u (by rw[<-I];exact Tn b) b) (λa o=>ab a (by rw[<-I];exact o)) λa D o b=>?_;by_cases F:a=g+5
  .subst F;have:D=.lst d:=by unfold ja at b;rw[GY rfl]at b;exact(T1 b).symm
   subst this;refine{by rw[W,lz,L8];lia,e.toList,c,?_,by rw[SH];exact hS};have all:∀(h:List Gh)(i:List V),⇑h=⇑i->(∀j:Nat,∀v,h[j]?/v->∃c,v=.ref c/\i[j]?/V.ref c)->Yh i h:=by
    intro h;induction h with
    |nil=>intro i q _;cases i with
     |nil=>exact .nil
     |cons _ _=>simp at q
    |cons v h Z=>intro i q G;cases i with
     |nil=>simp at q
     |cons x i=>have(t,f,k):=G 0 v rfl;simp at k;subst f k;exact .cons rfl (Z i (by simpa using q) λj v A=>by have:=G (j+1) v (by simpa using A);simpa using this)
   refine all e.toList d (by rw[W,DI]) λj v A=>?_;have(t,x,y,f,_):=Y j v A;subst f;exact{t,1,U j t A}
  .by_cases w:∃p:V×V,∃j:Nat,d[j]?/↑a/\l[j]?/p.1/\m[j]?/p.2
   .obtain⟨p,j,f,k,r⟩:=w;rw[aa a p j f k r]at b;cases b;have(u,v,r1,r2,n,_):=L a p j f k r;exact{Yz,[u,v],.cons r1 (.cons r2 .nil),_,n,10}
   .exfalso;unfold ja at b;rw[Gu F,dif_neg w,ac a (by rw[<-I];exact o)]at b;cases b
 .rw[ab a (by rw[<-I];exact(T.Yc a D b).lt)];exact b
 .have all:∀(i:List V)(h:List (V×V)),⇑i=⇑h->(∀(j:Nat)p,h[j]?/p->∃v,i[j]?/v/\mQ (ja H (g+5) d l m) v p)->Dm (mQ (ja H (g+5) d l m)) i h:=by
   intro i;induction i with
   |nil=>intro h C _;cases h with
    |nil=>exact .nil
    |cons _ _=>simp at C
   |cons v i Z=>intro h C G;cases h with
    |nil=>simp at C
    |cons p h=>have(v',f,k):=G 0 p rfl;simp at f;subst f;exact .cons k (Z h (by simpa using C) λj p n=>by have:=G (j+1) p (by simpa using n);simpa using this)
  refine all d (l.zip m) (by rw[W,lz]) λj p n=>?_;rw[LM]at n;have z:j<e.size:=by have F:=(Gg.mp n.1).1;have w:=(Gg.mp n.2).1;rw[lz,L8];lia
  have(t,K):=ex j z;have:=U j t K;exact{↑t,this,t,1,aa t p j this n.1 n.2}
end
section
variable{X:Cx}{a b:Ea}{ta:TA}{p1 p2 pos1 pos2:MQ}
theorem wF(hc:X.calm=Gk)(ad:Gl X "list")(af:X.mg "list"=Gp)(ae:Gl X "zip")(ag:X.mg "zip"=Gp)(ha:PA X [a,b] ta)
  (S:T8 [JQ (.Name "zip" p2) [a,b] [] pos2] X.env=(Gx,eval (.Call (.Name "zip" p2) [a,b] [] pos2) X.env)::T8 [] X.env:=by rfl)(ac:T8 [a,b] X.env=(Gx,eval a X.env)::T8 [b] X.env:=by rfl)
  (ah:(Se pos1 (T8 ([]:List Ea) X.env)).any (·.1)=Gx:=by rfl)(ai:(Se pos2 (T8 [b] X.env)).any (·.1)=Gx:=by rfl):
  PE X (.Call (.Name "list" p1) [.Call (.Name "zip" p2) [a,b] [] pos2] [] pos1) (tCB (VD X.K) ta):=by
 intro al s am W an t aa;refine Et (Uk t ad af boot_list ?_);refine callWith_type1 ?_ S ah;rw[S];show wpAny _ _ (spliced ((Gx,eval (.Call (.Name "zip" p2) [a,b] [] pos2) X.env)::Se pos1 (T8 ([]:List Ea) X.env))) _ _ s;refine Mf ?_;refine Et (Uk t ae ag boot_zip ?_);refine callWith_type1 (Xf (ha pos2 al s am W _ t aa) λR e zz=>?_) ac ai;have(vs,H1,h,r1,q1):=zz;have(p,q,xs,ys,rfl,hq,U):=q1;have(u,o,rfl,ru,rv):=vals2 r1;cases(show u=Tq p from ru);cases(show o=Tq q from rv);have T:=h.ok.hd hc;rcases hq with⟨z,A⟩|⟨z,A⟩
 .obtain⟨R,n,f,aj⟩:=h.list z;have(V,Q,g,ak):=h.list A;have l:p<e.heap.objs.size:=by have(_,c,_):=f.isList;exact Tn c
  have m:q<e.heap.objs.size:=by have(_,c,_):=g.isList;exact Tn c
  have lx:=⇑n;refine call_zip_2 f.isList g.isList λy P C D F G N i=>Fi ?_;refine xY (s:={e with heap:=y}) (n0:=e.heap.objs.size) T (vy (T9 l)) (vy (T9 (TZ m (DM _ _)))) l m N P C D {F,Heap.IsList.at f.isList (λd c=>i _ d c)} {G,Heap.IsList.at g.isList (λd c=>i _ d c)} (by rw[Ts,Ts];lia) λab tk Y Z H B I K=>?_;have(w,k,v,x,J,M,L):=zS (tk:=tk) h rfl n Q (λb d E c=>H b d E (i b d c)) B (by simpa using I) (by lia) (λj o O=>by simpa using K j o O);exact{.ref (e.heap.objs.size+5),k,v,1,U _ w k x J M L}
 .obtain⟨R,n,f,aj⟩:=h.tuple z;have(V,Q,g,ak):=h.tuple A;have f:e.heap.IsTuple p R.toArray:=f;have g:e.heap.IsTuple q V.toArray:=g;have l:p<e.heap.objs.size:=by have(_,c,_):=f;exact Tn c
  have m:q<e.heap.objs.size:=by have(_,c,_):=g;exact Tn c
  have lx:=⇑n;refine PN f g λy P C D F G N i=>Fi ?_;refine xY (s:={e with heap:=y}) (n0:=e.heap.objs.size) T (yh (T9 l)) (yh (T9 (TZ m (DM _ _)))) l m N P C D {F,let⟨d,c,r⟩:=f;{d,i _ d c,r}} {G,let⟨d,c,r⟩:=g;{d,i _ d c,r}} (by rw[Ts,Ts];lia) λab tk Y Z H B I K=>?_;have(w,k,v,x,J,M,L):=zS (tk:=tk) h rfl n Q (λb d E c=>H b d E (i b d c)) B (by simpa using I) (by lia) (λj o O=>by simpa using K j o O);exact{.ref (e.heap.objs.size+5),k,v,1,U _ w k x J M L}
end
end L2
namespace PySem
theorem OC:typeLookup (.type "list_reverseiterator") "__len__"=pure Gp:=by rw[FR,Lz];kernel_rfl
theorem OT:typeLookup (.type "list_reverseiterator") "__length_hint__"=pure (Ga (.builtin "list_reverseiterator.__length_hint__")):=by rw[FR,Lz];kernel_rfl
section
variable{prog:Gn}{w:Ti}{A:DW}{E:Gh->Gw->Prop}{s:Gw}
theorem Qx8{z:Ge}{Q:Bool->Gw->Prop}(b:s.TypeIs ↑z "list_reverseiterator")(h:Q Gx s):wpAny (TV prog w) A (EO ↑z) Q E s:=by
 unfold EO;refine Gb (Sf b OC ?_);show wpAny _ A (specialOf (Tq z) (Ev "__length_hint__")>>=_) _ _ _;refine Gb (Sf b OT ?_);generalize hid:("list_reverseiterator.__length_hint__":String)=c
 wp_delta
 rw[show splitId c/("list_reverseiterator","__length_hint__")from by subst hid;decide+kernel];subst hid;refine Gb (S0 (T:="list_reverseiterator") (b:=Gk) b (by rw[isSubtype_type];kernel_rfl) ?_);refine FP (λa=>absurd a (by decide)) (λ_=>?_);refine FP (λ_=>?_) (λa=>absurd (by decide+kernel) a);refine FP (λa=>absurd a (by decide+kernel)) (λ_=>?_);exact Gj h
structure Q9g(xs:Array Gh)(it l S:Ge)(i:Nat)(h:Heap)(acc:List Gh):Prop where
 rv:h.IsRevIter it l ((xs.size:Int) - 1 - (i:Int))
 ls:h.IsList l xs
 acc:acc=xs.toList.reverse.take i
theorem PV{xs:Array Gh}{f l S:Ge}(v:A.handled=Gp)(q:S≠f/\S≠l)(n:l≠f):nk prog w A f S [f] xs.size (Q9g xs f l S) (λ_ d=>d=xs.toList.reverse):=by
 refine{λi s d Q E hi c j=>?_,λs d Q E c j=>?_,λi h g d c k _=>?_}
 .have r:xs[xs.size - 1 - i]?/xs[xs.size - 1 - i]:=Dg ∅;have e:(xs.size:Int) - 1 - (i:Int)=((xs.size - 1 - i:Nat):Int):=by ext
  have a:=c.rv;rw[e]at a;refine Nw a c.ls r λg p t=>?_;have x:xs.toList.reverse[i]?/xs[xs.size - 1 - i]:=by rw[EY (by rw[DI];exact hi),DI,Em];exact r
  refine j _ g s.toks {?_,c.ls.extBut t.extBut n,?_} λb o m e=>t.extBut b o (λz=>m (by simp[z])) e
  .have u:((xs.size - 1 - i:Nat):Int) - 1=(xs.size:Int) - 1 - ((i+1:Nat):Int):=by ext
   rw[<-u];exact p
  .rw[c.acc,Tt,x];rfl
 .have a:=c.rv;rw[show(xs.size:Int) - 1 - (xs.size:Int)= -1 by ext]at a;refine NI v a λg p=>j g s.toks ?_ λb o m e=>p b o (λz=>m (by simp[z])) e;rw[c.acc,<-DI,<-SW,Tu]
 .exact{c.rv.at λo e=>k f o (GQ q.1) e,c.ls.at λo e=>k l o (GQ q.2) e,c.acc}
end
end PySem
namespace L2
open PySem PySem.Spec PyProof.Rows
def PY(K:Gd):List V->Hp->VK->Prop:=λa H Q=>∃p xs,a=[↑p]/\Vh K H p xs/\∀r,H r=Gp->Q ↑r (zj H r (.lst xs.reverse))
theorem WT{b:List V}{a:List Gh}(h:Yh b a):Yh b.reverse a.reverse:=by
 induction h with
 |nil=>exact .nil
 |cons h _ c=>rw[LA,LA];exact c.append (.cons h .nil)
theorem YH{X:Cx}{a:Ea}{T:TA}{p1 x k g:MQ}(n:X.calm=Gk)(G:Gl X "list")(K:X.mg "list"=Gp)(J:Gl X "reversed")(L:X.mg "reversed"=Gp)(Z:PA X [a] T)
  (p:T8 [JQ (.Name "reversed" x) [a] [] g] X.env=(Gx,eval (.Call (.Name "reversed" x) [a] [] g) X.env)::T8 [] X.env:=by rfl)(F:T8 [a] X.env=(Gx,eval a X.env)::T8 [] X.env:=by rfl)
  (M:(Se k (T8 ([]:List Ea) X.env)).any (·.1)=Gx:=by rfl)(N:(Se g (T8 ([]:List Ea) X.env)).any (·.1)=Gx:=by rfl):
  PE X (.Call (.Name "list" p1) [.Call (.Name "reversed" x) [a] [] g] [] k) (tCB (PY X.K) T):=by
 intro l s V H Q I h;refine Et (Uk I G K boot_list ?_);refine callWith_type1 ?_ p M;rw[p];show wpAny _ _ (spliced ((Gx,eval (.Call (.Name "reversed" x) [a] [] g) X.env)::Se k (T8 ([]:List Ea) X.env))) _ _ s;refine Mf ?_;refine Et (Uk I J L CQ ?_);refine callWith_type1 (Xf (Z g l s V H _ I h) λus f zz=>?_) F N;have(vs,W,w,r1,q1):=zz;have(b,xs,rfl,t,q):=q1;have(u,rfl,ru):=vals1 r1;cases(show u=Tq b from ru);have(d,S,O,hz):=w.list t;have hl:=⇑S;have P:b<f.heap.objs.size:=by have(_,e,_):=O.isList;exact Tn e
 refine RF O.isList (Fi ?_);have j:(f.heap.push (revObj b ((d.toArray.size:Int) - 1))).objs.size=f.heap.objs.size+1:=Ef ..;have C:(f.heap.push (revObj b ((d.toArray.size:Int) - 1))).objs.size≠f.heap.objs.size:=by rw[j];exact Bt _
 have D:(f.heap.push (revObj b ((d.toArray.size:Int) - 1))).objs.size≠b:=by rw[j];exact DC (Bc P)
 refine A1 (s:={f with heap:=f.heap.push (revObj b ((d.toArray.size:Int) - 1))}) (T:="list_reverseiterator") (hb:=Gx) (PV (xs:=d.toArray) (l:=b) (w.ok.hd n) ⟨C,D⟩ (T9 P)) (λc n=>?_) (by show f.heap.objs.size<(f.heap.push _).objs.size;rw[j];exact EZ _) (by rw[Ts];lia)
  (λh2 R _=>{?_,O.isList.at λo e=>R _ o (Gm _ e),by simp}) (λh m v=>let⟨o,r,n,_⟩:=v.rv;⟨o,r,n⟩) (by decide) (by decide) (λA E h Q v t=>FF (s:={f with heap:=h}) v.rv t) (λA E h Q v t=>Qx8 (s:={f with heap:=h}) (let⟨o,r,n,_⟩:=v.rv;⟨o,r,n⟩) t) (λy U m c hk B aa r=>?_)
 .have e:c=f.heap.objs.size:=by simpa using n
  rw[e];show f.heap.objs.size<(f.heap.push _).objs.size;rw[j];exact EZ _
 .have i:(d.toArray.size:Int) - 1 - ((0:Nat):Int)=(d.toArray.size:Int) - 1:=by lia
  rw[i];exact{_,R _ _ (Tc _ Xb),11}
 .have B:y.get? (f.heap.push (revObj b ((d.toArray.size:Int) - 1))).objs.size=Ga {cls:=.type "list",dict:=Gp,data:=.seq m c,slots:=#[]}:=B;have i:f.heap.objs.size<=(f.heap.push (revObj b ((d.toArray.size:Int) - 1))).objs.size:=by rw[j];exact Fd _
  have Y:zx X l V (zj W (f.heap.push (revObj b ((d.toArray.size:Int) - 1))).objs.size (.lst xs.reverse)) {f with heap:=y,toks:=U}:=
   w.laid (t':=U) (λc o e=>hk c o (λz=>by
    have:c=f.heap.objs.size:=by simpa using z
    exact absurd (Tn e) (by rw[this];exact ER _)) (Gm _ e)) i
    (show Yr X.prog X.w _ y _ (.lst _)from{by rw[SW];lia,m.toList,c,by rw[r];exact WT S,by rw[SH];exact B})
  exact{.ref (f.heap.push (revObj b ((d.toArray.size:Int) - 1))).objs.size,_,Y,1,q _ (w.Yc.fresh i)}
end L2
namespace Nt
inductive jX:Nat->List (Nat×Nat)->Nat->Prop
 |nil (p:Nat):jX p [] p
 |cons {p q z:Nat} {r:List (Nat×Nat)}:jX q r z->jX p ((p,q)::r) z
theorem Qt8{l:List Nat}{p z:Nat}(b:l.head?/p)(a:l.getLast?/z):jX p (l.zip (l.drop 1)) z:=by
 induction l generalizing p with
 |nil=>cases b
 |cons x r c=>
  cases b;cases r with
  |nil=>cases a;exact .nil _
  |cons y r=>exact .cons (c rfl (by rw[List.getLast?_cons_cons]at a;exact a))
theorem Ch.last{up:Nat->Option Nat}{p:Nat}{l:List Nat}(h:Ch up p l):∃a,l=a++[Ye l]:=by have b:=h.ne;exists l.dropLast;unfold Ye;rw[LL,EF b];exact(Ls b).symm
inductive ir(up:Nat->Option Nat)(one other:Nat)(st:List (Nat×Nat)):Prop
 |mk (l1:List Nat) (l2:List Nat) (P:List Nat) (Q:List Nat) (s:List Nat) (m:Nat) (h0:Ch up one l1) (h1:Ch up other l2) (h2:l1=P++m::s) (h3:l2=Q++m::s) (h4:(P=[]\/Q=[]\/P.getLast?≠Q.getLast?)) (h5:st=(P++m::Q.reverse).zip ((P++m::Q.reverse).drop 1)):ir up one other st
theorem z9{P d s c:List Nat}{m g:Nat}(h:P++m::s=d++g::c)(f:⇑s<⇑c):∃u,P=d++g::u/\c=u++m::s:=by
 rcases List.append_eq_append_iff.mp h with⟨a,e,b⟩|⟨a,e,b⟩
 .have:=congrArg Sk b;simp at this;cases a with
  |nil=>simp at b;rw[b.2]at f;ext
  |cons y a=>simp at this;ext
 .cases a with
  |nil=>simp at b;rw[b.2]at f;ext
  |cons y a=>simp only[D9,DP]at b;exact{a,by rw[e,b.1],b.2}
theorem ir.uniq{up:Nat->Option Nat}{h c:Nat}{C i:List (Nat×Nat)}(a:ir up h c C)(b:ir up h c i):C=i:=by
 have(S,T,P,Q,s,m,E,F,G,H,t,rfl):=a;have(I,J,j,k,d,g,l,n,o,p,w,rfl):=b;have M:=E.uniq l;have N:=F.uniq n;subst M N;have q:P++m::s=j++g::d:=by rw[<-G,o]
 have r:Q++m::s=k++g::d:=by rw[<-H,p]
 have e:∀{P Q j k s d:List Nat}{m g:Nat},P++m::s=j++g::d->Q++m::s=k++g::d->(P=[]\/Q=[]\/P.getLast?≠Q.getLast?)->¬⇑s<⇑d:=λx y t f=>by
  have(u,A,K):=z9 x f;have(v,B,L):=z9 y f;have:u=v:=by have:=K.symm.trans L;exact MJ this
  subst this;rcases t with z|z|z
  .rw[A]at z;simp at z
  .rw[B]at z;simp at z
  .rw[A,B,SI,SI,EF (List.cons_ne_nil _ _)]at z;exact z rfl
 have f:⇑s=⇑d:=by have x:=e q r t;have y:=e q.symm r.symm w;lia
 have(O,D):=Bu q (by simp[f]);have(R,_):=Bu r (by simp[f]);simp only[DP]at D;rw[O,R,D.1]
structure Way(x:ic W ρ)(one other:Nat)(st:List (Nat×Nat)):Prop where
 path:jX one st other
 lk:∀p q,(p,q)∈st->∃k,x.Xs p q/k/\∀n,Cn (x.zm.take n) one other->k<n
 len:⇑st<=2*⇑x.S
 rel:ir x.up one other st
end Nt
namespace K04
open PySem L2 Sb Nt
def nB(H:Hp)(v:V)(p:Nat×Nat):Prop:=∃c,v=.ref c/\H c/.tup [jv p.1,jv p.2]
inductive zR(P:Gn)(w:Ti)(C:Ge)(vs:List V)(H:Hp)(Q:VK):Prop
 |mk (n:Ge) (A:Na) (fs:List Fm) (tb:Nat) (x:Nn) (one:Nat) (other:Nat) (h0:vs=[↑n,jv one,jv other]) (h1:Yk P w C H n A fs tb x) (h2:Wy (Yu fs) (Zx fs) x []) (h3:one∈x.S) (h4:other∈x.S) (h5:x.zu one=x.zu other) (h6:⇑x.S<=1000) (h7:∀(r:Ge)(es:List V)(st:List (Nat×Nat))(H':Hp),Q5 H H'->H r=Gp->H' r/.lst es->Dm (nB H') es st->Way x one other st->Q ↑r H'):zR P w C vs H Q
def qG(P:Gn)(w:Ti)(C:Ge):Sp:=λa H Q _=>zR P w C a H Q
theorem y6(P:List Nat)(a m:Nat):Rt ((P++[a,m]).map jv) (-2:Int)/jv a:=by
 unfold Rt ixN;rw[Gu (by decide),GY (by simp;lia)];have e:((-2:Int)+(⇑((P++[a,m]).map jv):Int)).toNat=⇑P:=by simp;lia
 rw[e];simp
theorem Q4b(Q:List Nat)(m:Nat):U8 ((Q++[m]).map jv) Gp (Ga (-1:Int))=Q.map jv:=by
 unfold U8;rw[HT.R0];have e:HT.Vf ⇑((Q++[m]).map jv) ⇑((Q++[m]).map jv) (Ga (-1:Int))=⇑Q:=by show(if(-1:Int)<0 then((-1:Int)+(⇑((Q++[m]).map jv):Int)).toNat else min (-1:Int).toNat ⇑((Q++[m]).map jv))=_;rw[GY (by decide)];simp;lia
 rw[e];simp
theorem US(l:List V):U8 l (Ga 1) Gp=l.drop 1:=by
 cases l with
 |nil=>rfl
 |cons x r=>rw[iG];rfl
theorem Kp{H:Hp}{a:List V}{l m:List Nat}(h:Dm (mQ H) a ((l.map jv).zip (m.map jv))):Dm (nB H) a (l.zip m):=by
 induction l generalizing a m with
 |nil=>cases h;exact .nil
 |cons x l b=>cases m with
  |nil=>cases h;exact .nil
  |cons y m=>cases h with
   |cons h t=>exact .cons h (b t)
theorem OO{A G g:Prop}(k:(A->G)->g)(f:A->G):g:=k f
theorem VN{c d:Type}{A G:c->d->Prop}{g:Prop}(k:(∀a b,A a b->G a b)->g)(f:∀a b,A a b->G a b):g:=k f
section
variable{P:Gn}{w:Ti}{K:Gd}{mg:TQ->Option Gh}{base:Heap}
theorem vF:Q4 ["self","one","other","climb","descent","stops"] ["self","one","other"] (Qm lK):=by eq_refl
theorem Q4p{al fU R:Ge}{fd am:Du}(F:Wc K "way" "Net.way" lK al fd)(ak:Jb K mg R)(y:Ie mg)(mU:Ym K R "way_up" fU)(GU:Qz P w K mg base Z4 1 fU am ["self","place"] (wI P w R))(bU:zk K am ["self","place"] []):
  Qz P w K mg base Z4 2 al fd ["self","one","other"] (qG P w R):=by
 refine F.ok vF (λu W g e H=>?_) (λv A E s W u g e f H=>?_)
 .obtain⟨n,A,Y,tb,x,D,r,rfl,_⟩:=H;rfl
 have(n,A,Y,tb,x,D,r,rfl,X,z,oS,tS,he,hS,q):=H;have an:Yd 1 _:=f.mono ∅;have nd:=vF.nd;show∃t,Wf ?my _ t/\_;let aB:Vr ?my lK 3:={_,Qc (Q3 5 nd (Zy Jg {3} (YH rfl rfl y.list rfl y.reversed (Qa (Yg Ub {4} Xl (Yn (Jo Vl Qj))) Qe)))) (Qg (Qu (wF rfl rfl y.list rfl y.zip (Qa {5} (Qa (Yg Ub {5} (Yn Qj) Xl) Qe)))))}
 let aC:Vr ?my lK 2:=⟨_,Qc (Ww To (PW.pt (U6 (Qo kP (Qp Zm rfl y.len Tp (Qa {3} Qe)) Qj (Qs _)) (U6 (Qo kP (Qp Zm rfl y.len Tp (Qa {4} Qe)) Qj (Qs _))
    (Ua (Qo Xy (Qn Q9 {3} (Jo Vl Qj)) (Qn Q9 {4} (Jo Vl Qj)) (Qs _)))))) (Qc (Zl (O2 Te EG EH Oz {3})) (Qg (Zl (O2 Te EG EH Oz {4}))))) aB.2⟩
 exists _,Qc (Q3 3 nd (Zk {0} ak.cl mU GU an bU .nil Q7 (Qa {1} Qe))) (Qc (Q3 4 nd (Zk {0} ak.cl mU GU an bU .nil Q7 (Qa {2} Qe))) aC.2);have(C,k):=z.fst.chain D oS;have(L,l):=z.fst.chain r tS;have aq:=z.fst.chS k oS;have ar:=z.fst.chS l tS;have aD:=X5 k.nodup aq;have aE:=X5 l.nodup ar;have(dx,o1):=X.ob;refine{0,n,dx,0,o1,ve _,0,n,A,Y,tb,x,D,C,1,X,k,aq,by ext,λj H1 T c1 e1=>?_};refine{0,n,dx,0,T _ _ o1,ve _,0,n,A,Y,tb,x,r,L,1,X.same T,l,ar,by ext,λh H2 g2 d2 e2=>?_};have ax:=T.trans g2;have aA:W h=Gp:=T.free d2;have ap:j≠h:=Qd e1 d2;have er:Ye C=Ye L:=(z.root D r C L oS tS k l).mp he;have(P0,f1):=k.last;have(Q0,f2):=l.last;dsimp only[Wt];exists λao au i=>iE λ(b a U:List Nat)(c:Nat)=>jD (ao=⇑b) (C=b++c::U) (L=a++c::U) (au=[Ga ↑n,Ga (jv D),Ga (jv r),Ga ↑j,Ga ↑h,Gp]) (Q5 W i) (i j/.lst ((b++[c]).map jv)) (i h/.lst ((a++[c]).map jv)),
  {_,P0,Q0,[],Ye C,1,f1,by rw[er];exact f2,1,ax,by rw[<-f1];exact g2 _ _ e1,by rw[er,<-f2];exact e2}
 rintro ao au i ⟨b,a,U,c,rfl,I,J,rfl,Z,B,S⟩;have lc:⇑((b++[c]).map jv)=⇑b+1:=by simp
 have ld:⇑((a++[c]).map jv)=⇑a+1:=by simp
 have lP:⇑b+1<=⇑C:=by rw[I];simp
 have lQ:⇑a+1<=⇑L:=by rw[J];simp
 have ay:(b++c::a.reverse).head?/D:=by
  have(aa,f):=k.head;rw[I]at f;cases b with
  |nil=>simp at f⊢;exact f.1
  |cons d b=>simp at f⊢;exact f.1
 have az:(b++c::a.reverse).getLast?/r:=by
  have(aa,f):=l.head;rw[J]at f;rw[SI];have:(c::a.reverse).getLast?/r:=by
   cases a with
   |nil=>simp at f⊢;exact f.1
   |cons d a=>simp at f;rw[LA,<-D9,SK,f.1]
  rw[this];rfl
 apply OO (A:=b=[]\/a=[]\/b.getLast?≠a.getLast?)
 .intro O;exists 0,j,0,.inl (Qi B),3010;rw[lc];by_cases u:b=[]
  .have m:b=[]\/a=[]\/b.getLast?≠a.getLast?:=.inl u;rw[Tj (by rw[u];decide)];refine Q6 (Q6 ?_);exact O m
  rw[Tk (by have:0<⇑b:=LN.mpr u;ext)];refine Yw {0,h,0,.inl (Qi S),3010,?_};rw[ld];by_cases v:a=[]
  .have m:b=[]\/a=[]\/b.getLast?≠a.getLast?:=.inr (.inl v);rw[Tj (by rw[v];decide)];refine Q6 (Q6 ?_);exact O m
  rw[Tk (by have:0<⇑a:=LN.mpr v;ext)];ac_nf;obtain⟨e,d,M⟩:∃e d,b=e++[d]:={b.dropLast,b.getLast u,(Ls u).symm};obtain⟨g,E,N⟩:∃g E,a=g++[E]:={a.dropLast,a.getLast v,(Ls v).symm};intros;have av:i j/.lst ((e++[d,c]).map jv):=by rw[B,M];simp
  have aw:i h/.lst ((g++[E,c]).map jv):=by rw[S,N];simp
  refine Yw {0,{0,j,201,Qi av,y6 _ _ _,0,{0,h,201,Qi aw,y6 _ _ _,10,?_}}};rw[oo];by_cases Q:d=E
  .subst Q;subst M N;rw[Tk rfl];refine Yw {_,λ_ _ H=>H,?_};have ae:((e++[d]++[c]).map jv)[⇑((e++[d]++[c]).map jv) - 1]?/jv c:=by simp
   have af:((g++[d]++[c]).map jv)[⇑((g++[d]++[c]).map jv) - 1]?/jv c:=by simp
   have ac:((e++[d]++[c]).map jv).dropLast=(e++[d]).map jv:=by rw[T3 (l₂:=[c])];simp
   have ad:((g++[d]++[c]).map jv).dropLast=(g++[d]).map jv:=by rw[T3 (l₂:=[c])];simp
   exists 0,.inl {13,Qi B},j,301,B,ae;rw[ac];have V:(zj i j (.lst ((e++[d]).map jv))) h/.lst ((g++[d]++[c]).map jv):=by rw[Qh (GQ ap)];exact S
   exists 0,.inl {13,Qi V},h,301,V,af;rw[ad];refine{⇑e,by simp,e,g,c::U,d,1,by rw[I];simp,by rw[J];simp,1,λab o G=>?_,?_,Qb}
   .rw[Qh (Qd G aA),Qh (Qd G c1)];exact Z ab o G
   .rw[Qh ap,Qb]
  .have m:b=[]\/a=[]\/b.getLast?≠a.getLast?:=.inr (.inr (by rw[M,N,SK,SK];intro G;exact Q (T1 G)));rw[Tj Q];refine Q6 ?_;exact O m
 .intro m;refine{0000,{h,0,Qi S,λM u=>?_}};rw[Q4b];have Q:=Ql (o:=.lst (_root_.List.map jv a)) B (Qd B u);refine{M,0,Qi Qb,λN v=>?_};have z2:=Ql (o:=.lst (_root_.List.map jv a).reverse) Q (Qd Q v);refine{j,N,301,z2,Qb,small (by rw[SW,Gq,Gq,Gs];simp only[TW,SE];ext),λe ai=>?_};have ag:Mq jv (b++[c])++(Mq jv a).reverse=(b++c::a.reverse).map jv:=by simp
  rw[ag];dsimp only[Wt];refine{00,{0,{e,0,Qi Qb,λg E=>?_}}};rw[US];have aj:e≠g:=Qd Qb E;have O:Q5 i (zj (zj (zj (zj i M (.lst (Mq jv a))) N (.lst (Mq jv a).reverse)) e (.lst ((b++c::a.reverse).map jv))) g (.lst (((b++c::a.reverse).map jv).drop 1))):=((Qf u _).trans (Qf v _)).trans ((Qf ai _).trans (Qf E _));refine{e,g,30,.inl {Qi (Ql Qb aj),Qi Qb},λaa es V sm r0 ah G=>?_};rw[<-CV]at G;exact q aa es _ V (Z.trans (O.trans sm)) (Z.free (O.free r0)) ah (Kp G) {Qt8 ay az,λp q' hm=>z.fst.way k l I J m p q' hm,by rw[L8,Gs,TW,SW];ext,222,k,l,I,J,m,1}
end
end K04
namespace PySem
section
variable{prog:Gn}{w:Ti}{A:DW}{E:Gh->Gw->Prop}{s:Gw}{d v:Ge}{es:Array LI}{ep:Nat}
theorem YV{Q:Gh->Gw->Prop}(f:s.heap.IsValuesView v d)(j:s.heap.I8 d es ep)
  (h:Q ↑s.heap.objs.size {s with heap:=s.heap.push {cls:=.type "dict_valueiterator",data:=.fields #[↑d,.int 0 0,.int es.size 0,.int ep 0]}}):
  wpAny (TV prog w) A (pyIter ↑v) Q E s:=by
 have(ov,e,i,c):=id f;have(o,g,k,a):=id j;refine MA f.typeIs F.slot_dict_values_iter (Dy F.slot_dict_values_iter f.typeIs F.entry_dict_values_iter ?_ (F.args_dict_values_iter_1 _));unfold Builtin.«dict_values.__iter__»;refine Gb (Gj ?_);refine Gb ?_;unfold Cm;refine Gb (Do e c (x:=↑d) rfl (Gj ?_));refine Gb ?_;unfold Bv;refine Gb (EU g a ?_);refine Gb (Lo g a ?_);have b:EL "dict_valueiterator"=Gx:=by decide
 simp -iota only [b,DQ,EN];refine DE (Gj {0,"dict_valueiterator",_,{_,Tc _ Xb,1},F.slot_dict_valueiterator_next.lookup,?_});simpa[rawInt]using h
theorem ZG{c:Ge}{i:Nat}{e:LI}{Q:Option Gh->Gw->Prop}(a:s.heap.IsValIter c d i es.size ep)(u:s.heap.I8 d es ep)(m:es[i]?/e)
  (p:∀h,h.IsValIter c d (i+1) es.size ep->Eb c s.heap h->Q (Ga e.val) {s with heap:=h}):
  wpAny (TV prog w) A (pyNext ↑c) Q E s:=by
 have(o,n,q,l):=id a;have(v,j,r,g):=id u;unfold pyNext;refine Gb (Lv (Dz (name:=Ev "__next__") a.typeIs F.slot_dict_valueiterator_next
  (Dy F.slot_dict_valueiterator_next a.typeIs F.entry_dict_valueiterator_next ?_ (F.args_dict_valueiterator_next_1 _))))
 refine Gb (Gj ?_);refine Gb ?_;refine Gb ?_;first|refine Gb (E8 a.typeIs (Gj ?_))|refine Gb (SR a.typeIs (Gj ?_))
 refine Gb (Ml n l ?_);have k:EL "dict_valueiterator"=Gx:=by decide
 simp -iota only [k,DQ,EN];show wpAny _ _ (if(Tq d==DJ)=Gk then _ else _) _ _ s;rw[Gu (show¬((Tq d==DJ)=Gk)from TH)];refine Gb (Gj ?_);refine Gb (EU j g ?_);rw[Gu ⋯];refine Gb (Gj ?_);refine Gb (Lo j g ?_);rw[Gu ⋯];refine Gj ?_;have f:i<es.size:=by
  rcases Dn i es.size with h|h
  .exact h
  .rw[Ed h]at m;cases m
 have t:es[i]=e:=by rw[Dg f]at m;exact T1 m
 simp only[show¬((i:Int)<0)from by lia,EN,EE,Dg f];refine Gb ?_;first|refine Gb (E8 a.typeIs (Gj ?_))|refine Gb (SR a.typeIs (Gj ?_))
 refine Gb (Fq a.typeIs ?_);show wpAny _ _ (setField ↑c 1 (rawInt ((i:Int)+1))>>=_) _ _ s;refine Gb (LG n l ⋯ ?_);have b:(s.heap.update c (FA (·.setIfInBounds 1 (rawInt ((i:Int)+1))))).IsValIter c d (i+1) es.size ep:=
  {_,DU _ n (Fp (Ss l _)),(MC ..).trans q,by rw[Ss l];simp -iota [rawInt]}
 refine Gb (Ej ?_);refine Gb (Fq (s:={s with heap:=s.heap.update c (FA (·.setIfInBounds 1 (rawInt ((i:Int)+1))))}) b.typeIs ?_);refine Gb (Fq (s:={s with heap:=s.heap.update c (FA (·.setIfInBounds 1 (rawInt ((i:Int)+1))))}) b.typeIs ?_);show wpAny _ _ (pure es[i].val) _ _ _;rw[t];exact Gj (Gj {0,Gj (p _ b (D0 ..))})
theorem UA{f:Ge}{i:Nat}{Q:Option Gh->Gw->Prop}(n:A.handled=Gp)(a:s.heap.IsValIter f d i es.size ep)(p:s.heap.I8 d es ep)(g:es.size<=i)
  (l:∀h,NG f s.heap h->Q Gp {s with heap:=h}):wpAny (TV prog w) A (pyNext ↑f) Q E s:=by
 have(o,k,h,j):=id a;have(q,c,m,b):=id p;unfold pyNext;refine Gb (Lv (Dz (name:=Ev "__next__") a.typeIs F.slot_dict_valueiterator_next
  (Dy F.slot_dict_valueiterator_next a.typeIs F.entry_dict_valueiterator_next ?_ (F.args_dict_valueiterator_next_1 _))))
 refine Gb (Gj ?_);refine Gb ?_;refine Gb ?_;first|refine Gb (E8 a.typeIs (Gj ?_))|refine Gb (SR a.typeIs (Gj ?_))
 refine Gb (Ml k j ?_);have e:EL "dict_valueiterator"=Gx:=by decide
 simp -iota only [e,DQ,EN];show wpAny _ _ (if(Tq d==DJ)=Gk then _ else _) _ _ s;rw[Gu (show¬((Tq d==DJ)=Gk)from TH)];refine Gb (Gj ?_);refine Gb (EU c b ?_);rw[Gu ⋯];refine Gb (Gj ?_);refine Gb (Lo c b ?_);rw[Gu ⋯];refine Gj ?_;simp only[show¬((i:Int)<0)from by ext,EN,EE,Ed g];refine Gb ?_;first|refine Gb (E8 a.typeIs (Gj ?_))|refine Gb (SR a.typeIs (Gj ?_))
 show wpAny _ _ (setField ↑f 0 .none>>=_) _ _ s;refine Gb (LG k j ⋯ ?_);show wpAny _ _ (newExc (.type "StopIteration") []>>=_) _ _ _;refine Gb ?_;simp -iota only [newExc,newTuple];refine Gb (DE ?_ (by size_fits));refine Gb (m:=firstArgMember _ _) (Bx (a:=DJ) (by first|rfl|(simp -iota only [firstArgMember];rfl)) ?_);refine DE ?_ (by size_fits);simp -iota only [raiseNew];refine Gb (NW ?_);rw[show A.in1.handled=Gp from n];refine Gb (Gj (By ?_));refine Gb (S0 (T:="StopIteration") (b:=Gk) {_,Tc _ Xb,1} Mm ?_);exact Gj (l _ (((D0 ..).extBut.push _).push _))
theorem Walks.Qz9(t:A.handled=Gp)(I d:Ge)(n:d≠I)(c:Array LI)(p:Nat):
  Walks prog w A I [I,d] [I] c.size (λi v=>∃e,c[i]?/e/\v=e.val) (λi h=>h.IsValIter I d i c.size p/\h.I8 d c p) where
 sub:=λb f=>by simp at f;simp -iota [f]
 frame:=λ_ _ _ a q=>{a.1.at λo e=>q I ⋯ o e,a.2.at λo e=>q d ⋯ o e}
 item:=λi s Q E hi a g=>by have r:c[i]?/c[i]:=Dg hi;refine ZG a.1 a.2 r λl j k=>?_;exact g _ l s.toks {_,r,1} {j,a.2.at λo e=>(k.2 d n).trans e} λb o f e=>k.extBut b o (λh=>f (by simp -iota [h])) e
 done:=λs Q E a g=>UA t a.1 a.2 (Gy _) λl m=>g l s.toks λb o f e=>m b o (λh=>f (by simp -iota [h])) e
 self:=λ_ _ _ _ a g=>wpAny_pyIter_valiter a.1 g
theorem Qxv:BS prog w "dict_values" v d es.size (λi x=>∃e,es[i]?/e/\x=e.val) (λh=>h.IsValuesView v d/\h.I8 d es ep) where
 type:=λ_ a=>a.1.typeIs
 there:=λ_ a=>{let⟨_,ho,_⟩:=a.1;Tn ho,a.2.lt}
 keep:=λ_ _ a c=>{let⟨o,ho,x⟩:=a.1;{o,c v (.inl Xb) o ho,x},a.2.at λo e=>c d (.inr Xb) o e}
 notList:=by decide
 notTuple:=by decide
 hint:=λ_ _ _ _ a b=>C6 a.1.typeIs b
 iter:=λ_ _ f a=>{2,(λ_ _ b=>YV a.1 a.2 b),Walks.Qz9 f _ d (T9 a.2.lt) es ep,{{_,Tc _ Xb,11},a.2.at λo e=>Gm _ e}}
end
end PySem
namespace L2
open PySem PySem.Spec PyProof.Rows
variable{P:Gn}{w:Ti}{H:Hp}{X:Cx}{σ:St}{a:Ge}{zw:List (Wl×V)}{tg:Ea}
def vvw(v d:Ge):HO:=.ext λh=>h.IsValuesView v d
theorem Q3s{h:Heap}{v d:Ge}(x:h.IsValuesView v d):Yr P w H h v (vvw v d):=by
 exists x,?_
 .obtain⟨o,a,_⟩:=x;exact⟨o,a⟩
 .rintro b c ⟨o,a,r⟩ k;exact{o,k o a,r}
section
variable{X:Cx}{o:Ea}{to:TE}{name:TQ}{apos cpos:MQ}{id:String}{r:V->List V->Hp->VK->Prop}
def K3(P:Gn)(w:Ti)(r:V->List V->Hp->VK->Prop)(to:TE):TE:=λσ H Q=>to σ H λx H1=>(∃d zw,x=.ref d/\H1 d/Ut P w d zw)/\r x [] H1 Q
theorem Pt(slot:Slot "dict" name id)(e:typeOf (.builtin id)=pure (.type "method_descriptor"))(m:i4 X id r)(n:PE X o to)
  (b:attributeBase o name X.env (eval o X.env)=eval o X.env:=by rfl)(c:(apos.endLine==cpos.line)=Gk:=by rfl):PE X (.Call (.Attribute o name apos) [] [] cpos) (K3 X.prog X.w r to):=by
 intro a s g H Q I h;refine MV b c (Xf (n a s g H _ I h) λv u w=>?_);have(x,i,f,t,ty,q):=w;have(d,p,rfl,j):=ty;cases(show v=Tq d from t);have(k,l):=va f j;exact{"dict",id,S9,slot,e,k,l,Lg rfl (NQ (m a u g i ↑d [] _ [] Q f rfl .nil q))}
inductive Ks(P:Gn)(w:Ti)(x:V)(vs:List V)(H:Hp)(Q:VK):Prop
 |mk (d:_) (zw:_) (h0:x=↑d) (h1:vs=[]) (h2:DH P w H d zw) (h3:∀v,H v=Gp->Q ↑v (zj H v (vvw v d))):Ks P w x vs H Q
def Q6r(P:Gn)(w:Ti):V->List V->Hp->VK->Prop:=λx a H Q=>Ks P w x a H Q
theorem KO:i4 X "dict.values" (Q6r X.prog X.w):=by intro c s y H x u v t Q I l k h;have(d,i,rfl,rfl,D,q):=h;cases(show v=Tq d from l);cases k;have(z,g,w,j,o,n,m,e,f,p,r,a):=kx I D.at_;have b:s.TypeIs ↑d "dict":={o,e,f.1};refine Dy ML b Co ?_ (BX _);refine Gb ?_;unfold HQ;refine Gb (Fo b ?_);show wpAny _ _ (pure d) _ _ s;refine Gj ?_;show wpAny _ _ (Ly d>>=_) _ _ s;unfold Ly;rw[Gu (by rw[g];exact TH)];refine Gb (Gj ?_);refine Gb (DE (Gj {0,?_}));exact{↑s.heap.objs.size,_,I.laid (a:=s.heap.objs.size) (o:=vvw s.heap.objs.size d) (t':=s.toks) (λ_ _ q=>Gm _ q) (Gy _) (Q3s {_,Tc _ Xb,11}),1,q _ (I.Yc.fresh (Gy _))}
theorem YQ(K:X.calm=Gk):Us X (.type "list") (λxs H Q=>∃v d b,xs=[↑v]/\H v/vvw v d/\DH X.prog X.w H d b/\∀l,H l=Gp->Q ↑l (zj H l (.lst (b.map λp=>p.2.2)))):=by
 intro m s R H xs V Q I r h;have(v,d,b,rfl,l,D,q):=h;have(u,rfl,O):=vals1 r;cases(show u=Tq v from O);have(z,S,P,n,o,es,ep,E,F,G,w,j):=kx I D.at_;have x:s.heap.IsValuesView v d:=(I.Yc v _ l).1;have e:es.size=⇑b:=by rw[GJ n,<-Gq (f:=entryOfKey (V6 X.prog X.w)),<-w,DI]
 refine Br (Qxv (es:=es) (ep:=ep)) (I.ok.hd K) ⟨x,o,E,F,G⟩ (by rw[e];exact z) λy A a C N J c=>?_;have g:⇑(b.map λp=>p.2.2)<=TF:=by rw[Gq];exact z
 have l:Yh (b.map λp=>p.2.2) a.toList:=by
  have k:es.toList.map (·.val)=P.map λq=>q.2.2:=by rw[w,Ds];rfl
  have f:a.toList=es.toList.map (·.val):=by
   refine Fk λi=>?_;by_cases hi:i<a.size
   .obtain⟨M,L,l⟩:=c.2 i a[i] (Dg hi);rw[Em,Dg hi,Ta,Em,L,l];rfl
   .have L:=c.1;rw[Dl (by simp;lia),Dl (by simp;lia)]
  rw[f,k];clear q z w k f g e c D j;induction n with
  |nil=>exact .nil
  |@cons p q T U L t M=>rw[TC,TC];exact .cons L.2.2 M
 have B:zx X m R (zj H s.heap.objs.size (.lst (b.map λp=>p.2.2))) {s with heap:=y,toks:=A}:=
  I.laid (t':=A) N (Gy _) (show Yr X.prog X.w _ y _ (.lst _)from{g,a.toList,C,l,by rw[SH];exact J})
 exact{↑s.heap.objs.size,_,B,1,q _ (I.Yc.fresh (Gy _))}
end
def A2:HO->Prop
 |.dK _=>True
 |.frz _ (.dK _)=>True
 |_=>False
theorem zx.swap{g:List (Ge×Lc)}{s:Gw}{u j:HO}(I:zx X g σ H s)(e:H a/u)(k:A2 u)(b:A2 j)(D:∀o v,X.H₀ a≠Ga (.frz o v))(l:Yr X.prog X.w (zj H a j) s.heap a j):zx X g σ (zj H a j) s:=by
 have i:∀b,H b=Gp->b≠a:=λb d z=>by rw[z,e]at d;cases d
 have w:∀b f,H b/.tup f->b≠a:=λb f d z=>by rw[z,e]at d;cases d;exact k
 have E:∀b y,H b/.own y->b≠a:=λb f d z=>by rw[z,e]at d;cases d;exact k
 have F:∀b r,H b/.tbl r->b≠a:=λb f d z=>by rw[z,e]at d;cases d;exact k
 refine{I.ok,I.os,I.bare,{I.base.keep,I.base.slot,λb o A n C=>?_,I.base.there,λb f h=>?_,λb o v h=>?_,λb r h=>?_},I.loc,I.cell,?_,λx c h=>?_,λp h=>?_,λb o h=>?_,I.len}
 .have:=I.base.free b o A n C;rw[Qh (i b this)];exact this
 .have:=I.base.Qv b f h;rw[Qh (w b f this)];exact this
 .have m:b≠a:=λz=>D o v (z▸h);rw[Qh m];exact I.base.Qbe b o v h
 .obtain⟨m,t⟩:=I.base.Qde b r h;exact{m,by rw[Qh (F _ _ t)];exact t}
 .rw[Qh (i _ I.free)];exact I.free
 .rw[Qh (i _ (I.Iw x c h))];exact I.Iw x c h
 .obtain⟨t,m,B⟩:=I.pin p h;exact{t,by rw[Qh (i _ m)];exact m,B}
 .by_cases d:b=a
  .subst d;rw[Qb]at h;cases h;exact l
  .rw[Qh d]at h;exact(I.Yc b o h).jE (λc v _ q=>q) (λc q=>by rw[Qh (E c b q)];exact q) λc f q=>by rw[Qh (w c f q)];exact q
def fz(o:Lc)(zw:List (Wl×V)):HO:=.frz o (.dK zw)
theorem ZY{b:Hp}{h:Heap}(x:Yr P w H h a (.dK zw)):Yr P w b h a (.dK zw):=x
def mh(a:Ge)(o:Lc)(zw:List (Wl×V)):It:={λi H=>i<⇑zw/\H a/fz o zw,λi H x H'=>H'=H/\∃p,zw[i]?/p/\x=kV p.1,λi H=>⇑zw<=i/\H a/fz o zw}
theorem PF{k:Wl}{u:Gh}(h:jP k u=Gk):zv (kV k) u:=by
 rcases Xp h with⟨i,t,rfl,rfl⟩|⟨x,t,rfl,rfl⟩
 .exact⟨t,Xb⟩
 .exact⟨t,Xb⟩
theorem QP{c:List (Wl×Gh)}(r:KV zw c){i:Nat}{p:Wl×V}(h:zw[i]?/p):∃u,c[i]?/(p.1,u):=by
 unfold KV at r;induction r generalizing i with
 |nil=>simp at h
 |@cons a b g k e t f=>
  cases i with
  |zero=>simp at h;subst h;have(j,d):=b;exact{d,by simp -iota [e.1]}
  |succ i=>simp -iota only [La]at h⊢;exact f h
theorem Qsx{K:Gd}(l c:Ge)(a:Lc)(m:List (Wl×V))(C:Array LI)(r:Nat)(x:a.data=.dict C r):i0 P w K tg (mh l a m) [c] c (λi h=>h.IsKeyIter c l i ⇑m r) where
 mem:=by simp
 obj:=λi h e f g=>by
  have b:f=c:=by simpa using g
  subst b;have(a,b,Q,d):=e;exact{a,b,λT z=>by rw[d]at z;cases z}
 keep:=λi h t e k=>e.at λa b=>k c ⋯ a b
 item:=by
  intro X J hw I S i U s W A Y j v e M;subst J hw I;have(hi,N):=M;have(n,z,hd,y,q,B):=j.Yc l _ N;have(aa,o',ab,p,L,o,O):=B.dictAt;rw[n]at p;cases p;rw[x]at o;cases o;have T:m[i]?/m[i]:=Gf hi;have(u,hu):=QP q T;have(D,E,f2,F,G,H):=v c ⋯;have R:s.heap.IsKeyIter c l i ⇑y r:=by rw[<-⇑q];exact e
  refine wpAny_pyNext_dict_item (knd:=Y9 X.prog X.w) R ⟨a,C,n,L,x,O⟩ hu λac t hk Q sb=>?_;have Z:zx X U W A {s with heap:=t}:=j.turned (t':=s.toks) (λf a g b=>(sb.2 f g).trans b) D E F G H;rw[<-⇑q]at Q;have(o2,e2,c2,d2):=id Q;exact{ac,1,ku (s:={s with heap:=t}) e2 c2 d2 (by decide) {kV m[i].1,A,Z,PF hk,{13,T,1},Q,λf g=>(v f g).1}}
 done:=by
  intro X J hw I S i U s W A Y j v e M;subst J hw I;have(hi,N):=M;have(n,z,hd,y,q,B):=j.Yc l _ N;have(aa,o',ab,p,L,o,O):=B.dictAt;rw[n]at p;cases p;rw[x]at o;cases o;have(D,E,f2,F,G,H):=v c ⋯;have T:⇑m=⇑y:=⇑q;have R:s.heap.IsKeyIter c l i ⇑y r:=by rw[<-T];exact e
  exact wpAny_pyNext_dict_end (knd:=Y9 X.prog X.w) (j.ok.hd S) R ⟨a,C,n,L,x,O⟩ (Dl (by lia)) λt Q=>{1,j.turned (t':=s.toks) (λf a g b=>Q f a g b) D E F G H}
 self:=λ_ _ _ _ _ e h=>NH e h
inductive uX(R:It->Hp->Prop)(x:V)(H1:Hp):Prop
 |mk (a:_) (zw:_) (h0:x=↑a) (h1:((H1 a/.dK zw/\∀o,R (mh a o zw) (zj H1 a (fz o zw))))):uX R x H1
def ZS(te:TE):TI:=λσ H R=>te σ H λx H1=>uX R x H1
inductive zI(t:TS)(D:Ends)(σ:St)(H:Hp):Prop
 |mk (a:_) (zw:_) (h0:H a/.dK zw) (h1:t {nx:=(λσ' H'=>∃o,H' a/fz o zw/\D.nx σ' (zj H' a (.dK zw))),rt:=(λv H'=>∃o,H' a/fz o zw/\D.rt v (zj H' a (.dK zw))),bk:=(λσ' H'=>∃o,H' a/fz o zw/\D.bk σ' (zj H' a (.dK zw))),ct:=(λσ' H'=>∃o,H' a/fz o zw/\D.ct σ' (zj H' a (.dK zw)))} σ H):zI t D σ H
def Q67(t:TS):TS:=λD σ H=>zI t D σ H
section
variable{X:Cx}{tg:Ea}
theorem zx.xM{b:List (Ge×Lc)}{s:Gw}(I:zx X b σ H s)(e:H a/.dK zw):∀o v,X.H₀ a≠Ga (.frz o v):=λo v z=>by rw[I.base.Qbe a o v z]at e;cases e
theorem xb{e:Ea}{u:TE}(D:PE X e u):PI X tg e (ZS u):=by
 intro d s w H R I h;refine Xf (D d s w H _ I h) λv i J=>?_;have(x,y,j,F,E):=J;have(a,f,e,l,q):=E;subst e;cases F;have(z,p,G,g,m):=ot j.Yc l;have(A,o,n,t,C,c,r):=m.dictAt;refine wpAny_pyIter_dict (knd:=Y9 X.prog X.w) p ⟨o,n,t,C,c,r⟩ ?_;have k:zx X d w (zj y a (fz o f)) i:=j.swap l trivial trivial (j.xM l) ⟨t,z,p,G,g,m⟩;refine{i.heap.objs.size,[i.heap.objs.size],20,k.kept (t':=i.toks) λb o e=>Gm _ e,Qsx a _ o f n A c,?_,λb B=>?_,q o}
 .rw[⇑g];exact{_,Tc _ Xb,11}
 .have e:b=i.heap.objs.size:=by simpa using B
  subst e;exact k.jq (Gy _) (k.Yc.fresh (Gy _))
theorem Kf{m:DX}{t:TS}(h:PS X m t):PS X m (Q67 t):=by
 intro c s w H D I n;have(a,k,e,q):=n;have p:=I.xM e;have un:∀{b:St}{i:Hp}{l:Gw}{o:Lc},zx X c b i l->i a/fz o k->zx X c b (zj i a (.dK k)) l:=λd g=>d.swap g trivial trivial p (by have(_,r):=d.Yc a _ g;exact ZY r)
 refine Xf (h c s w H _ I q) λf l r=>?_;cases f with
 |next=>have(b,i,d,o,g,j):=r;exact⟨b,_,un d g,j⟩
 |cont=>have(b,i,d,o,g,j):=r;exact{b,_,un d g,j}
 |brk=>have(b,i,d,o,g,j):=r;exact{b,_,un d g,j}
 |ret v=>have(x,b,i,d,u,o,g,j):=r;exact{x,b,_,un d g,u,j}
end
theorem Da{o:Lc}{g:TG}{k:TS}{D:Ends}(b:Nat->St->Hp->Prop)(l:b 0 σ H)(r:∀i σ H,i<=⇑zw->b i σ H->H a/fz o zw)
  (hs:∀i p σ H,zw[i]?/p->b i σ H->g (kV p.1) σ H λf H2=>k {D with nx:=b (i+1),ct:=b (i+1),bk:=D.nx} f H2)(n:∀σ H,b ⇑zw σ H->D.nx σ H):
  ∃W:Nat->Nat->St->Hp->Prop,(∃m,W 0 m σ H)/\∀i m σ H,W i m σ H->
   ((mh a o zw).stop i H/\D.nx σ H)\/((mh a o zw).go i H/\∃N:St->Hp->Prop,(∀d c,N d c->∃j,j<m/\W (i+1) j d c)/\∀x c,(mh a o zw).yld i H x c->g x σ c λf H2=>k {D with nx:=N,ct:=N,bk:=D.nx} f H2):=by
 exists λi m σ H=>m=⇑zw - i/\i<=⇑zw/\b i σ H,{⇑zw,by simp,Tw _,l};rintro i m σ H ⟨rfl,hi,p⟩;have q:=r i σ H hi p;by_cases h:i<⇑zw
 .refine .inr {⟨h,q⟩,b (i+1),λd c t=>{⇑zw - (i+1),by ext,1,h,t},λx c y=>?_};have(e,y,s,j):=y;subst e j;exact hs i y σ _ s p
 .have e:i=⇑zw:=by ext
  subst e;exact .inl {{Gy _,q},n σ H p}
def lU(lo:Int)(n:Nat):It:={λi _=>i<n,λi H x H'=>H'=H/\x=.int (lo - i),λi _=>n<=i}
theorem QC{K:Gd}(c:Ge)(m:Int)(n:Nat):i0 P w K tg (lU m n) [c] c (λi h=>ND h c (m+(i:Nat)*(-1)) ((n:Int) - (i:Nat)) (-1)) where
 mem:=by simp
 obj:=λi h a b f=>by
  have e:b=c:=by simpa using f
  subst e;exact{_,a,λv z=>by have g:HB _=JB v:=z;cases g}
 keep:=λi h j a k=>k c ⋯ _ a
 item:=by intro X A hw y B i d s D H E I l a C;subst A hw y;have(p,q,G,r,u,x):=l c ⋯;have W:=HC (prog:=X.prog) (w:=X.w) (I.ok.hd B) c m (-1) n;refine W.item i s _ _ C a λv j z J g L=>?_;have(t,rfl):=J;have F:zx X d D H {s with heap:=j,toks:=z}:=I.turned (λb o f e=>L b o (by simpa using f) e) p q r u x;refine{0,ku (s:={s with heap:=j,toks:=z}) (n:="range_iterator") g rfl rfl (by decide) {.int (m - i),H,F,{t,?_},⟨Xb,Xb⟩,g,λb f=>(l b f).1}};congr 1;lia
 done:=by intro X A hw y B i d s D H E I l a C;subst A hw y;have(p,q,G,r,u,x):=l c ⋯;exact M9 (I.ok.hd B) a (by have:n<=i:=C;lia) λj g=>{1,I.turned (t':=s.toks) (λb o f e=>g b o f e) p q r u x}
 self:=λ_ _ _ _ _ a h=>Nb a h
theorem rangeSize_down(n:Nat):SX ((n:Int) - 1) (-1) (-1)=n:=by unfold SX;simp -iota only [show¬((-1:Int)>0) by decide,EN,show -(-1:Int)=1 by decide,Hf];split<;>lia
theorem small_down{n:Nat}(h:n<=1000000):NS ((n:Int) - 1) (-1) (-1)=Gk:=by unfold NS;rw[rangeSize_down];simp -iota only [BJ,Df,Bool.or_eq_true,decide_eq_true_eq,Me,show¬((-1:Int)>0) by decide,EN];lia
inductive tE(R:It->Hp->Prop)(vs:List V)(H1:Hp):Prop
 |mk (n:Nat) (h0:vs=[.int ((n:Int) - 1),.int (-1),.int (-1)]) (h1:n<=1000000) (h2:R (lU ((n:Int) - 1) n) H1):tE R vs H1
def YL(ta:TA):TI:=λσ H R=>ta σ H λa H1=>tE R a H1
theorem Q0b{a b c:Ea}{v:TA}{p j:MQ}(C:Gl X "range")(D:X.mg "range"=Gp)(A:PA X [a,b,c] v)(hs:T8 [a,b,c] X.env=[(Gx,eval a X.env),(Gx,eval b X.env),(Gx,eval c X.env)]:=by rfl)(i:T8 [b,c] X.env=[(Gx,eval b X.env),(Gx,eval c X.env)]:=by rfl):
  PI X tg (.Call (.Name "range" p) [a,b,c] [] j) (YL v):=by
 intro f s w H R I h;refine IM (Uk I C D HY (Eo (Xf (A j f s w H _ I h) λL g K=>?_) (by rw[hs,i]) (by rw[i];rfl)));have(M,u,x,J,F):=K;have(n,e,E,q):=F;subst e;cases J with
 |cons r k=>
  cases k with
  |cons G k=>
   cases k with
   |cons m k=>
    cases k;have(t,rfl):=r;have(t',rfl):=G;have(d,rfl):=m;refine call_range_3 (by decide) ?_ (.inl (Nc ∅));refine Rs (HD ..) (small_down E) ?_;have l:zx X f w u {g with heap:=g.heap.push {cls:=.type "range",data:=.fields #[.int ((n:Int) - 1) t,.int (-1) t',.int (-1) d]},toks:=g.toks}:=x.kept λb o e=>Gm _ e;refine⟨(g.heap.push {cls:=.type "range",data:=.fields #[.int ((n:Int) - 1) t,.int (-1) t',.int (-1) d]}).objs.size,[(g.heap.push {cls:=.type "range",data:=.fields #[.int ((n:Int) - 1) t,.int (-1) t',.int (-1) d]}).objs.size],_,_,u,Xb,
     l.kept (t':=g.toks) λb o e=>Gm _ e,QC _ ((n:Int) - 1) n,?_,λb B=>?_,q⟩
    .have y:((n:Int) - 1)+((0:Nat):Int)*(-1)=(n:Int) - 1:=by simp
     have z:(n:Int) - ((0:Nat):Int)=SX ((n:Int) - 1) (-1) (-1):=by rw[rangeSize_down];simp
     show ND _ _ (((n:Int) - 1)+((0:Nat):Int)*(-1)) ((n:Int) - ((0:Nat):Int)) (-1);rw[y,z];exact Tc _ rfl
    .have e:b=(g.heap.push {cls:=.type "range",data:=.fields #[.int ((n:Int) - 1) t,.int (-1) t',.int (-1) d]}).objs.size:=by simpa using B
     subst e;exact l.jq (Gy _) (l.Yc.fresh (Gy _))
theorem Qwc{h:Int}{n:Nat}{g:TG}{k:TS}{D:Ends}(b:Nat->St->Hp->Prop)(l:b 0 σ H)
  (hs:∀i σ H,i<n->b i σ H->g (.int (h - i)) σ H λf H2=>k {D with nx:=b (i+1),ct:=b (i+1),bk:=D.nx} f H2)(o:∀σ H,b n σ H->D.nx σ H):
  ∃W:Nat->Nat->St->Hp->Prop,(∃m,W 0 m σ H)/\∀i m σ H,W i m σ H->
   ((lU h n).stop i H/\D.nx σ H)\/((lU h n).go i H/\∃N:St->Hp->Prop,(∀d a,N d a->∃j,j<m/\W (i+1) j d a)/\∀x a,(lU h n).yld i H x a->g x σ a λf H2=>k {D with nx:=N,ct:=N,bk:=D.nx} f H2):=by
 exists λi m σ H=>m=n - i/\i<=n/\b i σ H,{n,by simp,Tw _,l};rintro i m σ H ⟨rfl,hi,p⟩;by_cases c:i<n
 .refine .inr {c,b (i+1),λd a j=>{n - (i+1),by ext,1,c,j},λx a y=>?_};have(e,y):=y;subst e y;exact hs i σ _ c p
 .have e:i=n:=by ext
  subst e;exact .inl {Gy _,o σ H p}
inductive w9(vs:List V)(H:Hp)(Q:VK):Prop
 |mk (d:_) (zw:_) (ks:_) (h0:vs=[↑d]) (h1:H d/.dK zw) (h2:zw.map (·.1)=ks.map FW) (h3:⇑zw<64) (h4:∀(r:Ge)(ns:List Int),H r=Gp->ns.Perm ks->ns.Pairwise (·<=·)->Q ↑r (zj H r (.lst (ns.map V.int)))):w9 vs H Q
def PL:List V->Hp->VK->Prop:=λa H Q=>w9 a H Q
theorem WV{h:Heap}:∀{b:List (Wl×V)}{d:List (Wl×Gh)}{c:List Int}{a:List Gh},KV b d->b.map (·.1)=c.map FW->⇑a=⇑d->(∀(i:Nat)(u:Gh),a[i]?/u->∃k x,d[i]?/(k,x)/\(Y9 P w).is k u=Gk)->Ni a c:=by
 intro b;induction b with
 |nil=>
  intro d c a t e f _;cases t;cases a with
  |cons=>cases f
  |nil=>
   cases c with
   |nil=>exact .nil
   |cons=>cases e
 |cons p b n=>
  intro d c a t e f g;cases t with
  |cons r t=>
   cases c with
   |nil=>cases e
   |cons k c=>
    cases a with
    |nil=>cases f
    |cons u a=>
     simp -iota only [TC,DP]at e;have(o,x,j,l):=g 0 u rfl;simp at j;have:o=FW k:=by rw[<-e.1,r.1,j]
     subst this;have(q,rfl):=RK (k:=k) (v:=u) l;exact .cons _ _ (n t e.2 (by simpa using f) λi u m=>g (i+1) u m)
theorem UJ{a:List Gh}{b:List Int}(h:Ni a b):Yh (b.map V.int) a:=by
 induction h with
 |nil=>exact .nil
 |cons n t r c=>exact .cons {40} c
theorem Qjy(M:X.calm=Gk):Us X (.builtin "sorted") PL:=by
 intro m s U H Y W Q I r h;have(d,zw,D,rfl,R,C,P,q):=h;have(u,rfl,T):=vals1 r;cases(show u=Tq d from T);have(z,N,y,n,K):=ot I.Yc R;have(ep,t):=K.dictAt;have c:⇑zw=⇑y:=⇑n;refine Mt kind_sorted plain_sorted entry_sorted (args_sorted1 _) ?_;unfold Builtin.«sorted»;refine Gb (m:=checkCount "sorted" 1 1 _) (Gj ?_);refine Gb (HR (A:=X.A.in1) (JR (knd:=Y9 X.prog X.w) (kvs:=y) (ep:=ep) N) (I.ok.hd M) t (by rw[<-c];exact z) λf E a w g=>?_);have j:⇑a.toList=⇑y:=by rw[DI];exact g.1
 have L:Ni a.toList D:=WV (P:=X.prog) (w:=X.w) (h:=f) n C j λi u S=>g.2 i u (by rw[<-Em];exact S);have A:zx X m U H {s with heap:=f,toks:=E}:=I.kept w;refine Gb (wpAny_newList ?_ (by rw[j,<-c];exact z));have v:(f.push {cls:=.type "list",data:=.seq a.toList.toArray}).get? f.objs.size/seqObj "list" a.toList.toArray 0:=Tc _ rfl;refine Gb (Ej ?_);refine Dy Hq {_,v,1} C7 ?_ (CY _);refine list_sort_tree v L (by rw[j,<-c];exact P) λout l G B J=>?_;exists 40;refine Gj {0,?_};have(e,O):=sortedHeap_at (out:=out) v;have k:∀b o,f.get? b/o->(sortedHeap (f.push {cls:=.type "list",data:=.seq a.toList.toArray}) f.objs.size a.toList out).get? b/o:=λb o p=>by rw[sortedHeap_old (T9 (Tn p)) (by rw[size_push'];exact Bc (Tn p))];exact Gm _ p
 have x:⇑l<=TF:=by
  rw[B.length_eq];have:⇑D=⇑zw:=by have:=congrArg Sk C;simpa using this.symm
  rw[this];exact z
 have F:=A.laid (a:=f.objs.size) (o:=.lst (l.map V.int)) (t':=E) k (Gy _) {by rw[Gq];exact x,out.toList,e,UJ G,by rw[SH];exact O};exact{↑f.objs.size,_,F,1,q _ _ (A.Yc.fresh (Gy _)) B J}
end L2
namespace K04
open PySem L2 Sb Nt
variable{X:Ge->Prop}{H H' H1 H0:Hp}{v:V}{ks:List Nat}{k a b p q tb m j:Nat}{fs:List Fm}{x:Nn}{N:Nat->Nat->Option Nat}{ps S ts U:List Th}{u t:Th}{f C r n L d D fW fB M fR fL f0 fI fN CP CB fA:Ge}{fd fdW fdB fdR fdL fdI fdN fdA:Du}{A:Na}{st:List (Nat×Nat)}{lks:List Lk}{xs ys:List V}{P:Gn}{w:Ti}{ens:List En}{tl:Tl}{α:Type}{ds:List DN}
inductive AF(C:Ge)(vs:List V)(H:Hp)(Q:VK):Prop
 |mk (n:Ge) (A:Na) (fs:List Fm) (x:Nn) (p:Nat) (h0:vs=[↑n,jv p]) (h1:(∃dx,H n/.ins C dx (Xr A))) (h2:(∃ws,H A.f/.lst ws/\Dm (I0 H) ws fs)) (h3:Rd H A.l (.dK (dS x.S λp=>jv (x.zu p)))) (h4:p<⇑fs) (h5:(∀q∈Zx fs p,q∈x.S)) (h6:⇑(Zx fs p)<=1000000) (h7:∀(c:Ge)(H':Hp),Q5 H H'->H c=Gp->I0 H' ↑c (Zt (Yu fs) (Zx fs) x.zu p)->Q ↑c H'):AF C vs H Q
def uK(C:Ge):Sp:=λa H Q _=>AF C a H Q
abbrev Row:=TQ×List Nat×Nat
inductive Jc(H:Hp)(X:Ge->Prop)(v:V)(r:Row):Prop
 |mk (c:_) (l:_) (h0:v=↑c) (h1:H c/.tup [.str r.1,↑l,jv r.2.2]) (h2:H l/.lst (r.2.1.map jv)) (h3:¬X l):Jc H X v r
theorem Jc.kp(i:∀{c:Ge}{a:List V},H c/.tup a->H' c/.tup a)(g:∀{c:Ge}{a:List V},H c/.lst a->¬X c->H' c/.lst a){r:Row}(h:Jc H X v r):Jc H' X v r:=by have(c,l,d,e,f,b):=h;exact{c,l,d,i e,g f b,b}
theorem Jc.ex{Y:Ge->Prop}(f:∀c a,H c/.lst a->¬X c->¬Y c){r:Row}(h:Jc H X v r):Jc H Y v r:=by have(c,l,b,d,a,e):=h;exact{c,l,b,d,a,f _ _ a e}
inductive Ul(H:Hp)(X:Ge->Prop)(v:V)(rs:List Row):Prop
 |mk (r:_) (es:_) (h0:v=↑r) (h1:H r/.lst es) (h2:¬X r) (h3:Dm (Jc H X) es rs):Ul H X v rs
theorem Ul.kp{X:Ge->Prop}{H b:Hp}(l:∀{c:Ge}{a:List V},H c/.tup a->b c/.tup a)(e:∀{c:Ge}{a:List V},H c/.lst a->¬X c->b c/.lst a){v:V}{f:List Row}(h:Ul H X v f):Ul b X v f:=by have(r,g,i,j,d,k):=h;exact{r,g,i,e j d,d,Qr k λ_ _ h=>h.kp l e}
theorem Ul.ex{X Y:Ge->Prop}{H:Hp}(b:∀c a,H c/.lst a->¬X c->¬Y c){v:V}{d:List Row}(h:Ul H X v d):Ul H Y v d:=by have(r,c,e,a,f,g):=h;exact{r,c,e,a,b _ _ a f,Qr g λ_ _ h=>h.ex b}
noncomputable def Vw(fs:List Fm)(x:Nn)(N:Nat->Nat)(p:Nat):Row:=(Yu fs p,(Zx fs p).map (λq=>N (x.zu q)),N (x.zu p))
structure A0(fs:List Fm)(x:Nn)(rs:List Row):Prop where
 ex:∃N:Nat->Nat,(∀p∈x.S,∀q∈x.S,N (x.zu p)=N (x.zu q)->x.zu p=x.zu q)/\(∀p∈x.S,Vw fs x N p∈rs)/\∀r∈rs,∃p∈x.S,r=Vw fs x N p
 nd:(rs.map λr=>(r.1,r.2.1)).Nodup
inductive yK(P:Gn)(w:Ti)(C:Ge)(vs:List V)(H:Hp)(Q:VK):Prop
 |mk (n:Ge) (A:Na) (fs:List Fm) (tb:Nat) (x:Nn) (h0:vs=[↑n]) (h1:Yk P w C H n A fs tb x) (h2:iP fs x.S) (h3:Wy (Yu fs) (Zx fs) x []) (h4:⇑x.S<=1000) (h5:∀(v:V)(rs:List Row)(H':Hp),Q5 H H'->Ul H' (λb=>∃o,H b/o) v rs->A0 fs x rs->Q v H'):yK P w C vs H Q
def rm(P:Gn)(w:Ti)(C:Ge):Sp:=λa H Q _=>yK P w C a H Q
theorem Quq{l:Nat}(b:l∉ks)(a:k∈ks++[l]):(ks++[l]).idxOf k=if k=l then ⇑ks else ks.idxOf k:=by
 rw[RZ];by_cases h:k=l
 .subst h;rw[Gu b,GY rfl];simp
 .have:k∈ks:=by
   rcases Gi.mp a with z|z
   .exact z
   .exact absurd (by simpa using z) h
  rw[GY this,Gu h]
theorem qj(e:a∈ks)(f:b∈ks)(h:ks.idxOf a=ks.idxOf b):a=b:=by have c:=Mn (Si e);have d:=Mn (Si f);rw[<-c,<-d];simp only[h]
def jr(fs:List Fm)(x:Nn)(N:Nat->Nat)(X:Ge->Prop)(H:Hp)(e:KE)(p:Nat):Prop:=e.1=Y2 (Zt (Yu fs) (Zx fs) x.zu p)/\Jc H X e.2.2 (Vw fs x N p)
theorem yZ{N:Nat->Nat}{d:List KE}{f:List Nat}(h:Dm (jr fs x N X H) d f)(k:Fm):(Yp d (Y2 k)).isSome=Gk↔∃p∈f,Zt (Yu fs) (Zx fs) x.zu p=k:=by
 induction h with
 |nil=>simp[Yp]
 |@cons e p d f g t i=>
  by_cases c:e.1=Y2 k
  .rw[Xc c];simp only[RC,true_iff];exact{p,G8,Jj (g.1.symm.trans c)}
  .rw[Xd c,i];constructor
   .rintro⟨q,a,b⟩;exact{q,Gr _ a,b}
   .rintro⟨q,a,b⟩;rcases Td.mp a with rfl|a
    .exact absurd (by rw[g.1,b]) c
    .exact⟨q,a,b⟩
theorem QE{N:Nat->Nat}{f:List KE}{b:List Nat}(i:Jc H X v (Vw fs x N p))(a:∀q∈b,Zt (Yu fs) (Zx fs) x.zu q=Zt (Yu fs) (Zx fs) x.zu p->Vw fs x N q=Vw fs x N p)(h:Dm (jr fs x N X H) f b):
  Dm (jr fs x N X H) (f.map λe=>if e.1=Y2 (Zt (Yu fs) (Zx fs) x.zu p)then(e.1,e.2.1,v)else e) b:=by
 induction h with
 |nil=>exact .nil
 |@cons e q f b d t j=>
  refine .cons ?_ (j λq g=>a q (Gr _ g));dsimp only;by_cases c:e.1=Y2 (Zt (Yu fs) (Zx fs) x.zu p)
  .rw[GY c];exists d.1;rw[a q G8 (Jj (d.1.symm.trans c))];exact i
  .rw[Gu c];exact d
theorem Q1d{a:Ge}{u:HO}(r:Rd H a u)(g:Q5 H H'):Rd H' a u:=by
 rcases r with r|⟨o,r⟩
 .exact .inl (g _ _ r)
 .exact .inr {o,g _ _ r}
theorem qR{a:Ge}{S:List Nat}{f:Nat->V}(h:Rd H a (.dK (dS S f)))(b:p∈S):Vv H a (jv p) (Ga (f p)):=.inl {_,ki p,h,1,(kz b).symm}
section
variable{P:Gn}{w:Ti}{K:Gd}{mg:TQ->Option Gh}{base:Heap}
theorem YK(F:Wc K "key_of" "Net.key_of" jJ f fd)(g:Jb K mg C)(M:Ie mg):Qz P w K mg base Z4 1 f fd ["self","place"] (uK C):=by
 refine F.ok nz (λvs m O N c=>?_) (λab d ac s m vs O N X c=>?_)
 .obtain⟨n,d,a,x,p,rfl,_⟩:=c;rfl
 have(n,d,a,x,p,rfl,(t,H),(J,S,u),le,B,W,hl,T):=c;have Y:=Jy X;have nd:=nz.nd;exists _,Qc (Q3 2 nd (Qn Q9 (Qx {0}) {1}))
  (Qg (Qu (Zg (Qa (Qn Qt {2} Qj) (Qa (Yq Wh rfl M.tuple Di (Qa
   (Wm (te:=l8 (oV K (Vi 1) "leads") (Vi 0)) (own:=["part"]) (fv:=[(0,"self")]) rfl (S:=(by eq_refl:Xm (Qm jJ) _)) (.cons rfl (DG Xb) rfl .nil) (Ui (Qn Qt {2} Qj))
    (λ_ _ _ _ _=>Z5 (i:=0) vC rfl (DG Xb) (Ez Xb)) (λ_ _ _ _ _=>Xk) (λ_ _ _ _ _=>Yb Y (Qx {1}) {0} (λ_ _=>rfl))) Qe)) Qe)))))
 have hw:p<⇑J:=by rw[GJ u];exact B
 ac_nf;have(y,E,o,h,R,v,z):=Qy u (Gf hw);intros;rw[la B]at E;cases E;have Q:Rt [V.str (Yu a p),V.ref h] (1:Int)/↑h:=X8;exists 0,n,C,t,30,H,g.cl,g.Qer,Jw _,0,d.f,J,301,Qi S,Zi (Gf hw);rw[R];refine{0,o,201,Qk v,Of _ _,0,o,201,Qk v,Q,h,1,{_,Qk z},λaa D=>?_};have s3:=Qf D (.lst []);refine Ja (K:=K) (a:=h) (xs:=(Zx a p).map jv) (small (by rw[Gq];ext)) (λi k l e=>(∃L,l=[L,Ga ↑n])/\Q5 m e/\k=((Zx a p).take i).map λq=>jv (x.zu q))
  {{40},s3,by simp} (λi k l e _ c=>Qk (c.2.1 _ _ z)) ?_ ?_
 .rintro i y k l e hi Z ⟨⟨L,rfl⟩,b,rfl⟩ j;rw[Ta]at hi;cases eq:(Zx a p)[i]? with
  |none=>rw[eq]at hi;cases hi
  |some q=>
   rw[eq]at hi;cases hi;exists 0,n,C,t,30,b _ _ H,g.cl,g.Vx,Xg _,0,d.l,0,qR (Q1d le b) (W q (Gc eq)),j,{40},λA G r=>?_
   .rw[Qh (Qd r D)];exact b _ _ r
   .rw[Tt,eq,T3];rfl
 .rintro k l e Z ⟨_,b,rfl⟩ j;rw[Gq,Tu]at j;refine{aa,0,.inl {Qi j,λG U=>?_}};have s4:=Qf U (.tup ((Zx a p).map λq=>jv (x.zu q)));refine{Yz,λr A=>?_};have I:=Qf A (.tup [.str (Yu a p),↑G]);refine T r _ ((b.trans s4).trans I) (b.free (s4.free A)) {r,G,1,Qb,?_};rw[I _ _ Qb];simp only[Zt,Ds];rfl
theorem tD{S:List Nat}{f:Nat->V}{i:Nat}{a:Wl×V}(h:(dS S f)[i]?/a):∃p,S[i]?/p/\a=(ki p,f p):=by
 unfold dS at h;rw[Ta]at h;cases e:S[i]? with
 |none=>rw[e]at h;cases h
 |some p=>rw[e]at h;cases h;exact⟨p,Xb,Xb⟩
theorem wC:Q4 ["self","numbers","place","found","key"] ["self"] (Qm js):=by eq_refl
theorem ZX:(["lead","numbers"]:List TQ).Nodup:=by decide+kernel
theorem Pn{fK:Ge}{aK:Du}(F:Wc K "rows" "Net.rows" js f fd)(W:Jb K mg C)(aI:Ie mg)(mK:Ym K C "key_of" fK)(GK:Qz P w K mg base Z4 1 fK aK ["self","place"] (uK C))(bK:zk K aK ["self","place"] []):
  Qz P w K mg base Z4 2 f fd ["self"] (rm P w C):=by
 refine F.ok wC (λM I J E e=>?_) (λQ h T s I M J E N e=>?_)
 .obtain⟨n,h,d,tb,x,rfl,_⟩:=e;rfl
 have(n,h,d,tb,x,rfl,X,FO,aJ,hS,q):=e;have hu:=Jy N;have a8:=N.units;have a7:Yd 1 _:=N.mono (by lia);have nd:=wC.nd;show∃t,Wf ?my _ t/\_;let w5:Vr ?my js 4:={_,Qg (Qu (Yq (YQ Xb) rfl aI.list TY (Qa (Pt ML CZ KO {3}) Qe)))}
 let w4:Vr ?my js 3:=⟨_,Qc (Kf (Z9 To rfl (xb (Qx {0})) (Zv 2 nd)
   (Qc (Q3 4 nd (Zk {0} W.cl mK GK a7 bK .nil Q7 (Qa {2} Qe)))
   (Qg (Il (Zg (Qa (Qn Qt {4} Qj) (Qa
     (Wm (te:=l8 (Vi 1) (Vi 0)) (own:=["lead"]) (fv:=[(1,"numbers")]) rfl (S:=(by eq_refl:Xm (Qm js) _)) (.cons rfl (DG Xb) rfl .nil) (Ui (Qn Qt {4} Qj))
      (λ_ _ _ _ _=>Z5 (i:=0) ZX rfl (DG Xb) (Ez Xb)) (λ_ _ _ _ _=>Xk) (λ_ _ _ _ _=>Yb hu {1} {0} (λ_ _=>rfl)))
     (Qa (Yb hu {1} (Yb hu (Qx {0}) {2} (λ_ _=>rfl)) (λ_ _=>rfl)) Qe))))
    (Oy {3} {4} (O8 a8))))))) w5.2⟩
 let w3:Vr ?my js 2:={_,Qc (W8 (i:=3) (te:=sH P w) nd rfl (DG Xb) Ju) w4.2}
 let w2:Vr ?my js 1:=⟨_,Qc (Kf (Z9 To rfl (xb (Qx {0})) (Zv 2 nd)
   (Qg (Zl (Xx S9 Lp Lq YE {1} (Qa (Yb hu (Qx {0}) {2} (λ_ _=>rfl)) (Qa (Qp Qr0 rfl aI.len Tp (Qa {1} Qe)) Qe))))))) w3.2⟩
 exists _,Qc (W8 (i:=1) nd rfl (Ez Xb) Jz) w2.2;have(dx,o1):=X.ob;intro num aq;have s1:=Qf aq (.dK []);have X1:=X.same s1;have nl:num≠h.l:=GQ (Qd X.le aq);have nn:num≠n:=GQ (Qd o1 aq);have ln:n≠h.l:=Ys o1 X.le nofun;exists h.l,_,X1.le;refine⟨_,Xb,n,C,dx,_,_,Xb,s1 _ _ o1,W.cl,W.Vx,Xg _,h.l,_,Xb,X1.le,λg=>Da (λi L U=>jT λ(x2:Option V)(v:List Nat)=>jD (L=[Ga ↑n,Ga ↑num,x2,Gp,Gp]) (U num/.dK (dS v λk=>jv (v.idxOf k))) (v.Nodup) (⇑v<=i) (∀p∈x.S.take i,x.zu p∈v) (U h.l/fz g (dS x.S λp=>jv (x.zu p))) (∀c u,I c/u->c≠h.l->U c/u))
  {_,[],1,Ql Qb nl,SY,Tw _,by simp,Qb,λc u b H=>Ql (s1 _ _ b) H} (by rintro i L U _ ⟨_,_,_,_,_,_,_,e,_⟩;exact e) ?_ ?_⟩
 .rintro i pr L U hi ⟨x2,v,rfl,af,aG,aN,ae,am,fr⟩;have(p,l,rfl):=tD hi;have pS:p∈x.S:=Gc l;have a4:i<⇑x.S:=(Gg.mp l).1;refine{0,.inr (.inr (.inl {1,.inl {_,af}})),0,n,C,dx,30,fr _ _ o1 ln,W.cl,W.Vx,Xg _,0,h.l,0,qR (.inr ⟨g,am⟩) pS,0,num,0,af,num,ki (x.zu p),301,af,by rw[V4,TD];lia,λO Z=>?_,λZ=>?_}
  .have S:x.zu p∈v:=by refine Cp λaa=>?_;rw[qX aa]at Z;cases Z
   refine{_,v,1,af,aG,by lia,λB N=>?_,am,fr};rw[Tt,l]at N;rcases Gi.mp N with e|e
   .exact ae B e
   .have:B=p:=by simpa using e
    rw[this];exact S
  .have S:x.zu p∉v:=λaa=>by rw[kz aa]at Z;cases Z
   have eo:V7 (dS v λk=>jv (v.idxOf k)) (ki (x.zu p)) (.int (⇑(dS v λk=>jv (v.idxOf k)):Int))=dS (v++[x.zu p]) λk=>jv ((v++[x.zu p]).idxOf k):=by rw[kL S,V4];refine Vt λk E=>?_;rw[Quq S E];split<;>rfl
   rw[eo];refine{_,v++[x.zu p],1,Qb,DO.mpr {aG,by simp,λa ha c H=>by simp at H;subst H;exactλaa=>S (aa▸ha)},by rw[Gs,Tg];lia,λB N=>?_,Ql am (GQ nl),λc u b H=>Ql (fr c u b H) (Qd b aq)};rw[Tt,l]at N;rcases Gi.mp N with e|e
   .exact Gv _ (ae B e)
   .have:B=p:=by simpa using e
    rw[this];simp
 rintro L U ⟨x2,v,rfl,af,aG,aN,ae,am,fr⟩;rw[V4,Tu]at ae;rw[V4]at aN;exists g,am;have t2:∀c u,I c/u->(zj U h.l (.dK (dS x.S λp=>jv (x.zu p)))) c/u:=λc u b=>by
  by_cases e:c=h.l
  .subst e;rw[Qb,<-b];exact X.le.symm
  .exact Ql (fr c u b e) e
 generalize a5:(dS v λk=>jv (v.idxOf k))=av at af;have au:∀p∈x.S,Xq av (ki (x.zu p))/jv (v.idxOf (x.zu p)):=λp l=>by rw[<-a5];exact kz (ae p l)
 generalize aL:(λk=>v.idxOf k)=m;have au:∀p∈x.S,Xq av (ki (x.zu p))/jv (m (x.zu p)):=λp l=>by rw[<-aL];exact au p l
 have aM:∀p∈x.S,∀q∈x.S,m (x.zu p)=m (x.zu q)->x.zu p=x.zu q:=λp l q D b=>by rw[<-aL]at b;exact qj (ae p l) (ae q D) b
 have aH:(zj U h.l (.dK (dS x.S λp=>jv (x.zu p)))) num/.dK av:=Ql af nl;generalize zj U h.l (.dK (dS x.S λp=>jv (x.zu p)))=H3 at t2 aH;intro r ap;have s4:=Qf ap (Ut P w r []);have g4:Q5 I (zj H3 r (Ut P w r [])):=λc u b=>s4 _ _ (t2 c u b);have X4:=X.same g4;have nf:num≠r:=Qd aH ap;have fl:h.l≠r:=Qd (t2 _ _ X.le) ap;exists h.l,_,X4.le;refine⟨_,Xb,n,C,dx,_,_,Xb,g4 _ _ o1,W.cl,W.Vx,Xg _,h.l,_,Xb,X4.le,λg=>Da (λi L G=>jc λ(x2 x4:Option V)(z:List KE)=>mw (L=[Ga ↑n,Ga ↑num,x2,Ga ↑r,x4]) (DH P w G r z) (∃o:List Nat,⇑o<=i/\Dm (jr d x m (λc=>∃g,I c/g) G) z o/\(o.map λp=>Zt (Yu d) (Zx d) x.zu p).Nodup/\(∀p∈o,p∈x.S)/\∀p∈x.S.take i,∃p'∈o,Zt (Yu d) (Zx d) x.zu p'=Zt (Yu d) (Zx d) x.zu p) (G num/.dK av) (G h.l/fz g (dS x.S λp=>jv (x.zu p))) (∀c u,I c/u->c≠h.l->G c/u))
  {2,[],1,{Ql Qb (GQ fl),(λp l=>nomatch l)},{[],Tw _,.nil,SY,(λp l=>nomatch l),by simp},Ql (Ql aH nf) nl,Qb,λc u b H=>Ql (g4 _ _ b) H} (by rintro i L G _ ⟨_,_,_,_,_,_,_,e,_⟩;exact e) ?_ ?_⟩
 .rintro i pr L G hi ⟨x2,x4,z,rfl,D5,⟨o,a6,ar,aw,ag,al⟩,aO,ac,ad⟩;ac_nf;have(p,l,rfl):=tD hi;have pS:p∈x.S:=Gc l;have a4:i<⇑x.S:=(Gg.mp l).1;have ba:=FO.few p;have(ws,f1,f2):=X.fo;intros;have tu:Q8 I G:=λc xs b=>ad c _ b (Ys b X.le nofun);have fA:G h.f/.lst ws:=ad _ _ f1 (Ys f1 X.le nofun);have o5:=ad _ _ o1 ln;refine{0,n,dx,0,o5,sf _,0,n,h,d,x,p,1,⟨dx,o5⟩,{ws,fA,Qr f2 λ_ _ e=>e.Qv tu},.inr ⟨g,ac⟩,FO.lt p pS,FO.Ol p pS,by lia,λaj H6 J a9 fm=>?_};ac_nf;have(c',b,ec,h1,R):=id fm;intros;cases ec;simp only[Zt]at h1 R;have ao:=J _ _ aO;have D6:DH P w H6 r z:={J _ _ D5.at_,Zf (Q8.of J) D5.keys};refine{0,aj,201,Qk h1,Of _ _,0,aj,201,Qk h1,Rp _ _ _,b,1,{_,Qk R},λB an=>?_};have s7:=Qf an (.lst []);have bb:=GJ ar;refine Ja (K:=K) (a:=b) (xs:=((Zx d p).map x.zu).map jv) (small (by rw[Gq,Gq];lia)) (λi ys L E=>(∃x0,L=[x0,Ga ↑num])/\Q5 H6 E/\ys=((Zx d p).take i).map λq=>jv (m (x.zu q))) {{40},s7,by simp} (λi ys L E _ e=>Qk (e.2.1 _ _ R)) ?_ ?_
  .rintro j y ys L E M a3 ⟨⟨x0,rfl⟩,T,rfl⟩ ak;rw[Ta,Ta]at M;cases eq:(Zx d p)[j]? with
   |none=>rw[eq]at M;cases M
   |some Q=>rw[eq]at M;cases M;have Z:=au Q (FO.Ol p pS Q (Gc eq));exists 00,num,0,(by have:=Vv.k (k:=ki (x.zu Q)) (T _ _ ao);rw[Z]at this;exact this),ak,{40},λc g eb=>Ql (T _ _ eb) (Qd eb an);rw[Tt,eq,T3];rfl
  .rintro ys L E a3 ⟨_,T,rfl⟩ ak;rw[Gq,Gq,Tu]at ak;have Z:=au p pS;have a1:=T _ _ ao;have dg:Vv E num (jv (x.zu p)) (Ga (jv (m (x.zu p)))):=by have:=Vv.k (k:=ki (x.zu p)) a1;rw[Z]at this;exact this
   refine{00,n,C,dx,30,T _ _ (J _ _ o5),W.cl,W.Vx,Xg _,0,h.l,0,qR (.inr {g,T _ _ (J _ _ ac)}) pS,num,0,dg,Vb,λA hm=>?_};generalize aZ:jv (m (x.zu p))=O;have s8:=Qf hm (.tup [.str (Yu d p),↑B,O]);have M:Q5 H6 (zj E A (.tup [.str (Yu d p),↑B,O])):=T.trans s8;have D8:DH P w (zj E A (.tup [.str (Yu d p),↑B,O])) r z:={M _ _ D6.at_,Zf (Q8.of M) D6.keys};have k8:=(fm.Qv (Q8.of M)).key (FO.str p);exists 00,r,aj,_,z,11,D8,k8,(by rw[TD];lia);have a2:∀c g,I c/g->∃u,H6 c/u:=λc g eb=>by
    by_cases H:c=h.l
    .rw[H];exact{_,J _ _ ac}
    .exact{g,J _ _ (ad c g eb H)}
   have aE:Jc (zj E A (.tup [.str (Yu d p),↑B,O])) (λc=>∃g,I c/g) ↑A (Vw d x m p):=⟨A,B,Xb,by rw[<-aZ];exact Qb,by
    show _/HO.lst (((Zx d p).map λq=>m (x.zu q)).map jv);rw[Ds];exact s8 _ _ ak,λ⟨g,eo⟩=>by
    have(u,ab):=a2 _ _ eo;rw[an]at ab;cases ab⟩
   generalize aD:Vg z (Y2 (Zt (Yu d) (Zx d) x.zu p)) aj ↑A=ai;have aF:∀{c:Ge}{xs:List V},(zj E A (.tup [.str (Yu d p),↑B,O])) c/.tup xs->(zj (zj E A (.tup [.str (Yu d p),↑B,O])) r (Ut P w r ai)) c/.tup xs:=λb=>Ql b (Ys b D8.at_ nofun);have a0:∀{c:Ge}{xs:List V},(zj E A (.tup [.str (Yu d p),↑B,O])) c/.lst xs->(zj (zj E A (.tup [.str (Yu d p),↑B,O])) r (Ut P w r ai)) c/.lst xs:=λb=>Ql b (Ys b D8.at_ nofun);have ah:Dm (jr d x m (λc=>∃g,I c/g) (zj E A (.tup [.str (Yu d p),↑B,O]))) z o:=Qr ar λ_ _ e=>{e.1,e.2.kp (λb=>M _ _ (J _ _ b)) (λb _=>M _ _ (J _ _ b))};have aY:∀q∈o,Zt (Yu d) (Zx d) x.zu q=Zt (Yu d) (Zx d) x.zu p->Vw d x m q=Vw d x m p:=λq D b=>by have Y:=aJ.cong (ag q D) pS b;simp only[Zt,EJ]at b;unfold Vw;rw[b.1,Y];congr 2;have:=congrArg (Mq m) b.2;rw[Ds,Ds]at this;exact this
   have aX:∃Q:List Nat,⇑Q<=i+1/\Dm (jr d x m (λc=>∃g,I c/g) (zj E A (.tup [.str (Yu d p),↑B,O]))) ai Q/\(Q.map λp=>Zt (Yu d) (Zx d) x.zu p).Nodup/\(∀p∈Q,p∈x.S)/\∀q∈x.S.take (i+1),∃p'∈Q,Zt (Yu d) (Zx d) x.zu p'=Zt (Yu d) (Zx d) x.zu q:=by
    rw[<-aD];unfold Vg;by_cases S:(Yp z (Y2 (Zt (Yu d) (Zx d) x.zu p))).isSome=Gk
    .rw[GY S];refine{o,by lia,QE aE aY ah,aw,ag,λq D=>?_};rw[Tt,l]at D;rcases Gi.mp D with e|e
     .exact al q e
     .have:q=p:=by simpa using e
      rw[this];exact(yZ ah _).mp S
    .rw[Gu S];have aB:∀q∈o,Zt (Yu d) (Zx d) x.zu q≠Zt (Yu d) (Zx d) x.zu p:=λq D b=>S ((yZ ah _).mpr ⟨q,D,b⟩);refine{o++[p],by rw[Gs,Tg];lia,E5 ah ⟨Xb,aE⟩,?_,λq D=>?_,λq D=>?_}
     .rw[T3];refine DO.mpr {aw,by simp,λa ha c H=>?_};have(q,D,rfl):=Tv.mp ha;have:c=Zt (Yu d) (Zx d) x.zu p:=by simpa using H
      rw[this];exact aB q D
     .rcases Gi.mp D with e|e
      .exact ag q e
      .have:q=p:=by simpa using e
       rw[this];exact pS
     .rw[Tt,l]at D;rcases Gi.mp D with e|e
      .obtain⟨p',h1,R⟩:=al q e;exact{p',Gv _ h1,R}
      .have:q=p:=by simpa using e
       rw[this];exact{p,by simp,1}
   ac_nf;have(Q,aR,aT,aU,aV,aW):=aX;intros;exact{2,ai,1,{Qb,Zf (λc xs b=>aF b) (by rw[<-aD];exact D8.keys.put k8)},{Q,aR,Qr aT λ_ _ e=>{e.1,e.2.kp aF (λb _=>a0 b)},aU,aV,aW},Ql (M _ _ ao) nf,Ql (M _ _ (J _ _ ac)) fl,λc u b H=>Ql (M _ _ (J _ _ (ad c u b H))) (Qd (t2 _ _ b) ap)}
 .rintro L G ⟨x2,x4,z,rfl,D5,⟨o,a6,ar,aw,ag,al⟩,aO,ac,ad⟩;rw[V4,Tu]at al;exists g,ac;have t6:Q5 I (zj G h.l (.dK (dS x.S λp=>jv (x.zu p)))):=λc u b=>by
   by_cases e:c=h.l
   .subst e;rw[Qb,<-b];exact X.le.symm
   .exact Ql (ad c u b e) e
  have aA:∀{c:Ge}{xs:List V},G c/.tup xs->(zj G h.l (.dK (dS x.S λp=>jv (x.zu p)))) c/.tup xs:=λb=>Ql b (Ys b ac nofun);have aQ:∀{c:Ge}{xs:List V},G c/.lst xs->(zj G h.l (.dK (dS x.S λp=>jv (x.zu p)))) c/.lst xs:=λb=>Ql b (Ys b ac nofun);have D6:DH P w (zj G h.l (.dK (dS x.S λp=>jv (x.zu p)))) r z:={Ql D5.at_ (GQ fl),Zf (λc xs b=>aA b) D5.keys};have ay:Dm (jr d x m (λc=>∃g,I c/g) (zj G h.l (.dK (dS x.S λp=>jv (x.zu p))))) z o:=Qr ar λ_ _ e=>{e.1,e.2.kp aA (λb _=>aQ b)};generalize zj G h.l (.dK (dS x.S λp=>jv (x.zu p)))=H6 at t6 D6 ay;refine{0,{r,z,1,D6.at_},r,z,11,D6,λQ aP=>?_};have s7:=Qf aP (vvw Q r);have D7:DH P w (zj H6 Q (vvw Q r)) r z:={s7 _ _ D6.at_,Zf (Q8.of s7) D6.keys};refine{Q,r,z,1,Qb,D7,λE Y=>?_};have s8:=Qf Y (.lst (z.map λp=>p.2.2));have az:=s7.trans s8;refine q ↑E (o.map (Vw d x m)) _ (t6.trans az) {E,0,Qb,(by rintro⟨g,eo⟩;rw[s7.free Y|>t6.free]at eo;cases eo),?_} {{m,aM,λp l=>?_,λB N=>?_},?_}
  .have ax:∀{J:Hp},Q5 H6 J->∀{z:List KE}{o:List Nat},Dm (jr d x m (λc=>∃g,I c/g) H6) z o->Dm (Jc J (λc=>∃g,I c/g)) (z.map λp=>p.2.2) (o.map (Vw d x m)):=λ{J}M{z o}e=>by
    induction e with
    |nil=>exact .nil
    |cons e t T=>exact .cons (e.2.kp (λb=>M _ _ b) (λb _=>M _ _ b)) T
   exact ax az ay
  .obtain⟨p',h1,R⟩:=al p l;have Y:=aJ.cong (ag p' h1) l R;refine Tv.mpr {p',h1,?_};simp only[Zt,EJ]at R;unfold Vw;rw[R.1,Y];congr 2;have:=congrArg (Mq m) R.2;rw[Ds,Ds]at this;exact this
  .obtain⟨p,l,rfl⟩:=Tv.mp N;exact{p,ag p l,1}
  .rw[Ds];have:∀{o:List Nat},(∀p∈o,p∈x.S)->(o.map λp=>Zt (Yu d) (Zx d) x.zu p).Nodup->(o.map ((λB:Row=>(B.1,B.2.1))∘Vw d x m)).Nodup:=by
    intro o M nd;unfold IK at nd⊢;rw[Bd]at nd⊢;refine C0 (λ{a c}ha H e aa=>e ?_) nd;simp only[Ac,Vw,EJ]at aa;simp only[Zt,EJ];exists aa.1;have aS:=M a ha;have bS:=M c H;have aC:∀{E A:List Nat},(∀q∈E,q∈x.S)->(∀q∈A,q∈x.S)->E.map (λq=>m (x.zu q))=A.map (λq=>m (x.zu q))->E.map x.zu=A.map x.zu:=by
     intro E;induction E with
     |nil=>intro A _ _ b;cases A with
      |nil=>rfl
      |cons _ _=>simp at b
     |cons u E T=>
      intro A Y hm b;cases A with
      |nil=>simp at b
      |cons J A=>simp only[TC,DP]at b⊢;exact{aM u (Y u G8) J (hm J G8) b.1,T (λq D=>Y q (Gr _ D)) (λq D=>hm q (Gr _ D)) b.2}
    exact aC (FO.Ol a aS) (FO.Ol c bS) aa.2
   exact this ag aw
def Wx(fs:List Fm)(a:Lk):List (Nat×Nat):=match a.2.2 with
 |none=>(Zx fs a.1).zip (Zx fs a.2.1)
 |some _=>[]
inductive Ko(P:Gn)(w:Ti)(C:Ge)(vs:List V)(H:Hp)(Q:VK):Prop
 |mk (n:Ge) (A:Na) (fs:List Fm) (tb:Nat) (x:Nn) (v:V) (lk:Lk) (h0:vs=[↑n,v]) (h1:Yk P w C H n A fs tb x) (h2:Og H v lk) (h3:lk.1<⇑fs) (h4:lk.2.1<⇑fs) (h5:∀(r:Ge)(es:List V)(H':Hp),Q5 H H'->H r=Gp->H' r/.lst es->Dm (nB H') es (Wx fs lk)->Q ↑r H'):Ko P w C vs H Q
def qr(P:Gn)(w:Ti)(C:Ge):Sp:=λa H Q _=>Ko P w C a H Q
structure Nd(fs:List Fm)(x:Nn)(one other:Nat)(ns:List Nat):Prop where
 lt:∀k∈ns,k<⇑x.zm
 top:∀st,ir x.up one other st->∀p q,(p,q)∈st->∀k,x.Xs p q/k->k∈ns
 low:∀k∈ns,∀lk,x.zm[k]?/lk->∀p q,(p,q)∈Wx fs lk->∀st,ir x.up p q st->∀u v,(u,v)∈st->∀j,x.Xs u v/j->j∈ns/\j<k
 only:∀k∈ns,∃st p q j,ir x.up one other st/\(p,q)∈st/\x.Xs p q/j/\k<=j
inductive yG(P:Gn)(w:Ti)(C:Ge)(vs:List V)(H:Hp)(Q:VK):Prop
 |mk (n:Ge) (A:Na) (fs:List Fm) (tb:Nat) (x:Nn) (one:Nat) (other:Nat) (h0:vs=[↑n,jv one,jv other]) (h1:Yk P w C H n A fs tb x) (h2:Wy (Yu fs) (Zx fs) x []) (h3:iP fs x.S) (h4:one∈x.S) (h5:other∈x.S) (h6:x.zu one=x.zu other) (h7:⇑x.S<=1000) (h8:⇑x.zm<64) (h9:∀(r:Ge)(ns:List Nat)(H':Hp),Q5 H H'->H r=Gp->H' r/.lst (ns.map jv)->ns.Nodup->ns.Pairwise (·<=·)->Nd fs x one other ns->Q ↑r H'):yG P w C vs H Q
def vz(P:Gn)(w:Ti)(C:Ge):Sp:=λa H Q _=>yG P w C a H Q
theorem vI{r:Option Ia}(h:kM H v r):decide (v=V.non)= !r.isSome:=by
 cases r with
 |none=>rw[show v=V.non from h];rfl
 |some r=>
  cases r with
  |told n=>have(c,rfl,_):=h;rfl
  |asked=>have(c,rfl,_):=h;rfl
theorem ng(I:Wy (Yu fs) (Zx fs) x []){d:Lk}(g:x.zm[k]?/d)(c:(p,q)∈Wx fs d):p∈x.S/\q∈x.S/\Cn (x.zm.take k) p q:=by
 have(a,b,r):=d;have(e,f,h):=I.lnk k a b r g;cases r with
 |some r=>simp[Wx]at c
 |none=>simp only[Wx]at c;have(_,j,h):=h rfl;have(i,hi):=Dh.mp c;rw[LM]at hi;exact{I.pt_ a e p (Gc hi.1),I.pt_ b f q (Gc hi.2),h i p q hi.1 hi.2}
theorem AY:Q4 ["net","link"] ["net","link"] (Qm nD):=by eq_refl
theorem Pq(F:Wc K "pairs_below" "pairs_below" nD f fd)(b:Jb K mg C)(i:Ie mg):Qz P w K mg base Z4 1 f fd ["net","link"] (qr P w C):=by
 refine F.ok AY (λvs E H D g=>?_) (λad a ae s E vs H D hr g=>?_)
 .obtain⟨n,a,T,tb,x,ab,y,rfl,_⟩:=g;rfl
 have(n,a,T,tb,x,ab,y,rfl,X,(e,A,rfl,h,aa),u,v,q):=g;have nd:=AY.nd;show∃t,Wf ?my _ t/\_;let ac:Vr ?my nD 1:={_,Qg (Qu (wF rfl rfl i.list rfl i.zip (Qa (Qn Qt (Qn Q9 (Qx {0}) (Qn Qt {1} Qj)) Qj) (Qa (Qn Qt (Qn Q9 (Qx {0}) (Qn Qt {1} Qj)) Qj) Qe))))}
 exists _,Qc (Zc (Qo lW (Qn Qt {1} Qj) Jk (Qs _)) (Qg (Qu (Zz Qe))) Qw) ac.2;exists 0,e,201,Qk h,jz _ _ _ _,10;rw[vI aa];have(I,J,B):=y;cases B with
 |some B=>refine Yw {Tw _,λp c=>?_};exact q p [] _ (Qf c _) c Qb .nil
 |none=>
  refine Q6 ?_;have(j,z):=X.ob;have(d,k,c):=X.fo;have l:I<⇑d:=by rw[GJ c];exact u
  have m:J<⇑d:=by rw[GJ c];exact v
  have(y1,o,L,N,Q,U,W):=Qy c (Gf l);have(y2,r,M,O,R,V,Y):=Qy c (Gf m);rw[la u]at o;rw[la v]at r;cases o;cases r;exists 0,n,C,j,30,z,b.cl,b.Qer,Jw _,0,e,201,Qk h,Of _ _,a.f,d,301,Qi k,Zi (Gf l),L,32,Q,1,Qk U,Rp _ _ _;exists 0,n,C,j,30,z,b.cl,b.Qer,Jw _,0,e,201,Qk h,Rp _ _ _,a.f,d,301,Qi k,Zi (Gf m),M,32,R,1,Qk V,Rp _ _ _;exact{N,O,30,.inr {Qk W,Qk Y},λA S G sm r0 Z pr=>q A S G sm r0 Z (Kp pr)}
theorem uo(U:Jb K mg C){G:List V}{N0:List Nat}{O Q f R S T:Option V}{t:Ends}
  (X:Yk P w C H n A fs tb x)(g1:Q5 H H1)(d0:H d=Gp)(I:H1 d/.dK (dS N0 λ_=>V.bl Gk))(hL:H1 L/.lst G)(aa:Dm (nB H1) G st)(J:∀p q,(p,q)∈st->∃k,x.Xs p q/k/\k<m)(ak:N0.Nodup)(h:m<=64)(hN:∀k∈N0,k<64)
  (q:∀b f e,b.Nodup->(∀k∈N0,k∈b)->(∀k∈b,k∈N0\/(k<m/\∃p q,(p,q)∈st/\x.Xs p q/k))->(∀p q k,(p,q)∈st->x.Xs p q/k->k∈b)->Rb d H1 e->e d/.dK (dS b λ_=>V.bl Gk)->t.nx [Ga ↑n,O,Q,Ga ↑d,f,R,S,T] e):
  ∃W:Nat->Nat->St->Hp->Prop,(∃m,W 0 m [Ga ↑n,O,Q,Ga ↑d,f,R,S,T] H1)/\∀i m g H,W i m g H->
   ((iS K L).stop i H/\t.nx g H)\/((iS K L).go i H/\∃b:St->Hp->Prop,(∀o e,b o e->∃h,h<m/\W (i+1) h o e)/\∀x e,(iS K L).yld i H x e->Wt 4 x g e λu H2=>wu (Vi 3) (l8 (oV K (Vi 0) "link_at") (Vi 4)) (tC (V.bl Gk)) {t with nx:=b,ct:=b,bk:=t.nx} u H2):=by
 have(dx,o1):=X.ob;have(aq,z,ao,af):=X.at_;have Ld:L≠d:=Ys hL I nofun;let am:Nat->St->Hp->Prop:=λi g H2=>jT λ(f:Option V)(b:List Nat)=>jD (g=[Ga ↑n,O,Q,Ga ↑d,f,R,S,T]) (b.Nodup) (∀k∈N0,k∈b) (∀k∈b,k∈N0\/(k<m/\∃p q,(p,q)∈st/\x.Xs p q/k)) (∀p q k,(p,q)∈st.take i->x.Xs p q/k->k∈b) (Rb d H1 H2) (H2 d/.dK (dS b λ_=>V.bl Gk))
 refine Yv (K:=K) (a:=L) (xs:=G) am
  {f,N0,1,ak,λ_ c=>c,λ_ c=>.inl c,by simp,Rb.refl,I} (by rintro i g H2 _ ⟨_,_,_,_,_,_,_,Y,_⟩;exact Qi (Y _ _ hL Ld)) ?_ ?_
 .rintro i y g H2 hi ⟨f,b,rfl,r,D,s,E,l,F⟩;have((p,h),he,v,rfl,hc):=Qy aa hi;have ac:(p,h)∈st:=Gc he;have(k,M,ai):=J p h ac;have nd1:n≠d:=Qd o1 d0;have aj:A.a≠d:=Qd z d0;have o2:=l _ _ (g1 _ _ o1) nd1;have ae:=l _ _ (g1 _ _ z) aj;have ag:=l _ _ hc (Ys hc I nofun);have dg:Vv H2 A.a ↑v (Ga (jv k)):=by have:=Vv.t (k:=[ki p,ki h]) ae (show H2 v/(.tup ([ki p,ki h].map kV))from ag);rw[af p h,M]at this;exact this
  have ap:⇑b<=64:=by have:⇑b<=⇑(So 64):=X5 r λk J=>Sq.mpr ((s k J).elim (hN k) (λc=>by have:=c.1;ext));rwa[Sa]at this
  have dp:=Oe.k (k:=ki k) (v:=V.bl Gk) F (by rw[V4,TD];ext);exists 00,n,C,dx,30,o2,U.cl,U.Qdp,pE _,0,A.a,0,dg,d,0,dp;have Z:Rb d H1 (zj H2 d (.dK (V7 (dS b λ_=>V.bl Gk) (ki k) (V.bl Gk)))):=λv al ad c=>Ql (l v al ad c) c;have tk:∀{u:List Nat},(∀j∈b,j∈u)->k∈u->∀p q k,(p,q)∈st.take (i+1)->x.Xs p q/k->k∈u:=λ{u}hs ah p' q' k' ab N=>by
   rw[Tt,he]at ab;rcases Gi.mp ab with c|c
   .exact hs _ (E p' q' k' c N)
   .have:(p',q')=(p,h):=by simpa using c
    cases this;rw[M]at N;cases N;exact ah
  by_cases B:k∈b
  .exists _,b,1,r,D,s,tk (λ_ c=>c) B,Z;rw[Qb,si B];congr 2;exact Vt λp _=>by split<;>rfl
  .exists _,b++[k],1,DO.mpr {r,by simp,λa z Y hb=>by simp at hb;subst hb;exactλan=>B (an▸z)},λj o=>Gv _ (D j o),λj o=>?_,tk (λj o=>Gv _ o) ⋯,Z
   .rcases Gi.mp o with c|c
    .exact s j c
    .have:j=k:=by simpa using c
     rw[this];exact .inr ⟨ai,p,h,ac,M⟩
   .rw[Qb,kL B];congr 2;exact Vt λp _=>by split<;>rfl
 .rintro g H2 ⟨f,b,rfl,r,D,s,E,l,F⟩;rw[GJ aa,Tu]at E;exact q b f H2 r D s E l F
theorem vE:Q4 ["net","one","other","needed","step","number","part","twin"] ["net","one","other"] (Qm Ir):=by eq_refl
theorem ZH(F:Wc K "links_needed" "links_needed" Ir f fd)(I:Jb K mg C)(al:Ie mg)(mW:Ym K C "way" fW)(GW:Qz P w K mg base Z4 2 fW fdW ["self","one","other"] (qG P w C))(bW:zk K fdW ["self","one","other"] [])
  (GB:Qz P w K mg base Z4 1 fB fdB ["net","link"] (qr P w C))(kB:KI K fB)(bB:zk K fdB ["net","link"] [])(mB:MG mg "pairs_below" fB):
  Qz P w K mg base Z4 3 f fd ["net","one","other"] (vz P w C):=by
 refine F.ok vE (λZ af m l b=>?_) (λa6 Q ba s af Z m l hr b=>?_)
 .obtain⟨n,Q,D,tb,x,aj,ak,rfl,_⟩:=b;rfl
 have(n,Q,D,tb,x,aj,ak,rfl,X,aa,FO,oS,tS,he,hS,a9,q):=b;have hu:=Jy hr;have aO:Yd 1 _:=hr.mono ∅;have nd:=vE.nd;show∃t,Wf ?my _ t/\_;let aY:Subtype (Wf ?my (sub [2,0,0,0,0,0] (Zd Ir))):={_,Qg (Z9 To rfl (Z6 (Zk {0} I.cl mW GW hr bW .nil Q7 (Qa {6} (Qa {7} Qe)))) (Zv 4 nd) (Qg (Vm hu {3} (Yb hu (Qx {0}) {4} (λ_ _=>rfl)) Z7 Xb)))}
 let aZ:Subtype (Wf ?my (sub [2,0,0,0] (Zd Ir))):={_,Qg (Z9 To rfl (Z6 (Ze GB aO rfl mB kB bB .nil Q7 (Qa {0} (Qa (Qn Q9 (Qx {0}) {5}) Qe)))) (Wi rfl (Zb (Zv 6 nd) (Zb (Zv 7 nd) Xt))) aY.2)}
 let a0:Vr ?my Ir 2:={_,Qc (Z9 To rfl (Q0b rfl al.range (Qa (Zy jQ (Qp Zm rfl al.len Tp (Qa (Qx {0}) Qe)) Qj) (Qa (Jo Vl Qj) (Qa (Jo Vl Qj) Qe)))) (Zv 5 nd) (Qg (Zc (Ow (px hu {5} {3})) aZ.2 Qw))) (Qg (Qu (Qp (Qjy Xb) rfl al.sorted C2 (Qa {3} Qe))))}
 let a4:Vr ?my Ir 1:={_,Qc (Z9 To rfl (Z6 (Zk {0} I.cl mW GW hr bW .nil Q7 (Qa {1} (Qa {2} Qe)))) (Zv 4 nd) (Qg (Vm hu {3} (Yb hu (Qx {0}) {4} (λ_ _=>rfl)) Z7 Xb))) a0.2}
 exists _,Qc (Q3 3 nd Jz) a4.2;intro d d0;have s1:=Qf d0 (.dK []);have(dx,o1):=X.ob;have(ls,av,ax):=X.li;have aT:=GJ ax;have aP:∀p q k,x.Xs p q/k->k<⇑x.zm:=λp q k b=>by obtain⟨N,b|b⟩:=aa.fst.Qih p q k b<;>exact(Gg.mp b).1
 refine{0,n,dx,0,s1 _ _ o1,sQ _,00,n,Q,D,tb,x,aj,ak,1,X.same s1,aa,oS,tS,he,hS,λaz es r H2 g2 L0 hL aH W=>{az,1,{_,Qi hL},?_}};refine uo I X (s1.trans g2) d0 (N0:=[]) (g2 _ _ Qb) hL aH (m:=⇑x.zm) (λp q b=>?_) SY ∅ (λk c=>nomatch c) λe H H3 S i1 i2 i3 bt e3=>?_
 .obtain⟨k,o,h⟩:=W.lk p q b;exact{k,o,aP _ _ _ o}
 have g3:Q5 af H3:=λA ao v=>bt _ _ (g2 _ _ (s1 _ _ v)) (Qd v d0);exists 0,n,C,dx,30,g3 _ _ o1,I.cl,I.zm,Js _,Q.k,0,.inl (Qi (g3 _ _ av)),30100,⇑x.zm,by rw[aT],∅;let aW:Nat->St->Hp->Prop:=λi O H4=>iZ λ(H x5 U Y:Option V)(e:List Nat)=>iu (O=[Ga ↑n,Ga (jv aj),Ga (jv ak),Ga ↑d,H,x5,U,Y]) (Q5 af H4) (H4 d/.dK (dS e λ_=>V.bl Gk)) (e.Nodup) (∀k∈e,k<⇑x.zm) (∀p q k,(p,q)∈r->x.Xs p q/k->k∈e) (∀k∈e,∃p q j,(p,q)∈r/\x.Xs p q/j/\k<=j) (∀k∈e,⇑x.zm - i<=k->∀z,x.zm[k]?/z->∀p q,(p,q)∈Wx D z->∀r,ir x.up p q r->∀u g,(u,g)∈r->∀j,x.Xs u g/j->j∈e/\j<k)
 refine Qwc aW
  {22,e,1,g3,e3,S,λk c=>(i2 k c).elim nofun (·.1),i3,λk c=>(i2 k c).elim nofun (by rintro⟨_,p,q,o,h⟩;exact{p,q,k,o,h,Gy _}),λk c b=>?_} ?_ ?_
 .have:=(i2 k c).elim nofun (·.1);ext
 .rintro i O H4 hi ⟨H,x5,U,Y,e,rfl,B,R,S,ab,ai,ae,ah⟩;have aF:((⇑x.zm:Int) - 1 - (i:Int))=((⇑x.zm - 1 - i:Nat):Int):=by ext
  rw[aF];generalize a8:⇑x.zm - 1 - i=l;have kl:l<⇑x.zm:=by ext
  have dg:Vv H4 d (jv l) (Xq (dS e λ_=>V.bl Gk) (ki l)):=Vv.k (k:=ki l) R;exists 00,d,0,dg,0;rw[Kv];by_cases ag:l∈e
  .rw[Tk ag];refine Yw ?_;have au:l<⇑ls:=by ext
   ac_nf;have(z,ad,aQ):=Qy ax (Gf au);have aR:=aQ.Qv (Q8.of B);have(a,A,rs):=z;have(aS,bS,_):=aa.lnk l a A rs ad;intros;refine{00,n,C,dx,30,B _ _ o1,I.cl,I.zm,Js _,0,Q.k,ls,301,Qi (B _ _ av),Zi (Gf au),n,Q,D,tb,x,_,(a,A,rs),1,X.same B,aR,FO.lt a aS,FO.lt A bS,λL5 aG H5 g5 aA ap ar=>{L5,1,{_,Qi ap},?_}};have aB:L5≠d:=GQ (Qd R aA);have aU:∀{m:List Nat}{i':Nat},(∀k∈e,k∈m)->(∀k∈m,k∈e\/k<l)->(∀p q,(p,q)∈Wx D (a,A,rs)->∀r,ir x.up p q r->∀u g,(u,g)∈r->∀j,x.Xs u g/j->j∈m/\j<l)->
     ∀k∈m,⇑x.zm - (i+1)<=k->∀z,x.zm[k]?/z->∀p q,(p,q)∈Wx D z->∀r,ir x.up p q r->∀u g,(u,g)∈r->∀j,x.Xs u g/j->j∈m/\j<k:=λ{m i'}a1 a2 a3 k c b z am p q E T G u g L j J=>by
    rcases Dn k (⇑x.zm - i)with h|h
    .have:k=l:=by ext
     subst this;rw[ad]at am;cases am;exact a3 p q E T G u g L j J
    .have aK:k∈e:=(a2 k c).elim id λay=>by ext
     have(b1,b2):=ah k aK h z am p q E T G u g L j J;exact{a1 _ b1,b2}
   let aX:Nat->St->Hp->Prop:=λi5 O Z=>iE λ(H U Y:Option V)(m:List Nat)=>jD (O=[Ga ↑n,Ga (jv aj),Ga (jv ak),Ga ↑d,H,Ga (jv l),U,Y]) (Rb d H5 Z) (Z d/.dK (dS m λ_=>V.bl Gk)) (m.Nodup) (∀k∈e,k∈m) (∀k∈m,k∈e\/k<l) (∀p q,(p,q)∈(Wx D (a,A,rs)).take i5->∀r,ir x.up p q r->∀u g,(u,g)∈r->∀j,x.Xs u g/j->j∈m/\j<l)
   refine Yv (K:=K) (a:=L5) (xs:=aG) aX
    {32,e,1,Rb.refl,g5 _ _ R,S,λ_ b=>b,λ_ b=>.inl b,by simp} (by rintro i5 O Z _ ⟨_,_,_,_,_,bt,_⟩;exact Qi (bt _ _ ap aB)) ?_ ?_
   .rintro i5 y O Z aJ ⟨H,U,Y,m,rfl,ac,e6,an,sub,only,done⟩;ac_nf;have((p,N),aw,aD,rfl,hc):=Qy ar aJ;have aN:(p,N)∈Wx D (a,A,rs):=Gc aw;have(pS,rS,cn):=ng aa ad aN;intros;have g6:Q5 af Z:=λA ao v=>ac _ _ (g5 _ _ (B _ _ v)) (Qd v d0);have aM:x.zu p=x.zu N:=(aa.conn p pS N rS).mpr (cn.mono λay hz=>DL hz);have c6:=ac _ _ hc (Ys hc (g5 _ _ R) nofun);exists aD,0,Qk c6,130301;refine{0,n,dx,0,g6 _ _ o1,sQ _,00,n,Q,D,tb,x,p,N,1,X.same g6,aa,pS,rS,aM,hS,λL7 a7 bb H7 g7 a5 aq aI W7=>{L7,1,{_,Qi aq},?_}};refine uo I X (g6.trans g7) d0 (N0:=m) (g7 _ _ e6) aq aI (m:=l) (λp q b=>?_) an ∅ (λk c=>?_) λN8 H H8 aV i1 i2 i3 aC e8=>?_
    .obtain⟨k,o,h⟩:=W7.lk p q b;exact{k,o,h l cn}
    .rcases only k c with b|b
     .have:=ab k b;ext
     .ext
    .refine{32,N8,1,λA ao v b=>aC _ _ (g7 _ _ (ac _ _ v b)) b,e8,aV,λk c=>i1 k (sub k c),λk c=>(i2 k c).elim (only k) (λb=>.inr b.1),λp' M E T G u g L j J=>?_};rw[Tt,aw]at E;rcases Gi.mp E with b|b
     .obtain⟨b1,b2⟩:=done p' M b T G u g L j J;exact{i1 _ b1,b2}
     .have:(p',M)=(p,N):=by simpa using b
      cases this;have:=G.uniq W7.rel;subst this;have(k,o,h):=W7.lk u g L;rw[J]at o;cases o;exact{i3 u g j L J,h l cn}
   .rintro O Z ⟨H,U,Y,m,rfl,ac,e6,an,sub,only,done⟩;rw[GJ ar,Tu]at done;exact{22,m,1,λA ao v=>ac _ _ (g5 _ _ (B _ _ v)) (Qd v d0),e6,an,λk c=>(only k c).elim (ab k) (λb=>by ext),λp q k o h=>sub _ (ai p q k o h),λk c=>(only k c).elim (ae k) (λb=>by have(p,q,j,o,h,h3):=ae l ag;exact{p,q,j,o,h,by ext}),aU (i':=0) sub only done}
  .rw[Tj ag];refine Q6 {22,e,1,B,R,S,ab,ai,ae,λk c b=>?_};rcases Dn k (⇑x.zm - i)with h|h
   .have:k=l:=by ext
    exact absurd (this▸c) ag
   .exact ah k c h
 .rintro O H4 ⟨H,x5,U,Y,e,rfl,B,R,S,ab,ai,ae,ah⟩;have aL:⇑e<64:=by have:⇑e<=⇑(So x.zm.length):=X5 S λk c=>Sq.mpr (ab k c);rw[Sa]at this;ext
  refine{0,d,_,e.map (λk:Nat=>(k:Int)),1,R,?_,by rw[V4];exact aL,λN l r0 Z hs=>?_}
  .unfold dS;rw[Ds,Ds];rfl
  have aE:l=(l.map DZ).map (λk:Nat=>(k:Int)):=by rw[Ds];refine(FH l).symm.trans (De λay hz=>?_);have:=Z.mem_iff.mp hz;have(k,_,rfl):=Tv.mp this;rfl
  have m:(l.map DZ).Perm e:=by
   have:=Z.map DZ;rw[Ds]at this;have v:(e.map (DZ∘λk:Nat=>(k:Int)))=e:=by refine(De λk _=>?_).trans (FH e);rfl
   rwa[v]at this
  have eo:HO.lst (l.map V.int)=HO.lst ((l.map DZ).map jv):=by
   congr 1
   conv=>lhs;rw[aE]
   rw[Ds];rfl
  have pw:(l.map DZ).Pairwise (·<=·):=by rw[Bd];exact hs.imp λb=>by ext
  rw[eo];refine q N (l.map DZ) _ (B.trans (Qf r0 _)) (B.free r0) Qb (m.nodup_iff.mpr S) pw {λk c=>ab k (m.mem_iff.mp c),λT G p M E k c=>?_,λk c z ad p M E T G u g L j J=>?_,λk c=>?_}
  .have:=G.uniq W.rel;subst this;exact m.mem_iff.mpr (ai p M k E c)
  .obtain⟨b1,b2⟩:=ah k (m.mem_iff.mp c) ∅ z ad p M E T G u g L j J;exact{m.mem_iff.mpr b1,b2}
  .subst_vars;have(p,M,j,o,h,h3):=ae k (m.mem_iff.mp c);intros;exact{r,p,M,j,W.rel,o,h,h3}
end
inductive Lr where
 |told (n:Nat)
 |asked
 |turn (k:Nat)
 |chain (ks:List Nat)
 |like (ks:List Nat)
abbrev Ln:=Nat×Nat×Lr
variable{ls:List Ln}
def oD(a:List Ln):Nat->List Nat->Nat->Prop
 |p,[],q=>p=q
 |p,k::b,q=>∃m r,a[k]?/(p,m,r)/\oD a m b q
def jG(fs:List Fm)(d:List Lk)(c:List Ln)(a b:Nat):Lr->Prop
 |.told n=>(a,b,Ga (.told n))∈d
 |.asked=>(a,b,Ga .asked)∈d
 |.turn k=>∃r,c[k]?/(b,a,r)
 |.chain e=>oD c a e b
 |.like e=>Yu fs a=Yu fs b/\⇑(Zx fs a)=⇑(Zx fs b)/\⇑e=⇑(Zx fs a)/\∀j k p q:Nat,e[j]?/k->(Zx fs a)[j]?/p->(Zx fs b)[j]?/q->∃r,c[k]?/(p,q,r)
def iW(fs:List Fm)(c:List Lk)(ls:List Ln):Prop:=∀(i a b:Nat)r,ls[i]?/(a,b,r)->jG fs c (ls.take i) a b r
theorem iW.nil:iW fs lks []:=λi a b r h=>by simp at h
theorem iW.snoc{r:Lr}(g:iW fs lks ls)(h:jG fs lks ls a b r):iW fs lks (ls++[(a,b,r)]):=λi e f j hi=>by
 rcases Dn i ⇑ls with c|c
 .rw[Tz c]at hi;rw[FG (by lia)];exact g i e f j hi
 .rw[Dc c]at hi;have:i=⇑ls:=by
   rcases Dn (i - ⇑ls) 1 with d|d
   .lia
   .rw[Dl (by simpa using d)]at hi;cases hi
  subst this;simp at hi;have(rfl,rfl,rfl):=hi;rw[List.take_left];exact h
def Rc(H:Hp)(X:Ge->Prop)(v:V):Lr->Prop
 |.told n=>∃c,v=.ref c/\H c/.tup [.str "told",jv n]
 |.asked=>∃c,v=.ref c/\H c/.tup [.str "asked"]
 |.turn k=>∃c,v=.ref c/\H c/.tup [.str "turn",jv k]
 |.chain a=>∃c l,v=.ref c/\H c/.tup [.str "chain",↑l]/\H l/.lst (a.map jv)/\¬X l/\⇑a<=1000000
 |.like a=>∃c l,v=.ref c/\H c/.tup [.str "like",↑l]/\H l/.lst (a.map jv)/\¬X l/\⇑a<=1000000
inductive iM(H:Hp)(X:Ge->Prop)(us:List V)(v:V)(l:Ln):Prop
 |mk (c:_) (v1:_) (v2:_) (rv:_) (h0:v=↑c) (h1:H c/.tup [v1,v2,rv]) (h2:us[l.1]?/v1) (h3:us[l.2.1]?/v2) (h4:Rc H X rv l.2.2):iM H X us v l
structure Ra(L M:Ge)(H H':Hp):Prop where
 keep:∀b o,H b/o->b≠L->b≠M->H' b/o
 there:∀b,H' b=Gp->H b=Gp
theorem Ra.refl:Ra L M H H:={λ_ _ e _ _=>e,λ_ h=>h}
theorem Ra.trans{d:Hp}(a:Ra L M H H1)(b:Ra L M H1 d):Ra L M H d:={λc o e f g=>b.keep c o (a.keep c o e f g) f g,λc h=>a.there c (b.there c h)}
theorem Ra.of(g:Q5 H H1):Ra L M H H1:={λc o e _ _=>g c o e,λc h=>g.free h}
theorem Rc.kp(e:∀{c:Ge}{f:List V},H c/.tup f->H' c/.tup f)(j:∀{c:Ge}{f:List V},H c/.lst f->¬X c->H' c/.lst f):∀{r:Lr},Rc H X v r->Rc H' X v r:=by
 intro r h;cases r with
 |told n=>have(c,a,b):=h;exact{c,a,e b}
 |asked=>have(c,a,b):=h;exact{c,a,e b}
 |turn k=>have(c,a,b):=h;exact{c,a,e b}
 |chain m=>have(c,l,a,b,g,d,i):=h;exact{c,l,a,e b,j g d,d,i}
 |like m=>have(c,l,a,b,g,d,i):=h;exact{c,l,a,e b,j g d,d,i}
theorem iM.kp{X:Ge->Prop}{H b:Hp}(d:∀{c:Ge}{a:List V},H c/.tup a->b c/.tup a)(m:∀{c:Ge}{a:List V},H c/.lst a->¬X c->b c/.lst a){e:List V}{v:V}{l:Ln}(h:iM H X e v l):iM b X e v l:=by have(c,o,p,n,f,g,i,j,k):=h;exact{c,o,p,n,f,d g,i,j,k.kp d m}
theorem Rc.ex{Y:Ge->Prop}(g:∀c a,H c/.lst a->¬X c->¬Y c):∀{r:Lr},Rc H X v r->Rc H Y v r:=by
 intro r h;cases r with
 |told n=>exact h
 |asked=>exact h
 |turn k=>exact h
 |chain i=>have(c,l,b,d,a,e,f):=h;exact{c,l,b,d,a,g _ _ a e,f}
 |like i=>have(c,l,b,d,a,e,f):=h;exact{c,l,b,d,a,g _ _ a e,f}
theorem iM.ex{X Y:Ge->Prop}{H:Hp}(i:∀c b,H c/.lst b->¬X c->¬Y c){a:List V}{v:V}{l:Ln}(h:iM H X a v l):iM H Y a v l:=by have(c,k,m,j,b,d,e,f,g):=h;exact{c,k,m,j,b,d,e,f,g.ex i}
set_option genInjectivity false in
structure Sv where
 sh:Ge
 n:Ge
 t:Ge
 L:Ge
 M:Ge
 A:Na
 fs:List Fm
 tb:Nat
 x:Nn
 us:List V
 H0:Hp
 Ex:Ge->Prop
noncomputable def jy(v:Sv):List (TQ×V):=[("things",↑v.t),("net",↑v.n),("lines",↑v.L),("numbers",↑v.M)]
structure Vu(P:Gn)(w:Ti)(C D:Ge)(v:Sv)(H:Hp)(ls:List Ln)(N:Nat->Nat->Option Nat):Prop where
 ob:∃dx,H v.sh/.ins D dx (jy v)
 sam:Q5 v.H0 H
 L0:v.H0 v.L=Gp
 M0:v.H0 v.M=Gp
 net:Yk P w C v.H0 v.n v.A v.fs v.tb v.x
 th:v.H0 v.t/.lst v.us
 li:∃vs,H v.L/.lst vs/\Dm (iM H v.Ex v.us) vs ls
 nu:∃zw,H v.M/.dT zw/\⇑zw<=⇑ls/\∀i j:Nat,Xq zw [ki i,ki j]=(N i j).map jv
 ok:∀i j k,N i j/k->∃r,ls[k]?/(i,j,r)
 good:iW v.fs v.x.zm ls
 exL:v.Ex v.L
 exA:∀b,v.Ex b->∃o,H b/o
theorem Ra.tp{a:List (List Wl×V)}(F:Ra L M H H')(d:H M/.dT a)(b:H L/.lst xs){c:Ge}(e:H c/.tup ys):H' c/.tup ys:=F.keep _ _ e (Ys e b nofun) (Ys e d nofun)
theorem Ra.lp{a:List (List Wl×V)}(F:Ra L M H H')(d:H M/.dT a)(b:X L){c:Ge}(e:H c/.lst ys)(h:¬X c):H' c/.lst ys:=F.keep _ _ e (λz=>h (z▸b)) (Ys e d nofun)
theorem Vu.fr{v:Sv}(S:Vu P w C D v H ls N)(g:Q5 H H'):Vu P w C D v H' ls N:=by have(c,j):=S.ob;have(k,f,i):=S.li;have(a,n1,n2,n3):=S.nu;exact{{c,g _ _ j},S.sam.trans g,S.L0,S.M0,S.net,S.th,{k,g _ _ f,Qr i λ_ _ h=>h.kp (λe=>g _ _ e) (λe _=>g _ _ e)},{a,g _ _ n1,n2,n3},S.ok,S.good,S.exL,λb d=>let⟨o,e⟩:=S.exA b d;{o,g _ _ e}}
theorem Vu.more{v:Sv}(S:Vu P w C D v H ls N)(g:H r=Gp):Vu P w C D {v with Ex:=λb=>v.Ex b\/b=r} (zj H r (.lst [])) ls N:=by
 have a:=S.fr (Qf g (.lst []));have(n,k,l):=S.li;have(i,d,m):=a.li;have:i=n:=by rw[Qf g (.lst []) _ _ k]at d;cases d;rfl
 subst this;refine{a.ob,a.sam,a.L0,a.M0,a.net,a.th,{i,d,Qr l λ_ _ h=>(h.ex (Y:=λb=>v.Ex b\/b=r) λc o e j z=>?_).kp (λe=>Qf g _ _ _ e) (λe _=>Qf g _ _ _ e)},a.nu,a.ok,a.good,.inl a.exL,λb f=>?_}
 .rcases z with z|z
  .exact j z
  .rw[z,g]at e;cases e
 .rcases f with f|f
  .exact a.exA b f
  .exact{_,by rw[f];exact Qb}
theorem Vu.less{v:Sv}(S:Vu P w C D {v with Ex:=λb=>v.Ex b\/b=r} H ls N)(a:v.Ex v.L):Vu P w C D v H ls N:=by have(j,g,i):=S.li;exact{S.ob,S.sam,S.L0,S.M0,S.net,S.th,{j,g,Qr i λ_ _ h=>h.ex λc k e f z=>f (.inl z)},S.nu,S.ok,S.good,a,λb d=>S.exA b (.inl d)}
theorem Vu.grow{v:Sv}{s:List V}(S:Vu P w C D v H ls N)(m:v.Ex r)(c:H r/.lst ys)(j:r≠v.L)(i:v.H0 r=Gp):Vu P w C D v (zj H r (.lst s)) ls N:=by
 have(g,f):=S.ob;have(q,n,p):=S.li;have(d,n1,n2,n3):=S.nu;refine{{g,Ql f (Ys f c nofun)},λb o e=>Ql (S.sam _ _ e) (Qd e i),S.L0,S.M0,S.net,S.th,{q,Ql n (GQ j),Qr p λ_ _ h=>h.kp (λe=>Ql e (Ys e c nofun)) (λe l=>Ql e (λz=>l (z▸m)))},{d,Ql n1 (Ys n1 c nofun),n2,n3},S.ok,S.good,S.exL,λb k=>?_};by_cases a:b=r
 .exact{_,by rw[a];exact Qb}
 .obtain⟨o,e⟩:=S.exA b k;exact{o,Ql e a}
theorem Vu.same{v:Sv}(S:Vu P w C D v H ls N)(F:Ra v.L v.M H H'):Q5 v.H0 H':=λb o e=>F.keep b o (S.sam b o e) (Qd e S.L0) (Qd e S.M0)
noncomputable def putN(N:Nat->Nat->Option Nat)(a b m:Nat):Nat->Nat->Option Nat:=λi j=>if i=a/\j=b then Ga m else N i j
structure j7(K:Gd)(D:Ge):Prop where
 cl:ie K D
 things:Xh K D "things"
 net:Xh K D "net"
 lines:Xh K D "lines"
 Iu:Xh K D "numbers"
theorem uV(v:Sv):(jy v).lookup ("things":TQ)/↑v.t:=by rfl
theorem vo(v:Sv):(jy v).lookup ("net":TQ)/↑v.n:=by rfl
theorem qy(v:Sv):(jy v).lookup ("lines":TQ)/↑v.L:=by rfl
theorem V2(v:Sv):(jy v).lookup ("numbers":TQ)/↑v.M:=by rfl
theorem qW(v:Sv):(jy v).lookup ("write":TQ)=Gp:=by rfl
theorem Qhs(v:Sv):(jy v).lookup ("write_link":TQ)=Gp:=by rfl
theorem Oq(v:Sv):(jy v).lookup ("line_for":TQ)=Gp:=by rfl
inductive uq(P:Gn)(w:Ti)(C:Ge)(D:Ge)(vs:List V)(H:Hp)(Q:VK):Prop
 |mk (v:Sv) (ls:List Ln) (N:Nat->Nat->Option Nat) (a:Nat) (b:Nat) (rv:V) (r:Lr) (h0:vs=[↑v.sh,jv a,jv b,rv]) (h1:Vu P w C D v H ls N) (h2:a<⇑v.us) (h3:b<⇑v.us) (h4:Rc H v.Ex rv r) (h5:jG v.fs v.x.zm ls a b r) (h6:⇑ls<=1000000) (h7:∀H',Vu P w C D v H' (ls++[(a,b,r)]) (putN N a b ⇑ls)->Ra v.L v.M H H'->Q .non H'):uq P w C D vs H Q
def qK(P:Gn)(w:Ti)(C D:Ge):Sp:=λa H Q _=>uq P w C D a H Q
section
variable{P:Gn}{w:Ti}{K:Gd}{mg:TQ->Option Gh}{base:Heap}
theorem Q1g:Q4 ["self","one","other","reason"] ["self","one","other","reason"] (Qm rC):=by eq_refl
theorem Pv(F:Wc K "write" "Showing.write" rC f fd)(e:j7 K D)(X:Ie mg):Qz P w K mg base Z4 1 f fd ["self","one","other","reason"] (qK P w C D):=by
 refine F.ok Q1g (λg h aa Y a=>?_) (λah af aj s h g aa Y hr a=>?_)
 .obtain⟨v,ls,Z,b,c,z,R,rfl,_⟩:=a;rfl
 have(v,ls,Z,b,c,z,R,rfl,S,al,bl,ae,Yc,ai,q):=a;have hu:=Jy hr;exists _,Qc (Vm hu (Qx {0}) (Zg (Qa {1} (Qa {2} Qe))) (Qp Zm rfl X.len Tp (Qa (Qx {0}) Qe)) rfl)
  (Qg (Zl (Xx Te Tx TB Z0 (Qx {0}) (Qa (Zg (Qa (Qn Q9 (Qx {0}) {1}) (Qa (Qn Q9 (Qx {0}) {2}) (Qa {3} Qe)))) Qe))))
 ac_nf;have(l,o):=S.ob;have(g,n,O):=S.li;have(I,n1,n2,n3):=S.nu;intros;have ad:=GJ O;refine{0,v.sh,D,l,30,o,e.cl,e.lines,qy _,v.L,g,1,.inl (Qi n),0,v.sh,D,l,30,o,e.cl,e.Iu,V2 _,00,Yz,λE hc=>?_};have L:=Qf hc (.tup [jv b,jv c]);have dp:=Oe.t (k:=[ki b,ki c]) (v:=.int (⇑g:Int)) (L _ _ n1) (show(zj h E (.tup [jv b,jv c])) E/(.tup ([ki b,ki c].map kV))from Qb) (by rw[TD];lia);exists v.M,0,dp;have M:v.L≠v.M:=Ys n n1 nofun;have Q:v.sh≠v.M:=Ys o n1 nofun;have oL:v.sh≠v.L:=Ys o n nofun;generalize G:zj (zj h E (.tup [jv b,jv c])) v.M (.dT (V7 I [ki b,ki c] (.int (⇑g:Int))))=u;have x:∀{d y},h d/y->d≠v.M->u d/y:=λm a=>by rw[<-G];exact Ql (L _ _ m) a
 have t2:∀{d},u d=Gp->h d=Gp:=λ{d}a=>by rw[<-G]at a;exact L.free (Yf a)
 have M2:u v.M/.dT (V7 I [ki b,ki c] (.int (⇑g:Int))):=by rw[<-G];exact Qb
 have J:=x o Q;have B:=x n M;have T:h v.t/.lst v.us:=S.sam _ _ S.th;have U:=x T (Ys T n1 nofun);have V:v.us[b]?/v.us[b]:=Gf al;have W:v.us[c]?/v.us[c]:=Gf bl;refine{0,v.sh,D,l,30,J,e.cl,e.lines,qy _,.inl {13,Qi B},0,v.sh,D,l,30,J,e.cl,e.things,uV _,0,v.t,v.us,301,Qi U,Zi V,0,v.sh,D,l,30,J,e.cl,e.things,uV _,0,v.t,v.us,301,Qi U,Zi W,0,Vb,λp H=>?_};have A:=Qf H (.tup [v.us[b],v.us[c],z]);have ab:p≠v.L:=GQ (Qd B H);have ag:p≠v.M:=GQ (Qd M2 H);exists v.L,g,01,A _ _ B,(by rw[TD];lia);have F:Ra v.L v.M h (zj (zj u p (.tup [v.us[b],v.us[c],z])) v.L (.lst (g++[↑p]))):={λd y m h1 h2=>Ql (A _ _ (x m h2)) h1,λd a=>t2 (A.free (Yf a))};refine q _ {{l,F.keep _ _ o oL Q},S.same F,S.L0,S.M0,S.net,S.th,{_,Qb,E5 (Qr O λ_ _ a=>a.kp (F.tp n1 n) (F.lp n1 S.exL)) {p,v.us[b],v.us[c],z,1,Ql Qb ab,V,W,ae.kp (F.tp n1 n) (F.lp n1 S.exL)}},{_,Ql (A _ _ M2) (GQ M),?_,λi j=>?_},λi j k r=>?_,S.good.snoc Yc,S.exL,λd ac=>?_} F
 .have:=Vc I [ki b,ki c] (.int (⇑g:Int));rw[Gs,Tg];lia
 .rw[sF,n3];unfold putN;by_cases a:i=b/\j=c
  .obtain⟨rfl,rfl⟩:=a;rw[GY Xb,GY ⟨Xb,Xb⟩,ad];rfl
  .rw[Gu a,Gu];intro t;simp only[DP,BU]at t;exact a {Ii t.1,Ii t.2}
 .unfold putN at r;by_cases a:i=b/\j=c
  .rw[GY a]at r;cases r;have(rfl,rfl):=a;exact{R,by simp}
  .rw[Gu a]at r;have(r',N):=S.ok i j k r;exact{r',by rw[Tz (Gg.mp N).1];exact N}
 .obtain⟨y,m⟩:=S.exA d ac;exact Mr.mp λt=>by rw[F.there d t]at m;cases m
def Dr(N:Nat->Nat->Option Nat)(a b:Nat):Prop:=(N a b).isSome=Gk\/(N b a).isSome=Gk
def iY(N a:Nat->Nat->Option Nat):Prop:=∀i j,(N i j).isSome=Gk->(a i j).isSome=Gk
def hY(v:Sv)(N:Nat->Nat->Option Nat)(m:Nat):Prop:=∀i j,(N i j).isSome=Gk->Cn (v.x.zm.take m) i j
theorem Dr.sub{c:Nat->Nat->Option Nat}(h:Dr N a b)(s:iY N c):Dr c a b:=h.elim (λh=>.inl (s _ _ h)) λh=>.inr (s _ _ h)
theorem zT:iY N (putN N a b m):=λi j h=>by
 unfold putN;split
 .rfl
 .exact h
theorem Ku{v:Sv}(h:hY v N m)(c:Cn (v.x.zm.take m) a b):hY v (putN N a b k) m:=λi j z=>by
 unfold putN at z;split at z
 .rename_i e
  rw[e.1,e.2];exact c
 .exact h i j z
theorem pJ:putN N a b m a b/m:=GY ⟨Xb,Xb⟩
structure Go(v:Sv)(N:Nat->Nat->Option Nat)(a b:Nat):Prop where
 inv:Wy (Yu v.fs) (Zx v.fs) v.x []
 aS:a∈v.x.S
 bS:b∈v.x.S
 eq:v.x.zu a=v.x.zu b
 hS:⇑v.x.S<=1000
 st:∀st,ir v.x.up a b st->∀p q,(p,q)∈st->Dr N p q
inductive Kl(P:Gn)(w:Ti)(C:Ge)(D:Ge)(g:Bool)(vs:List V)(H:Hp)(Q:VK):Prop
 |mk (v:Sv) (ls:List Ln) (N:Nat->Nat->Option Nat) (a:Nat) (b:Nat) (h0:vs=[↑v.sh,jv a,jv b]) (h1:Vu P w C D v H ls N) (h2:a<⇑v.us) (h3:b<⇑v.us) (h4:(∀p∈v.x.S,p<⇑v.us)) (h5:(Dr N a b\/(g=Gk/\Go v N a b))) (h6:⇑ls+(if g=Gk then 3000 else 0)<=900000) (h7:∀(k:Nat)(more:List Ln)(N':Nat->Nat->Option Nat)(H':Hp),Vu P w C D v H' (ls++more) N'->Ra v.L v.M H H'->N' a b/k->iY N N'->⇑more<=2*⇑v.x.S+1->(∀m,hY v N m->Cn (v.x.zm.take m) a b->hY v N' m)->(N a b=Gp->∃r,(ls++more).getLast?/(a,b,r))->(g=Gx->⇑more<=1)->(N a b≠Gp->more=[])->Q (jv k) H'):Kl P w C D g vs H Q
def lB(P:Gn)(w:Ti)(C D:Ge)(g:Bool):Sp:=λa H Q _=>Kl P w C D g a H Q
def rM(P:Gn)(w:Ti)(C D:Ge):Bool->Sp
 |true=>lB P w C D Gx
 |false=>λ_ _ _ _=>False
theorem OX(c:jX p st q)(h:⇑ks=⇑st)(f:∀j k u v:Nat,ks[j]?/k->st[j]?/(u,v)->∃r,ls[k]?/(u,v,r)):oD ls p ks q:=by
 induction c generalizing ks with
 |nil=>cases ks with
  |nil=>rfl
  |cons=>cases h
 |cons _ b=>cases ks with
  |nil=>cases h
  |cons k ks=>have(r,a):=f 0 k _ _ rfl rfl;exact{_,r,a,b (Hm h) λj=>f (j+1)}
theorem vv{a:List Ln}{l:Ln}(h:ls[k]?/l):(ls++a)[k]?/l:=by rw[Tz (Gg.mp h).1];exact h
theorem yi:Q4 ["self","one","other","reason"] ["self","one","other"] (Qm nL):=by eq_refl
theorem y7:(["start","end","self"]:List TQ).Nodup:=by decide+kernel
theorem yq{g:Bool}(e:2<=k)(F:Wc K "line_for" "Showing.line_for" nL f fd)(t:j7 K D)(TN:Jb K mg C)(mL:Ym K D "line_for" f)(bL:zk K fd ["self","one","other"] [])(aF:Qz P w K mg base Z4 k f fd ["self","one","other"] (rM P w C D g))
  (mW:Ym K C "way" fW)(GW:Qz P w K mg base Z4 2 fW fdW ["self","one","other"] (qG P w C))(bW:zk K fdW ["self","one","other"] [])(mR:Ym K D "write" fR)(GR:Qz P w K mg base Z4 1 fR fdR ["self","one","other","reason"] (qK P w C D))(bR:zk K fdR ["self","one","other","reason"] []):
  Qz P w K mg base Z4 (k+1) f fd ["self","one","other"] (lB P w C D g):=by
 refine F.ok yi (λvs N h e d=>?_) (λl A m s N vs h e hr d=>?_)
 .obtain⟨b,E,o,a,c,rfl,_⟩:=d;rfl
 have(b,E,o,a,c,rfl,S,al,bl,Sl,aC,aR,q):=d;have hu:=Jy hr;have aS:Yd 1 _:=hr.mono ∅;have aT:Yd 2 _:=hr.mono ∅;have nd:=yi.nd;have a5:⇑E<=900000:=by ext
 exists _,Qc (Zc (Ow (QJ hu (Zg (Qa {1} (Qa {2} Qe))) (Qx {0})))
   (Qc (Zc (Ow (px hu (Zg (Qa {2} (Qa {1} Qe))) (Qx {0})))
    (Qg (Q3 3 nd (Zg (Qa Zo (Qa (Yb hu (Qx {0}) (Zg (Qa {2} (Qa {1} Qe))) (λ_ _=>rfl)) Qe)))))
    (Qg (Q3 3 nd (Zg (Qa Zo (Qa
     (Wm (te:=kY D "line_for" (rM P w C D g) [] E0 (Vi 2) (jb (Vi 0) (jb (Vi 1) jB))) (g:=mz K 2 (R5 (Wt 0) (R5 (Wt 1) lO))) (own:=["start","end"]) (fv:=[(0,"self")]) rfl (S:=(by eq_refl:Xm (Qm nL) _)) (.cons rfl (DG Xb) rfl .nil)
      (Z6 (Zk (Qx {0}) TN.cl mW GW aT bW .nil Q7 (Qa {1} (Qa {2} Qe))))
      (λ_ _ _ _ _=>Wi rfl (Zb (Z5 (i:=0) y7 rfl (DG Xb) (Ez Xb)) (Zb (Z5 (i:=1) y7 rfl (DG Xb) (Ez Xb)) Xt))) (λ_ _ _ _ _=>Xk)
      (λ_ _ _ _ _=>Zk {2} t.cl mL aF hr bL .nil Q7 (Qa {0} (Qa {1} Qe)))) Qe))))))
   (Qg (Zl (Zk {0} t.cl mR GR aS bR .nil Q7 (Qa {1} (Qa {2} (Qa {3} Qe))))))) Qw)
  (Qg (Qu (Yb hu (Qx {0}) (Zg (Qa {1} (Qa {2} Qe))) (λ_ _=>rfl))))
 ac_nf;have(dx,o1):=S.ob;have(a9,n1,n2,n3):=S.nu;intros;refine{00,Yz,λad hc=>?_};have s1:=Qf hc (.tup [jv a,jv c]);have au:=Vv.t (k:=[ki a,ki c]) (s1 _ _ n1) (show(zj N ad (.tup [jv a,jv c])) ad/(.tup ([ki a,ki c].map kV))from Qb);rw[n3]at au;exists 0,b.sh,D,dx,30,s1 _ _ o1,t.cl,t.Iu,V2 _,b.M,0,au,0;cases hN:o a c with
 |some v=>refine Q6 ?_;have r:=S.fr s1;have(aa,o2):=r.ob;have(aB,m2,_,aj):=r.nu;refine{0,b.sh,D,aa,30,o2,t.cl,t.Iu,V2 _,00,Yz,λx ag=>?_};have H:=Qf ag (.tup [jv a,jv c]);have R:=Vv.t (k:=[ki a,ki c]) (H _ _ m2) (show(zj (zj N ad (.tup [jv a,jv c])) x (.tup [jv a,jv c])) x/(.tup ([ki a,ki c].map kV))from Qb);rw[aj,hN]at R;exists b.M,0,R;have S3:=r.fr H;exact q v [] o _ (by rw[D2];exact S3) (Ra.of (s1.trans H)) hN (λ_ _ d=>d) (Tw _) (λ_ d _=>d) (λn=>by rw[hN]at n;cases n) (λ_=>Tw _) (λ_=>rfl)
 |none=>
  refine Yw ?_;refine{00,Yz,λc2 aM=>?_};have s2:=s1.trans (Qf aM (.tup [jv c,jv a]));have av:=Vv.t (k:=[ki c,ki a]) (s2 _ _ n1) (show(zj (zj N ad (.tup [jv a,jv c])) c2 (.tup [jv c,jv a])) c2/(.tup ([ki c,ki a].map kV))from Qb);rw[n3]at av;exists 0,b.sh,D,dx,30,s2 _ _ o1,t.cl,t.Iu,V2 _,b.M,0,av,0;generalize zj (zj N ad (.tup [jv a,jv c])) c2 (.tup [jv c,jv a])=Hb at s2;have Sb:=S.fr s2;apply VN (A:=λ(O:Hp)(M:V)=>∃(h:Lr)(m:List Ln)(l:Nat->Nat->Option Nat),Vu P w C D b O (E++m) l/\Ra b.L b.M N O/\Rc O b.Ex M h/\jG b.fs b.x.zm (E++m) a c h/\iY o l/\(∀e,hY b o e->Cn (b.x.zm.take e) a c->hY b l e)/\⇑m<=2*⇑b.x.S/\⇑m<=2000/\(g=Gx->⇑m=0))
  .intro aw;cases hT:o c a with
   |some v=>
    refine Yw ?_;have(J,I):=S.ok c a v hT;have(aa,o2):=Sb.ob;have(aB,m2,_,aj):=Sb.nu;refine{0,b.sh,D,aa,30,o2,t.cl,t.Iu,V2 _,00,Yz,λx ag=>?_};have H:=Qf ag (.tup [jv c,jv a]);have R:=Vv.t (k:=[ki c,ki a]) (H _ _ m2) (show(zj Hb x (.tup [jv c,jv a])) x/(.tup ([ki c,ki a].map kV))from Qb);rw[aj,hT]at R;refine{b.M,0,R,Yz,λz ao=>?_};have s4:=Qf ao (.tup [.str "turn",jv v]);have r:Vu P w C D b (zj (zj Hb x (.tup [jv c,jv a])) z (.tup [.str "turn",jv v])) (E++[]) o:=by rw[D2];exact(Sb.fr H).fr s4
    have X:Ra b.L b.M N (zj (zj Hb x (.tup [jv c,jv a])) z (.tup [.str "turn",jv v])):=Ra.of ((s2.trans H).trans s4);generalize ar:V.ref z=M;have T:Rc (zj (zj Hb x (.tup [jv c,jv a])) z (.tup [.str "turn",jv v])) b.Ex M (.turn v):={z,ar.symm,Qb};have Yc:jG b.fs b.x.zm (E++[]) a c (.turn v):={J,by rw[D2];exact I};obtain⟨m,G⟩:∃e:List Ln,e=[]:={40};rw[<-G]at r Yc;obtain⟨h,ab⟩:∃h:Lr,h=.turn v:={40};rw[<-ab]at T Yc;obtain⟨l,B⟩:∃l:Nat->Nat->Option Nat,l=o:={40};have ai:iY o l:=by rw[B];exactλ_ _ d=>d
    have ae:∀e,hY b o e->Cn (b.x.zm.take e) a c->hY b l e:=by rw[B];exactλ_ d _=>d
    rw[<-B]at r;have ml:⇑m=0:=by rw[G];rfl
    have ah:g=Gx->⇑m=0:=λ_=>ml;generalize zj (zj Hb x (.tup [jv c,jv a])) z (.tup [.str "turn",jv v])=O at r X T⊢;exact aw O M {h,m,l,r,X,T,Yc,ai,ae,by ext,by ext,ah}
   |none=>
    refine Q6 ?_;cases g with
    |false=>
     exfalso;rcases aC with(d|d)|⟨d,_⟩
     .rw[hN]at d;cases d
     .rw[hT]at d;cases d
     .cases d
    |true=>
    have B:Go b o a c:=by
     rcases aC with(d|d)|⟨_,d⟩
     .rw[hN]at d;cases d
     .rw[hT]at d;cases d
     .exact d
    have X2:=S.net.same Sb.sam;have(aL,on):=X2.ob;have(aa,o2):=Sb.ob;refine{0,b.sh,D,aa,30,o2,t.cl,t.net,vo _,b.n,aL,0,on,sQ _,00,b.n,b.A,b.fs,b.tb,b.x,a,c,1,X2,B.inv,B.aS,B.bS,B.eq,B.hS,λL5 es st H5 g5 ak ax ay W=>{L5,1,{_,Qi ax},λG L=>?_}};have a7:=W.len;have a4:=GJ ay;have hS:=B.hS;have Z:=Sb.fr g5;have aG:L5≠b.L:=λn=>by have(vs,l1,_):=Sb.li;rw[n,l1]at ak;cases ak
    have aH:L5≠b.M:=λn=>by have(vs,l1,_):=Sb.nu;rw[n,l1]at ak;cases ak
    have aD:G≠b.L:=λn=>by have(vs,l1,_):=Z.li;rw[n,l1]at L;cases L
    have a2:G≠b.M:=λn=>by have(vs,l1,_):=Z.nu;rw[n,l1]at L;cases L
    have a1:b.H0 G=Gp:=Z.sam.free L;have s5:=Qf L (.lst []);ac_nf;have(bb,aU,_):=Z.li;have(a8,aV,_):=Z.nu;intros;refine Ve (K:=K) (a:=L5) (xs:=es) (small ∅) (λi ys am Q=>iZ λ(x0 x1:Option V)(ac:List Ln)(l:Nat->Nat->Option Nat)(J:List Nat)=>mJ (am=[x0,x1,Ga ↑b.sh]) (ys=J.map jv) (⇑J=i) (Vu P w C D {b with Ex:=λc=>b.Ex c\/c=G} Q (E++ac) l) (Ra b.L b.M H5 Q) (iY o l) (⇑ac<=i) (∀e,hY b o e->Cn (b.x.zm.take e) a c->hY b l e) (∀j k u u':Nat,J[j]?/k->st[j]?/(u,u')->∃h,(E++ac)[k]?/(u,u',h)))
     {2,[],o,[],111,by rw[D2];exact Z.more L,Ra.of s5,λ_ _ d=>d,Tw _,λ_ d _=>d,by simp} (by rintro i ys am Q _ ⟨_,_,_,_,_,_,_,_,_,Y,_⟩;exact Qi (Y.keep _ _ ax aG aH)) ?_ ?_
    .rintro i y ys am Q hi aW ⟨x0,x1,ac,l,J,rfl,rfl,ap,S6,Y,aE,aY,aI,an⟩ aq;ac_nf;have((p,U),hp,c5,rfl,aN):=Qy ay hi;have az:(p,U)∈st:=Gc hp;have c6:=Y.tp aV aU aN;have il:i<⇑es:=(Gg.mp hi).1;have(kk,aO,aP):=W.lk p U az;have(rr,aA):=B.inv.fst.Qih p U kk aO;intros;have pS:p∈b.x.S/\U∈b.x.S:=by
      rcases aA with d|d
      .exact{(B.inv.lnk _ _ _ _ d).1,(B.inv.lnk _ _ _ _ d).2.1}
      .exact{(B.inv.lnk _ _ _ _ d).2.1,(B.inv.lnk _ _ _ _ d).1}
     have cn:∀e,Cn (b.x.zm.take e) a c->Cn (b.x.zm.take e) p U:=λe hm=>by
      have km:=aP e hm;rcases aA with d|d
      .exact .link (Gc (i:=kk) (by rw[Dx km];exact d))
      .exact .symm (.link (Gc (i:=kk) (by rw[Dx km];exact d)))
     have(aK,o6):=S6.ob;exists c5,0,Qk c6,130301;refine{0,b.sh,aK,0,o6,Oq b,00,{b with Ex:=λc=>b.Ex c\/c=G},E++ac,l,p,U,1,S6,Sl p pS.1,Sl U pS.2,Sl,.inl ((B.st st W.rel p U az).sub aE),by rw[Gu (by decide)];rw[GY rfl]at aR;rw[Gs];ext,λk' aZ N2 H7 S7 F7 aQ a3 ba aJ _ aX _=>?_};have r7:=F7.keep _ _ aq aD a2;have a6:=aX rfl;refine{r7,2,ac++aZ,N2,J++[k'],1,by rw[T3];rfl,by rw[Gs,Tg,ap],by rw[<-DF];exact S7.grow (.inr Xb) r7 aD a1,{λb' a0 af I h2=>Ql (F7.keep _ _ (Y.keep _ _ af I h2) I h2) (Qd af L),λb' d=>Y.there _ (F7.there _ (Yf d))},λi j d=>a3 _ _ (aE _ _ d),by rw[Gs];ext,λe hc hm=>aJ e (aI e hc hm) (cn e hm),λj v u u' I h2=>?_}
     .rcases Dn j ⇑J with hj|hj
      .rw[Tz hj]at I;have(h,ab):=an j v u u' I h2;rw[<-DF];exact{h,vv ab}
      .rw[Dc hj]at I;have:j=⇑J:=by
        rcases Dn (j - ⇑J) 1 with h'|h'
        .ext
        .rw[Dl (by simpa using h')]at I;cases I
       subst this;simp at I;subst I;rw[ap,hp]at h2;cases h2;rw[<-DF];exact S7.ok _ _ _ aQ
    .rintro ys am Q aW ⟨x0,x1,m,l,J,rfl,rfl,ap,S6,Y,ai,aY,ae,an⟩ aq;refine{Yz,λz ao=>?_};have s4:=Qf ao (.tup [.str "chain",↑G]);have r:=(S6.less S.exL).fr s4;have X:Ra b.L b.M N (zj Q z (.tup [.str "chain",↑G])):=(Ra.of (s2.trans g5)).trans (Y.trans (Ra.of s4));generalize ar:V.ref z=M;obtain⟨h,ab⟩:∃h:Lr,h=.chain J:={40};have T:Rc (zj Q z (.tup [.str "chain",↑G])) b.Ex M h:=by rw[ab];exact{z,G,ar.symm,Qb,s4 _ _ aq,(λn=>by have(a0,af):=Z.exA G n;rw[L]at af;cases af),by ext}
     have Yc:jG b.fs b.x.zm (E++m) a c h:=by rw[ab];exact OX W.path ∅ an
     have ml:⇑m<=2*⇑b.x.S:=by ext
     have ah:Gk=Gx->⇑m=0:=λn=>by cases n
     generalize zj Q z (.tup [.str "chain",↑G])=O at r X T⊢;exact aw O M {h,m,l,r,X,T,Yc,ai,ae,by ext,by ext,ah}
  .rintro O M ⟨h,m,l,r,X,T,Yc,ai,ae,ml,Q,ah⟩;have(I,L):=r.ob;refine{0,b.sh,I,0,L,qW _,000,b,E++m,l,a,c,M,h,1,r,al,bl,T,Yc,by rw[Gs];ext,λG z B=>?_};have(aa,o2):=z.ob;have(aB,m2,_,aj):=z.nu;refine{0,b.sh,D,aa,30,o2,t.cl,t.Iu,V2 _,00,Yz,λx ag=>?_};have H:=Qf ag (.tup [jv a,jv c]);have R:=Vv.t (k:=[ki a,ki c]) (H _ _ m2) (show(zj G x (.tup [jv a,jv c])) x/(.tup ([ki a,ki c].map kV))from Qb);rw[aj,pJ]at R;exists b.M,0,R;have S3:=z.fr H;rw[DF]at S3;exact q _ (m++[(a,c,h)]) _ _ S3 ((X.trans B).trans (Ra.of H)) pJ (λi j d=>zT _ _ (ai i j d)) (by rw[Gs,Tg];ext) (λe hc hm=>Ku (ae e hc hm) hm) (λ_=>{h,by rw[<-DF,SK]}) (λJ=>by rw[Gs,Tg];have:=ah J;ext) (λn=>absurd hN n)
theorem Q7e:Qz P w K mg base Z4 2 f fd ["self","one","other"] (rM P w C D Gx):=
 {λc H Q E h=>False.elim h,λA a s H b d c Q E _ _ _ _ h=>False.elim h}
inductive yo(P:Gn)(w:Ti)(C:Ge)(D:Ge)(vs:List V)(H:Hp)(Q:VK):Prop
 |mk (v:Sv) (ls:List Ln) (N:Nat->Nat->Option Nat) (lv:V) (a:Nat) (b:Nat) (rs:Option Ia) (h0:vs=[↑v.sh,lv]) (h1:Vu P w C D v H ls N) (h2:Og H lv (a,b,rs)) (h3:(a,b,rs)∈v.x.zm) (h4:a<⇑v.fs) (h5:b<⇑v.fs) (h6:⇑v.fs=⇑v.us) (h7:(∀p∈v.x.S,p<⇑v.us)) (h8:⇑v.x.S<=60) (h9:⇑(Zx v.fs a)<=100) (h10:(rs=Gp->Yu v.fs a=Yu v.fs b/\⇑(Zx v.fs a)=⇑(Zx v.fs b))) (h11:(∀p q,(p,q)∈Wx v.fs (a,b,rs)->Go v N p q)) (h12:⇑ls<=880000) (h13:∀(more:List Ln)(N1:Nat->Nat->Option Nat)(r:Lr)(H':Hp),Vu P w C D v H' (ls++more++[(a,b,r)]) (putN N1 a b ⇑(ls++more))->Ra v.L v.M H H'->iY N N1->⇑more<=12100->(∀m,hY v N m->(∀p q,(p,q)∈Wx v.fs (a,b,rs)->Cn (v.x.zm.take m) p q)->hY v N1 m)->Q .non H'):yo P w C D vs H Q
def yr(P:Gn)(w:Ti)(C D:Ge):Sp:=λa H Q _=>yo P w C D a H Q
theorem Go.sub{v:Sv}{N d:Nat->Nat->Option Nat}{a b:Nat}(g:Go v N a b)(s:iY N d):Go v d a b:={g.inv,g.aS,g.bS,g.eq,g.hS,λe c p q h=>(g.st e c p q h).sub s}
theorem wD:Q4 ["self","link","reason"] ["self","link"] (Qm V5):=by eq_refl
theorem ue:(["part","twin","self"]:List TQ).Nodup:=by decide+kernel
theorem Qxu(F:Wc K "write_link" "Showing.write_link" V5 f fd)(ad:j7 K D)(mL:Ym K D "line_for" fL)(bL:zk K fdL ["self","one","other"] [])(GL:Qz P w K mg base Z4 4 fL fdL ["self","one","other"] (lB P w C D Gk))
  (GB:Qz P w K mg base Z4 1 fB fdB ["net","link"] (qr P w C))(kB:KI K fB)(bB:zk K fdB ["net","link"] [])(mB:MG mg "pairs_below" fB)(mR:Ym K D "write" fR)(GR:Qz P w K mg base Z4 1 fR fdR ["self","one","other","reason"] (qK P w C D))(bR:zk K fdR ["self","one","other","reason"] []):
  Qz P w K mg base Z4 5 f fd ["self","link"] (yr P w C D):=by
 refine F.ok wD (λY R l h g=>?_) (λr o v s R Y l h hr g=>?_)
 .obtain⟨b,B,L,lv,a,c,X,rfl,_⟩:=g;rfl
 have(b,B,L,lv,a,c,X,rfl,S,(O,T,rfl,hc,ae),az,aS,aT,a2,Sl,hS,a1,aV,aU,a3,q):=g;have al:a<⇑b.us:=by ext
 have bl:c<⇑b.us:=by ext
 have aA:Yd 1 _:=hr.mono ∅;have nd:=wD.nd;show∃t,Wf ?my _ t/\_;let w3:Vr ?my V5 2:={_,Qg (Zl (Zk {0} ad.cl mR GR aA bR .nil Q7 (Qa (Qn Qt {1} Qj) (Qa (Qn Qt {1} Qj) (Qa {2} Qe)))))}
 let w2:Vr ?my V5 1:=⟨_,Qc (Zc (Qo QX {2} Jk (Qs _))
   (Qg (Q3 2 nd (Zg (Qa Zo (Qa
     (Wm (te:=kY D "line_for" (lB P w C D Gk) [] E0 (Vi 2) (jb (Vi 0) (jb (Vi 1) jB))) (g:=mz K 2 (R5 (Wt 0) (R5 (Wt 1) lO))) (own:=["part","twin"]) (fv:=[(0,"self")]) rfl (S:=(by eq_refl:Xm (Qm V5) _)) (.cons rfl (DG Xb) rfl .nil)
      (Z6 (Ze GB aA rfl mB kB bB .nil Q7 (Qa (Qx {0}) (Qa {1} Qe))))
      (λ_ _ _ _ _=>Wi rfl (Zb (Z5 (i:=0) ue rfl (DG Xb) (Ez Xb)) (Zb (Z5 (i:=1) ue rfl (DG Xb) (Ez Xb)) Xt))) (λ_ _ _ _ _=>Xk)
      (λ_ _ _ _ _=>Zk {2} ad.cl mL GL hr bL .nil Q7 (Qa {0} (Qa {1} Qe)))) Qe))))) Qw) w3.2⟩
 exists _,Qc (Q3 2 nd (Qn Qt {1} Qj)) w2.2;exists 0,O,201,Qk hc,jz _ _ _ _;exists 4010;rw[vI ae];cases X with
 |some X=>
  refine Q6 ?_;have N:Vu P w C D b R (B++[]) L:=by rw[D2];exact S
  have F1:Ra b.L b.M R R:=Ra.refl;have W:=hc;obtain⟨d,ao,Yc⟩:∃d:Lr,Rc R b.Ex T d/\jG b.fs b.x.zm (B++[]) a c d:=by
   cases X with
   |told n=>exact{.told n,ae,az}
   |asked=>exact{.asked,ae,az}
  obtain⟨M,l⟩:∃m:List Ln,m=[]:={40};rw[<-l]at N Yc;obtain⟨e,h⟩:∃e:Nat->Nat->Option Nat,e=L:={40};have aq:iY L e:=by rw[h];exactλ_ _ g=>g
  have am:∀m,hY b L m->(∀p q,(p,q)∈Wx b.fs (a,c,Ga X)->Cn (b.x.zm.take m) p q)->hY b e m:=by rw[h];exactλ_ g _=>g
  rw[<-h]at N;have ml:⇑M<=12100:=by rw[l];exact Tw _
  have(an,ap):=N.ob;refine{0,b.sh,an,0,ap,qW _,0,O,201,Qk W,Of _ _,0,O,201,Qk W,Rp _ _ _,0,b,B++M,e,a,c,T,d,1,N,al,bl,ao,Yc,by rw[Gs];ext,λH2 S2 F2=>?_};exact q M e d H2 S2 (F1.trans F2) aq ml am
 |none=>
  refine Yw ?_;have X2:=S.net.same S.sam;have(dx,o1):=S.ob;refine{0,b.sh,D,dx,30,o1,ad.cl,ad.net,vo _,0,b.n,b.A,b.fs,b.tb,b.x,↑O,(a,c,Gp),1,X2,⟨O,T,Xb,hc,ae⟩,aS,aT,λL5 es H5 g5 aa ar au=>{L5,1,{_,Qi ar},λr v=>?_}};have(aM,aL):=aV rfl;have aX:=GJ au;have aY:⇑(Wx b.fs (a,c,Gp))=⇑(Zx b.fs a):=by simp only[Wx,L8];ext
  have H:=S.fr g5;have aJ:L5≠b.L:=λx=>by have(Y,I,_):=S.li;rw[x,I]at aa;cases aa
  have aK:L5≠b.M:=λx=>by have(Y,I,_):=S.nu;rw[x,I]at aa;cases aa
  have ax:r≠b.L:=λx=>by have(Y,I,_):=H.li;rw[x,I]at v;cases v
  have aR:r≠b.M:=λx=>by have(Y,I,_):=H.nu;rw[x,I]at v;cases v
  have aQ:b.H0 r=Gp:=H.sam.free v;have s5:=Qf v (.lst []);have(a0,av,_):=H.li;have(aZ,aw,_):=H.nu;refine Ve (K:=K) (a:=L5) (xs:=es) (small ∅) (λi ys ac G=>iZ λ(x0 x1:Option V)(Q:List Ln)(e:Nat->Nat->Option Nat)(o:List Nat)=>mJ (ac=[x0,x1,Ga ↑b.sh]) (ys=o.map jv) (⇑o=i) (Vu P w C D {b with Ex:=λc=>b.Ex c\/c=r} G (B++Q) e) (Ra b.L b.M H5 G) (iY L e) (⇑Q<=i*121) (∀m,hY b L m->(∀p q,(p,q)∈Wx b.fs (a,c,Gp)->Cn (b.x.zm.take m) p q)->hY b e m) (∀j k u u':Nat,o[j]?/k->(Wx b.fs (a,c,Gp))[j]?/(u,u')->∃d,(B++Q)[k]?/(u,u',d)))
   {2,[],L,[],111,by rw[D2];exact H.more v,Ra.of s5,λ_ _ g=>g,Tw _,λ_ g _=>g,by simp} (by rintro i ys ac G _ ⟨_,_,_,_,_,_,_,_,_,z,_⟩;exact Qi (z.keep _ _ ar aJ aK)) ?_ ?_
  .rintro i y ys ac G hi aN ⟨x0,x1,Q,e,o,rfl,rfl,ag,S6,z,ak,aO,aB,af⟩ ah;ac_nf;have((p,J),hp,c5,rfl,aE):=Qy au hi;have ai:(p,J)∈Wx b.fs (a,c,Gp):=Gc hp;have c6:=z.tp aw av aE;have il:i<⇑es:=(Gg.mp hi).1;have l:=(aU p J ai).sub ak;have(aD,o6):=S6.ob;intros;exists c5,0,Qk c6,130301;refine{0,b.sh,aD,0,o6,Oq b,00,{b with Ex:=λc=>b.Ex c\/c=r},B++Q,e,p,J,1,S6,Sl p l.aS,Sl J l.bS,Sl,.inr {1,{l.inv,l.aS,l.bS,l.eq,l.hS,l.st}},by rw[GY Xb,Gs];ext,λk' aj N2 H7 S7 Z aG aI aH aC _ _ _=>?_};have r7:=Z.keep _ _ ah ax aR;have aW:⇑aj<=2*⇑b.x.S+1:=aH;refine{r7,2,Q++aj,N2,o++[k'],1,by rw[T3];rfl,by rw[Gs,Tg,ag],by rw[<-DF];exact S7.grow (.inr Xb) r7 ax aQ,{λb' aP U h A=>Ql (Z.keep _ _ (z.keep _ _ U h A) h A) (Qd U v),λb' g=>z.there _ (Z.there _ (Yf g))},λi j g=>aI _ _ (ak _ _ g),by rw[Gs];ext,λm aF hm=>aC m (aB m aF hm) (hm p J ai),λj k0 u u' h A=>?_};rcases Dn j ⇑o with hj|hj
   .rw[Tz hj]at h;have(d,ab):=af j k0 u u' h A;rw[<-DF];exact{d,vv ab}
   .rw[Dc hj]at h;have:j=⇑o:=by
     rcases Dn (j - ⇑o) 1 with E|E
     .ext
     .rw[Dl (by simpa using E)]at h;cases h
    subst this;simp at h;subst h;rw[ag,hp]at A;cases A;rw[<-DF];exact S7.ok _ _ _ aG
  .rintro ys ac G aN ⟨x0,x1,M,e,o,rfl,rfl,ag,S6,z,aq,aO,am,af⟩ ah;refine{Yz,λl Z=>?_};have s4:=Qf Z (.tup [.str "like",↑r]);have N:=(S6.less S.exL).fr s4;have F1:Ra b.L b.M R (zj G l (.tup [.str "like",↑r])):=(Ra.of g5).trans (z.trans (Ra.of s4));have W:=s4 _ _ (z.tp aw av (g5 _ _ hc));generalize ay:V.ref l=T;obtain⟨d,ab⟩:∃d:Lr,d=.like o:={40};have ao:Rc (zj G l (.tup [.str "like",↑r])) b.Ex T d:=by rw[ab];exact{l,r,ay.symm,Qb,s4 _ _ ah,(λx=>by have(aP,U):=H.exA r x;rw[v]at U;cases U),by ext}
   have Yc:jG b.fs b.x.zm (B++M) a c d:=by rw[ab];refine{aM,aL,by ext,λj k p J h A E=>af j k p J h ?_};simp only[Wx];rw[LM];exact⟨A,E⟩
   have ml:⇑M<=12100:=by ext
   have(an,ap):=N.ob;refine{0,b.sh,an,0,ap,qW _,0,O,201,Qk W,Of _ _,0,O,201,Qk W,Rp _ _ _,0,b,B++M,e,a,c,T,d,1,N,al,bl,ao,Yc,by rw[Gs];ext,λH2 S2 F2=>?_};exact q M e d H2 S2 (F1.trans F2) aq ml am
inductive ui(P:Gn)(w:Ti)(C:Ge)(D:Ge)(vs:List V)(H:Hp)(Q:VK):Prop
 |mk (sh:Ge) (dx:Ge) (t:Ge) (n:Ge) (A:Na) (fs:List Fm) (tb:Nat) (x:Nn) (us:List V) (H0:Hp) (h0:vs=[↑sh,↑t,↑n]) (h1:H sh/.ins D dx []) (h2:H0 sh=Gp) (h3:Q5 H0 H) (h4:Yk P w C H0 n A fs tb x) (h5:H0 t/.lst us) (h6:∀(L M:Ge)(H':Hp),Vu P w C D ⟨sh,n,t,L,M,A,fs,tb,x,us,H0,λb=>b=L\/∃o,H0 b/o⟩ H' [] (λ_ _=>Gp)->Q .non H'):ui P w C D vs H Q
def zX(P:Gn)(w:Ti)(C D:Ge):Sp:=λa H Q _=>ui P w C D a H Q
inductive qH(H:Hp)(X:Ge->Prop)(us:List V)(v:V)(ls:List Ln):Prop
 |mk (L:_) (vs:_) (h0:v=↑L) (h1:H L/.lst vs) (h2:¬X L) (h3:Dm (iM H X us) vs ls) (h4:⇑ls<=900000):qH H X us v ls
inductive wQ(P:Gn)(w:Ti)(C:Ge)(vs:List V)(H:Hp)(Q:VK):Prop
 |mk (t:Ge) (n:Ge) (A:Na) (fs:List Fm) (tb:Nat) (x:Nn) (us:List V) (one:Nat) (other:Nat) (h0:vs=[↑t,↑n,jv one,jv other]) (h1:Yk P w C H n A fs tb x) (h2:Wy (Yu fs) (Zx fs) x []) (h3:iP fs x.S) (h4:one∈x.S) (h5:other∈x.S) (h6:x.zu one=x.zu other) (h7:⇑x.S<=60) (h8:⇑x.zm<64) (h9:(∀p,⇑(Zx fs p)<=100)) (h10:H t/.lst us) (h11:⇑fs=⇑us) (h12:∀(v:V)(ls:List Ln)(H':Hp),Q5 H H'->qH H' (λb=>∃o,H b/o) us v ls->iW fs x.zm ls->(∃r,ls.getLast?/(one,other,r))->Q v H'):wQ P w C vs H Q
def y9(P:Gn)(w:Ti)(C:Ge):Sp:=λa H Q _=>wQ P w C a H Q
abbrev mkv(c n t L M:Ge)(A:Na)(fs:List Fm)(tb:Nat)(x:Nn)(d:List V)(a:Hp):Sv:={c,n,t,L,M,A,fs,tb,x,d,a,λb=>b=L\/∃o,a b/o}
theorem sv(I:Wy (Yu fs) (Zx fs) x [])(h:ir x.up a b st)(g:(p,q)∈st):∃k,x.Xs p q/k/\∀n,Cn (x.zm.take n) a b->k<n:=by have(j,l,P,Q,s,m,c,d,e,f,i,rfl):=h;exact I.fst.way c d e f i p q g
theorem KQ:Q4 ["self","things","net"] ["self","things","net"] (Qm qV):=by eq_refl
theorem Qsa(F:Wc K "__init__" "Showing.__init__" qV f0 fd)(T:j7 K D):Qz P w K mg base Z4 1 f0 fd ["self","things","net"] (zX P w C D):=by
 refine F.ok KQ (λW H Q E h=>?_) (λO A y s H W Q E Y h=>?_)
 .obtain⟨d,p,t,n,A,R,U,x,V,B,rfl,_⟩:=h;rfl
 have(d,p,t,n,A,R,U,x,V,B,rfl,m,J,f,X,ht,q):=h;exists _,Qc (Xn {0} {1} rfl) (Qc (Xn {0} {2} rfl) (Qc (Xn {0} (Zz Qe) rfl) (Qg (Xn {0} oF Xb))));exists 00,d,D,p,[],1,m,T.cl,T.things,(by show 0<1000;decide);refine{00,d,D,p,0,Qb,T.cl,T.net,by show 1<1000;decide,Tw _,λL N=>?_};rw[X9]at N⊢;have a:H L=Gp:=Yf N;have r:L≠d:=GQ (Qd m a);refine{0,d,D,p,0,Ql Qb (GQ r),T.cl,T.lines,by show 2<1000;decide,λM S=>?_};have l:=Yf S;have v:=Yf l;have c:H M=Gp:=Yf v;have I:M≠d:=GQ (Qd m c);have G:L≠M:=λz=>by rw[<-z,Qb]at l;cases l
 exists 0,d,D,p,0,Ql Qb (GQ I),T.cl,T.Iu,(by show 3<1000;decide);refine q L M _ {⟨p,Qb⟩,λb o e=>?_,f.free a,f.free c,X,ht,{[],?_,.nil},{[],?_,Tw _,λi j=>rfl},(λi j k h=>nomatch h),iW.nil,.inl Xb,λb u=>?_}
 .have g:b≠d:=Qd e J;exact Ql (Ql (Ql (Ql (Ql (f _ _ e) g) (Qd (f _ _ e) a)) g) (Qd (f _ _ e) c)) g
 .exact Ql (Ql (Ql Qb r) G) r
 .exact Ql Qb I
 .have u:b=L\/∃o,B b/o:=u;rcases u with u|⟨o,e⟩
  .rw[u];exact{_,Ql (Ql (Ql Qb r) G) r}
  .have g:b≠d:=Qd e J;exact{o,Ql (Ql (Ql (Ql (Ql (f _ _ e) g) (Qd (f _ _ e) a)) g) (Qd (f _ _ e) c)) g}
theorem yE:Q4 ["things","net","one","other","showing","number"] ["things","net","one","other"] (Qm ou):=by eq_refl
theorem YF(F:Wc K "lines_between" "lines_between" ou f fd)(ah:j7 K D)(TN:Jb K mg C)(mD:MG mg "Showing" D)(aP:Mk K D fI)(GI:Qz P w K mg base Z4 1 fI fdI ["self","things","net"] (zX P w C D))(bI:zk K fdI ["self","things","net"] [])
  (GN:Qz P w K mg base Z4 3 fN fdN ["net","one","other"] (vz P w C))(kN:KI K fN)(bN:zk K fdN ["net","one","other"] [])(mN:MG mg "links_needed" fN)
  (mL:Ym K D "line_for" fL)(bL:zk K fdL ["self","one","other"] [])(GL:Qz P w K mg base Z4 4 fL fdL ["self","one","other"] (lB P w C D Gk))(mW:Ym K D "write_link" fW)(bW:zk K fdW ["self","link"] [])(GW:Qz P w K mg base Z4 5 fW fdW ["self","link"] (yr P w C D)):
  Qz P w K mg base Z4 6 f fd ["things","net","one","other"] (y9 P w C):=by
 refine F.ok yE (λvs m L J b=>?_) (λW l Y s m vs L J hr b=>?_)
 .obtain⟨t,n,l,o,I,x,G,N,O,rfl,_⟩:=b;rfl
 have(t,n,l,o,I,x,G,N,O,rfl,X,v,FO,oS,tS,he,hS,aV,aT,ht,ao,q):=b;have aY:Yd 2 _:=hr.mono (by lia);have aZ:Yd 3 _:=hr.mono (by lia);have a0:Yd 4 _:=hr.mono (by lia);have nd:=yE.nd;show∃t,Wf ?my _ t/\_;let a6:Vr ?my ou 1:={_,Qc (Z9 To rfl (Z6 (Ze GN aZ rfl mN kN bN .nil Q7 (Qa {1} (Qa {2} (Qa {3} Qe))))) (Zv 5 nd) (Qg (Zl (Zk {4} ah.cl mW GW hr bW .nil Q7 (Qa (Qn Q9 (Qx {1}) {5}) Qe))))) (Qc (Zl (Zk {4} ah.cl mL GL a0 bL .nil Q7 (Qa {2} (Qa {3} Qe)))) (Qg (Qu (Qx {4}))))}
 exists _,Qc (Q3 4 nd (rE aP GI aY rfl mD bI .nil Q7 (Qa {0} (Qa {1} Qe)))) a6.2;refine{00,λe dx aB aU a9=>?_};have s0:Q5 m (zj (zj m dx (.own e)) e (.ins D dx [])):=λaQ a3 aa=>by rw[Qh (Qd aa aB),Qh (Qd aa aU)];exact aa
 refine{e,dx,t,n,l,o,I,x,G,m,1,Qb,aB,s0,X,ht,λz M H1 S1=>{1,?_}};have X1:=X.same S1.sam;have(aC,aW,aD):=X.li;have(aR,on):=X.ob;refine{000,n,l,o,I,x,N,O,1,X1,v,FO,oS,tS,he,by lia,aV,λL2 h H2 g2 ag ay aq a5 Z=>{L2,1,{_,Qi ay},?_}};have S2:=S1.fr g2;have S2:Vu P w C D (mkv e n t z M l o I x G m) H2 [] (λ_ _=>Gp):=S2;have aN:L2≠z:=λH=>by have(vs,l1,_):=S1.li;rw[H,l1]at ag;cases ag
 have aO:L2≠M:=λH=>by have(vs,l1,_):=S1.nu;rw[H,l1]at ag;cases ag
 have aw:∀{j i k r:Nat},j<i->h[j]?/k->h[i]?/r->k<r:=λ{j i k r}ai h1 h2=>by have(J,W):=Gg.mp h1;have(L,Y):=Gg.mp h2;have le:=Mv.mp a5 j i J L ai;have ne:=Mv.mp aq j i J L ai;rw[W,Y]at le ne;lia
 have ax:∀{d:Nat->Nat->Option Nat}{i:Nat},(∀j k a g E,j<i->h[j]?/k->x.zm[k]?/(a,g,E)->(d a g).isSome=Gk)->∀{u Q j k:Nat},j<i->h[j]?/k->x.Xs u Q/k->Dr d u Q:=λ{d i}b{u Q j k}c hk hl=>by
  obtain⟨E,h1|h1⟩:=v.fst.Qih u Q k hl
  .exact .inl (b j k u Q E c hk h1)
  .exact .inr (b j k Q u E c hk h1)
 have ba:=GJ aD;let a4:Nat->St->Hp->Prop:=λi ak H3=>jc λ(x5:Option V)(R:List Ln)(d:Nat->Nat->Option Nat)=>jD (ak=[Ga ↑t,Ga ↑n,Ga (jv N),Ga (jv O),Ga ↑e,x5]) (Vu P w C D (mkv e n t z M l o I x G m) H3 R d) (Ra z M H2 H3) (⇑R<=i*12101) (∀j k a g E,j<i->h[j]?/k->x.zm[k]?/(a,g,E)->(d a g).isSome=Gk) (∀B,(∀j k,j<i->h[j]?/k->k<B)->hY (mkv e n t z M l o I x G m) d B) ((d N O).isSome=Gk->∃E,R.getLast?/(N,O,E))
 refine Yv (K:=K) (a:=L2) (xs:=h.map jv) a4
  {_,[],0,S2,Ra.refl,Tw _,(λj k a g E b=>by lia),(λB _ i j b=>by cases b),(λb=>by cases b)} (by rintro i ak H3 _ ⟨_,_,_,_,_,F3,_⟩;exact Qi (F3.keep _ _ ay aN aO)) ?_ ?_
 .rintro i y ak H3 hi ⟨x5,R,d,rfl,S,F3,aA,ac,an,az⟩;rw[Ta]at hi;cases eq:h[i]? with
  |none=>rw[eq]at hi;cases hi
  |some k=>
   rw[eq]at hi;cases hi;have af:k∈h:=Gc eq;have kl:=Z.lt k af;have kw:k<⇑aC:=by lia
   have a8:i<⇑h:=(Gg.mp eq).1;have aX:⇑h<=64:=by have:⇑h<=⇑(So x.zm.length):=X5 aq λk hk=>Sq.mpr (Z.lt k hk);rw[Sa]at this;lia
   have((a,g,rs),J,aI):=Qy aD (Gf kw);have(aS,bS,ar):=v.lnk k a g rs J;have aK:=S.sam _ _ on;have aJ:=S.sam _ _ aW;have(am,o3):=S.ob;have aL:Q8 m H3:=Q8.of S.sam;have aH:∀p q,(p,q)∈Wx o (a,g,rs)->Go (mkv e n t z M l o I x G m) d p q:=λp q L=>by
    have(pS,qS,Y):=ng v J L;refine{v,pS,qS,(v.conn p pS q qS).mpr (Y.mono λH hz=>DL hz),by show ⇑x.S<=1000;lia,λst U u Q ab=>?_};have(r,A,_):=sv v U ab;have(W,d2):=Z.low k af _ J p q L st U u Q ab r A;have(j,c):=Dh.mp W;have ai:j<i:=by
     rcases Be j i with b|b|b
     .exact b
     .subst b;rw[eq]at c;cases c;lia
     .have:=aw b eq c;lia
    exact ax ac ai c A
   refine{0,e,am,0,o3,Qhs _,0,n,C,aR,30,aK,TN.cl,TN.zm,Js _,0,l.k,aC,301,Qi aJ,Zi (Gf kw),mkv e n t z M l o I x G m,R,d,_,a,g,rs,1,S,aI.Qv aL,Gc J,FO.lt a aS,FO.lt g bS,ao,λp hp=>by show p<⇑G;rw[<-ao];exact FO.lt p hp,hS,aT a,λH=>{(ar H).1,(ar H).2.1},aH,by lia,λaj N1 E H4 T F4 aE ap al=>?_};have aF:∀B,k<B->∀p q,(p,q)∈Wx o (a,g,rs)->Cn (x.zm.take B) p q:=λB hm p q L=>by
    have(pS,qS,Y):=ng v J L;refine Y.mono λH hz=>?_;have:x.zm.take k=(x.zm.take B).take k:=by rw[Mo,FN (by lia)]
    rw[this]at hz;exact DL hz
   have aG:hY (mkv e n t z M l o I x G m) N1 k:=al k (an k λj r c A=>aw c A eq) λp q L=>(ng v J L).2.2;refine{_,R++aj++[(a,g,E)],0,T,F3.trans F4,by rw[Gs,Gs,Tg];lia,λj r a' b' r' c ad ae=>?_,λB hm=>?_,λb=>?_}
   .rcases Dn j i with b|b
    .exact zT _ _ (aE _ _ (ac j r a' b' r' b ad ae))
    .have:j=i:=by lia
     subst this;rw[eq]at ad;cases ad;rw[J]at ae;cases ae;rw[pJ];rfl
   .have W:=hm i k (by lia) eq;exact Ku (al B (an B λj r c A=>hm j r (by lia) A) (aF B W)) (.link (Gc (i:=k) (by rw[Dx W];exact J)))
   .by_cases W:N=a/\O=g
    .obtain⟨rfl,rfl⟩:=W;exact⟨E,SK⟩
    .unfold putN at b;rw[Gu W]at b;have Y:=aG _ _ b;ac_nf;have(st,p,q',j,U,L,c,aM):=Z.only k af;have(r,A,hb):=sv v U L;intros;rw[c]at A;cases A;have:=hb k Y;lia
 .rintro ak H3 ⟨x5,R,d,rfl,S,F3,aA,ac,an,az⟩;rw[Gq]at aA ac;have aX:⇑h<=64:=by have:⇑h<=⇑(So x.zm.length):=X5 aq λk hk=>Sq.mpr (Z.lt k hk);rw[Sa]at this;lia
  have(am,o3):=S.ob;have go:Go (mkv e n t z M l o I x G m) d N O:=by refine{v,oS,tS,he,by show ⇑x.S<=1000;lia,λst U u Q ab=>?_};have(r,A,_):=sv v U ab;have(j,c):=Dh.mp (Z.top st U u Q ab r A);exact ax ac (Gg.mp c).1 c A
  have L:∀p∈x.S,p<⇑G:=λp hp=>by rw[<-ao];exact FO.lt p hp
  refine{0,e,am,0,o3,Oq _,00,mkv e n t z M l o I x G m,R,d,N,O,1,S,L N oS,L O tS,L,.inr ⟨Xb,go⟩,by rw[GY rfl];lia,λk aj N4 H4 T F4 a7 aE ap al au _ av=>?_};have(Y,o4):=T.ob;have(vs,l1,l2):=T.li;refine{0,e,D,Y,30,o4,ah.cl,ah.lines,qy _,q ↑z (R++aj) H4 T.sam {z,vs,1,l1,(by rintro⟨a3,aa⟩;have:=T.L0;dsimp only[mkv]at this;rw[this]at aa;cases aa),(Qr l2 λ_ _ b=>b.ex λaQ W _ J H=>J (.inr H)),(by rw[Gs];have ap:⇑aj<=2*⇑x.S+1:=ap;lia)} T.good ?_};cases hN:d N O with
  |none=>exact au hN
  |some J=>rw[av (by rw[hN];exactλH=>nomatch H),D2];exact az (by rw[hN];rfl)
noncomputable def tfs(ts:List Th):List Fm:=ts.map (fm ts)
def tg(ts:List Th)(p:Nat):Th:=ts.getD p (.mk Lu [])
theorem Uq(h:ts[p]?/t):tg ts p=t:=by unfold tg;rw[DR,h];rfl
theorem Ov(h:t∈ts):tg ts (ts.idxOf t)=t:=Uq (Oc h)
theorem Wu(h:p<ts.length):ts[p]?/tg ts p:=by rw[Gf h,Uq (Gf h)]
theorem Vo(h:ts[p]?/t):Yu (tfs ts) p=t.word/\Zx (tfs ts) p=t.parts.map λq=>ts.idxOf q:=by unfold Yu Zx tfs;rw[DR,Ta,h];exact⟨Xb,Xb⟩
theorem W0(a:List Th):⇑(tfs a)=⇑a:=by simp[tfs]
structure mi(fs:List Fm)(x:Nn)(sm:List (Nat×Nat)):Prop where
 ins:∀p q,(p,q)∈sm->p∈x.S/\q∈x.S
 eq:∀p q,(p,q)∈sm->x.zu p=x.zu q
 snd:∀E,Ec (Yu fs) (Zx fs) x.S E->(∀p q,(p,q)∈sm->E p q)->∀p∈x.S,∀q∈x.S,x.zu p=x.zu q->E p q
noncomputable def mY(a:List En):List (Nat×Nat):=a.filterMap λ(e:En)=>if e.1=("same":TQ)then Ga e.2 else Gp
theorem U5:(p,q)∈mY ens↔sme p q∈ens:=by
 unfold mY;rw[Mc];constructor
 .rintro⟨⟨k,a,b⟩,h,e⟩;split at e
  .rename_i c
   have c:k=("same":TQ):=c;cases e;subst c;exact h
  .cases e
 .exactλh=>{_,h,GY Xb}
theorem qc(U:iR fs x ens ⇑ens):mi fs x (mY ens):=by refine{λp q h=>U.ins _ (U5.mp h),λp q h=>?_,λE X h=>U.snd E X λj p q _ a=>h p q (U5.mpr (Gc a))};have(j,a):=Dh.mp (U5.mp h);exact U.eq j p q (Gg.mp a).1 a
theorem Q0y{d:Nn}{c:List (Nat×Nat)}{r:Option Ia}(Q:mi fs x c)(M:iv fs x d a b r [])(f:a∈x.S)(g:b∈x.S):mi fs d (c++[(a,b)]):=by
 have e:=M.S;refine{λp q h=>?_,λp q h=>?_,λE X h=>?_}
 .rw[e];rcases Gi.mp h with h|h
  .exact Q.ins p q h
  .simp at h;rw[h.1,h.2];exact⟨f,g⟩
 .rcases Gi.mp h with h|h
  .obtain⟨i,j⟩:=Q.ins p q h;exact M.mono p i q j (Q.eq p q h)
  .simp at h;rw[h.1,h.2];exact M.eq.nil
 .rw[e]at X;have i:=Q.snd E X λp q j=>h p q (Gv _ j);exact(M.snd E X {i,λu v s m=>by simp at m;rw[m.1,m.2.1];exact h a b ⋯}).1
theorem mi.cg(nd:ts.Nodup)(n:Uo ts){y:List (Nat×Nat)}(I:Wy (Yu (tfs ts)) (Zx (tfs ts)) x [])(C:iP (tfs ts) x.S)(Q:mi (tfs ts) x y)
  (G:∀a b,(Gk,a,b)∈tl->∃p q,(p,q)∈y/\ts[p]?/a/\ts[q]?/b)(H:∀p q,(p,q)∈y->(Gk,tg ts p,tg ts q)∈tl)(d:p∈x.S)(g:q∈x.S):x.zu p=x.zu q↔Cg tl (tg ts p) (tg ts q):=by
 have J:∀p∈x.S,p<⇑ts:=λp d=>by have:=C.lt p d;rwa[W0]at this
 have f:∀p∈x.S,ts[p]?/tg ts p:=λp d=>Wu (J p d);have j:∀p∈x.S,tg ts p∈ts:=λp d=>Gc (f p d);have m:∀p∈x.S,ts.idxOf (tg ts p)=p:=λp d=>Rq nd (f p d);constructor
 .refineλh=>Q.snd (λp q=>Cg tl (tg ts p) (tg ts q)) {λ_=>.refl _,λ_ _ h=>.symm h,λ_ _ _ h k=>.trans h k,λp d q g hw ht=>?_} (λp q h=>.told (H p q h)) p d q g h;have(A,l):=Vo (f p d);have(B,z):=Vo (f q g);rw[A,B]at hw;rw[l,z]at ht;have w:=j p d;have D:=j q g;generalize tg ts p=a at*;generalize tg ts q=b at*;cases a with
  |mk u F=>
   cases b with
   |mk v M=>simp only[Th.word,Th.parts]at hw ht;subst hw;have o:=Wb n w;have r:=Wb n D;simp only[Th.parts]at o r;have(e,ht):=ht;rw[Gq,Gq]at e;refine .cong (jm.of e λi s t hs c=>?_);have:=ht i (ts.idxOf s) (ts.idxOf t) (by rw[Ta,hs];rfl) (by rw[Ta,c];rfl);dsimp only at this;rwa[Ov (o s (Gc hs)),Ov (r t (Gc c))]at this
 .intro c;have T:jg tl (x.S.map (tg ts)) (λt=>((x.zu (ts.idxOf t):Nat):Int)):=by
   refine{λw F h q g=>?_,λa b h=>?_,λw F M o v e=>?_}
   .obtain⟨p,d,e⟩:=Tv.mp h;have r:=Wb n (j p d) q (by rw[e];exact g);have(_,l):=Vo (f p d);have:ts.idxOf q∈Zx (tfs ts) p:=by rw[l,e];exact Tv.mpr ⟨q,g,Xb⟩
    exact Tv.mpr {_,C.Ol p d _ this,Ov r}
   .obtain⟨p,q,E,r,D⟩:=G a b h;have(K,L):=Q.ins p q E;exists Tv.mpr {p,K,Uq r},Tv.mpr {q,L,Uq D};rw[Rq nd r,Rq nd D,Q.eq p q E]
   .obtain⟨p,d,r⟩:=Tv.mp o;have(q,g,D):=Tv.mp v;have(A,l):=Vo (f p d);have(B,z):=Vo (f q g);have:=I.cong d g (by simp only[Zt,EJ];rw[A,B,l,z,r,D];exists 41;simp only[Th.parts,Ds];have:=congrArg (Mq DZ) e;simp only[Ds]at this;exact this)
    rw[<-r,<-D,m p d,m q g,this]
  have:=T.complete (Tv.mpr ⟨p,d,Xb⟩) (Tv.mpr ⟨q,g,Xb⟩) c;simp only[m p d,m q g]at this;lia
abbrev Lt:=Th×Th×Lr
def je(a:List Lt):Th->List Nat->Th->Prop
 |p,[],q=>p=q
 |p,k::b,q=>∃m r,a[k]?/(p,m,r)/\je a m b q
def zo(tl:Tl)(e:Option (Th×Th))(c:List Lt)(a b:Th):Lr->Prop
 |.told n=>tl[n]?/(Gk,a,b)
 |.asked=>e/(a,b)
 |.turn k=>∃r,c[k]?/(b,a,r)
 |.chain d=>je c a d b
 |.like d=>a.word=b.word/\⇑a.parts=⇑b.parts/\⇑d=⇑a.parts/\∀(j k:Nat)(p q:Th),d[j]?/k->a.parts[j]?/p->b.parts[j]?/q->∃r,c[k]?/(p,q,r)
def kg(tl:Tl)(c:Option (Th×Th))(ls:List Lt):Prop:=∀(i:Nat)a b r,ls[i]?/(a,b,r)->zo tl c (ls.take i) a b r
noncomputable def lth(ts:List Th)(l:Ln):Lt:=(tg ts l.1,tg ts l.2.1,l.2.2)
theorem sO{a:List Ln}{r:Lr}(h:a[k]?/(p,q,r)):(a.map (lth ts))[k]?/(tg ts p,tg ts q,r):=by rw[Ta,h];rfl
theorem QA{a:List Ln}(h:oD a p ks q):je (a.map (lth ts)) (tg ts p) ks (tg ts q):=by
 induction ks generalizing p with
 |nil=>cases h;rfl
 |cons k ks d=>have(m,r,b,c):=h;exact{tg ts m,r,sO b,d c}
theorem qL(m:Uo ts){y:Option (Th×Th)}(g:iW (tfs ts) lks ls)(G:∀l∈ls,l.1<⇑ts/\l.2.1<⇑ts)
  (ht:∀a b n,(a,b,Ga (.told n))∈lks->tl[n]?/(Gk,tg ts a,tg ts b))(C:∀a b,(a,b,Ga .asked)∈lks->y/(tg ts a,tg ts b)):kg tl y (ls.map (lth ts)):=by
 intro i a b r hi;rw[Ta]at hi;cases e:ls[i]? with
 |none=>rw[e]at hi;cases hi
 |some l=>
  rw[e]at hi;have(p,q,J):=l;cases hi;dsimp only;generalize J=r at*;have ok:=g i p q r e;have(w,x):=G _ (Gc e);rw[<-MM];cases r with
  |told n=>exact ht p q n ok
  |asked=>exact C p q ok
  |turn k=>have(d,h):=ok;exact{d,sO h}
  |chain F=>exact QA ok
  |like F=>have(A,h,o,B):=ok;have(K,f):=Vo (Wu w);have(L,z):=Vo (Wu x);have H:tg ts p∈ts:=Gc (Wu w);have I:tg ts q∈ts:=Gc (Wu x);rw[f,z,Gq,Gq]at h;rw[f,Gq]at o;refine{by rw[<-K,<-L];exact A,h,o,λj k u v D s t=>?_};have E:=B j k (ts.idxOf u) (ts.idxOf v) D (by rw[f,Ta,s];rfl) (by rw[z,Ta,t];rfl);have(d,c):=E;have:=sO (ts:=ts) c;rw[Ov (Wb m H u (Gc s)),Ov (Wb m I v (Gc t))]at this;exact⟨d,this⟩
def qQ(H:Hp)(X:Ge->Prop)(v:V)(l:Lt):Prop:=∃c b d a,v=.ref c/\H c/.tup [b,d,a]/\Z8 H b l.1/\Z8 H d l.2.1/\Rc H X a l.2.2/\l.1.good/\l.2.1.good
inductive Wk(H:Hp)(X:Ge->Prop)(v:V)(ls:List Lt):Prop
 |mk (L:_) (vs:_) (h0:v=↑L) (h1:H L/.lst vs) (h2:¬X L) (h3:Dm (qQ H X) vs ls) (h4:⇑ls<=900000):Wk H X v ls
theorem Wk.kp{X:Ge->Prop}{H b:Hp}(a:Q8 H b)(f:∀{c:Ge}{d:List V},H c/.lst d->¬X c->b c/.lst d){v:V}{g:List Lt}(h:Wk H X v g):Wk b X v g:=by have(L,w,i,j,d,k,l):=h;exact{L,w,i,f j d,d,Qr k (by rintro _ _ ⟨c,t,u,s,m,n,o,p,q,r⟩;exact{c,t,u,s,m,a _ _ n,o.Qv a,p.Qv a,q.kp (λe=>a _ _ e) f,r}),l}
theorem Wk.ex{X Y:Ge->Prop}{H:Hp}(b:∀c a,H c/.lst a->¬X c->¬Y c){v:V}{d:List Lt}(h:Wk H X v d):Wk H Y v d:=by have(L,s,e,a,f,g,i):=h;exact{L,s,e,a,b _ _ a f,Qr g (by rintro _ _ ⟨c,q,r,p,j,k,l,m,n,o⟩;exact{c,q,r,p,j,k,l,m,n.ex b,o}),i}
theorem Pg{k:List V}(g:Zq H k ts)(e:∀t∈ts,t.good)(h:qH H X k v ls):Wk H X v (ls.map (lth ts))/\∀l∈ls,l.1<⇑ts/\l.2.1<⇑ts:=by
 have(L,d,s,u,y,o,w):=h;have a:=⇑g;have f:∀{d:List V}{ls:List Ln},Dm (iM H X k) d ls->Dm (qQ H X) d (ls.map (lth ts))/\∀l∈ls,l.1<⇑ts/\l.2.1<⇑ts:=by
  intro d ls h;induction h with
  |nil=>exact{.nil,λl b=>nomatch b}
  |@cons v l d ls x t p=>
   have(c,G,I,F,B,C,q,r,D):=x;have i:l.1<⇑ts:=by rw[<-a];exact(Gg.mp q).1
   have j:l.2.1<⇑ts:=by rw[<-a];exact(Gg.mp r).1
   have(J,m,z):=g.at (Wu i);have(K,n,A):=g.at (Wu j);rw[q]at m;rw[r]at n;cases m;cases n;refine{.cons {c,G,I,F,B,C,z,A,D,e _ (Gc (Wu i)),e _ (Gc (Wu j))} p.1,λE b=>?_};rcases Td.mp b with rfl|b
   .exact⟨i,j⟩
   .exact p.2 E b
 exact{{L,d,s,u,y,(f o).1,by rw[Gq];exact w},(f o).2}
structure lR(tl:Tl)(S:List Th)(rs:List Row):Prop where
 ex:∃L:Th->Nat,(∀s∈S,∀t∈S,L s=L t↔Cg tl s t)/\(∀t∈S,(t.word,t.parts.map L,L t)∈rs)/\∀r∈rs,∃t∈S,r=(t.word,t.parts.map L,L t)
 cl:∀t∈S,∀p∈t.parts,p∈S
 nd:(rs.map λr=>(r.1,r.2.1)).Nodup
 good:∀t∈S,t.good
 len:⇑rs<=1000
theorem Qrs[DecidableEq α]{l S:List α}(nd:l.Nodup)(h:∀p∈l,p∈S):⇑l<=⇑S:=by
 induction l generalizing S with
 |nil=>simp
 |cons a r c=>rw[Dw]at nd;have:=c (S:=S.erase a) nd.2 λp b=>(FI (show p≠a fromλz=>nd.1 (by rw[<-z];exact b))).mpr (h p (Gr _ b));have e:=L3 (h a G8);have d:0<⇑S:=Fl (h a G8);simp only[TW];ext
theorem rJ(g:∀t∈ts,t.good)(nd:ts.Nodup)(n:Uo ts){m:List Row}(l:iP (tfs ts) x.S)(a:⇑x.S<=1000)(W:A0 (tfs ts) x m)(h:∀p∈x.S,∀q∈x.S,x.zu p=x.zu q↔Cg tl (tg ts p) (tg ts q)):lR tl (x.S.map (tg ts)) m:=by
 have u:∀p∈x.S,p<⇑ts:=λp a=>by have:=l.lt p a;rwa[W0]at this
 have b:∀p∈x.S,ts[p]?/tg ts p:=λp a=>Wu (u p a);have d:∀p∈x.S,tg ts p∈ts:=λp a=>Gc (b p a);have j:∀p∈x.S,ts.idxOf (tg ts p)=p:=λp a=>Rq nd (b p a);have(N,n1,n2,n3):=W.ex;have f:∀p∈x.S,Vw (tfs ts) x N p=((tg ts p).word,(tg ts p).parts.map (λt=>N (x.zu (ts.idxOf t))),N (x.zu (ts.idxOf (tg ts p)))):=λp a=>by have(e,k):=Vo (b p a);unfold Vw;rw[e,k,Ds,j p a];rfl
 exists {λt=>N (x.zu (ts.idxOf t)),λs hs t ht=>?_,λt ht=>?_,λr i=>?_},λt ht q c=>?_,W.nd,λt ht=>?_
 .obtain⟨p,a,rfl⟩:=Tv.mp hs;have(q,c,rfl):=Tv.mp ht;dsimp only;rw[j p a,j q c,<-h p a q c];exact{n1 p a q c,λe=>by rw[e]}
 .obtain⟨p,a,rfl⟩:=Tv.mp ht;rw[<-f p a];exact n2 p a
 .obtain⟨p,a,rfl⟩:=n3 r i;exact{_,Tv.mpr ⟨p,a,Xb⟩,f p a}
 .obtain⟨p,a,rfl⟩:=Tv.mp ht;have e:=Wb n (d p a) q c;have(_,k):=Vo (b p a);have:ts.idxOf q∈Zx (tfs ts) p:=by rw[k];exact Tv.mpr ⟨q,c,Xb⟩
  exact Tv.mpr {_,l.Ol p a _ this,Ov e}
 .obtain⟨p,a,rfl⟩:=Tv.mp ht;exact g _ (d p a)
 .have e:=Qrs W.nd (S:=(x.S.map (Vw (tfs ts) x N)).map λr=>(r.1,r.2.1)) λz o=>by have(r,i,rfl):=Tv.mp o;have(p,a,rfl):=n3 r i;exact Tv.mpr {_,Tv.mpr ⟨p,a,Xb⟩,1}
  rw[Gq,Gq,Gq]at e;ext
def Vn(p t e:Ge):List (TQ×V):=[("places",↑p),("told",↑t),("entries",↑e)]
theorem Uy(p t e:Ge):(Vn p t e).lookup ("places":TQ)/↑p:=by rfl
theorem oz(p t e:Ge):(Vn p t e).lookup ("told":TQ)/↑t:=by rfl
theorem V1(p t e:Ge):(Vn p t e).lookup ("entries":TQ)/↑e:=by rfl
theorem vO(p t e:Ge):(Vn p t e).lookup ("answer":TQ)=Gp:=by rfl
theorem Qsd(p t e:Ge):(Vn p t e).lookup ("go_back":TQ)=Gp:=by rfl
theorem Q06(p t e:Ge):(Vn p t e).lookup ("tell":TQ)=Gp:=by rfl
theorem Pr(p t e:Ge):(Vn p t e).lookup ("ask":TQ)=Gp:=by rfl
theorem Rn(p t e:Ge):(Vn p t e).lookup ("lines_for":TQ)=Gp:=by rfl
theorem WU(a f d:Ge):(I9 a f d).lookup ("things":TQ)/↑a:=by rfl
theorem ph(a f d:Ge):(I9 a f d).lookup ("forms":TQ)/↑f:=by rfl
theorem KB(a f d:Ge):(I9 a f d).lookup ("place_of":TQ)=Gp:=by rfl
theorem VF(p t e a:Ge):Y0 "told" ↑a (Vn p t e)=Vn p a e:=by rfl
theorem zh(p t e a:Ge):Y0 "entries" ↑a (Vn p t e)=Vn p t a:=by rfl
def iX(ts:List Th):List En->Tl->Prop:=Dm λ(e:En)(p:Bool×Th×Th)=>e.1=tw p.1/\ts[e.2.1]?/p.2.1/\ts[e.2.2]?/p.2.2
structure Uj(P:Gn)(w:Ti)(CP CB:Ge)(H:Hp)(bk p a f d t e:Ge)(ts:List Th)(tl:Tl):Prop where
 ob:∃dx,H bk/.ins CB dx (Vn p t e)
 pl:Pl P w CP H p a f d ts
 to:∃vs,H t/.lst vs/\J0 H vs tl
 en:∃es ens,H e/.lst es/\Dm (iI H) es ens/\iX ts ens tl
 ta:t≠a
 tf:t≠f
 te:t≠e
 ea:e≠a
 ef:e≠f
structure iT(U ts:List Th)(tl:Tl):Prop where
 sub:∀t∈ts,t∈U
 cl:Uo U
 good:∀t∈U,t.good
 len:⇑U<=60
 tl:⇑tl<=900
theorem sr{l:List Th}(nd:l.Nodup)(h:∀p∈l,p∈S):⇑l<=⇑S:=by
 induction l generalizing S with
 |nil=>simp
 |cons a r c=>rw[Dw]at nd;have:=c (S:=S.erase a) nd.2 λp b=>(FI (show p≠a fromλz=>nd.1 (by rw[<-z];exact b))).mpr (h p (Gr _ b));have e:=L3 (h a G8);have d:0<⇑S:=Fl (h a G8);simp only[TW];ext
theorem iT.le(h:iT U ts tl)(nd:ts.Nodup):⇑ts<=60:=Dj (sr nd h.sub) h.len
def oQ(tl b:Tl)(n:Nat)(a c:Th):Prop:=tl[n]?=Ga (Gx,a,c)/\Cg b a c/\∀(j:Nat)d e,j<n->tl[j]?/(Gx,d,e)->¬Cg b d e
def Ro(H:Hp)(X:Ge->Prop)(tl:Tl):Dd->V->Prop
 |.back i,v=>v=(Jt tl (.back i)).2
 |.tell b s t,v=>(¬Vp (tl++[(b,s,t)])/\v=.int ((⇑tl:Int)+1))\/
   ∃d n a c e ls,v=.ref d/\H d/.tup [.str "clash",jv n,e]/\oQ (tl++[(b,s,t)]) (tl++[(b,s,t)]) n a c/\Wk H X e ls/\kg (tl++[(b,s,t)]) Gp ls/\∃r,ls.getLast?/(a,c,r)
 |.ask s t,v=>(Cg tl s t/\∃d e ls,v=.ref d/\H d/.tup [.str "equal",e]/\Wk H X e ls/\kg tl Gp ls/\∃r,ls.getLast?/(s,t,r))\/
   (¬Cg tl s t/\∃d n a c e ls,v=.ref d/\H d/.tup [.str "unlike",jv n,e]/\oQ tl (tl++[(Gk,s,t)]) n a c/\Wk H X e ls/\kg tl (Ga (s,t)) ls/\∃r,ls.getLast?/(a,c,r))\/
   (¬Cg tl s t/\(∀a c,(Gx,a,c)∈tl->¬Cg (tl++[(Gk,s,t)]) a c)/\∃d h j f g S,v=.ref d/\H d/.tup [.str "open",h,j]/\Ul H X h f/\Ul H X j g/\lR tl S f/\lR (tl++[(Gk,s,t)]) S g/\s∈S/\t∈S/\∀b a c,(b,a,c)∈tl->a∈S/\c∈S)
theorem Ro.kp{X:Ge->Prop}{H u:Hp}(f:Q8 H u)(p:∀{c:Ge}{b:List V},H c/.lst b->¬X c->u c/.lst b){z:Tl}:∀{d:Dd}{v:V},Ro H X z d v->Ro u X z d v
 |.back i,v,h=>h
 |.tell b s t,v,h=>by
  rcases h with h|⟨g,n,a,c,r,q,j,k,l,m,o⟩
  .exact .inl h
  .exact .inr {g,n,a,c,r,q,j,f _ _ k,l,m.kp f p,o}
 |.ask s t,v,h=>by
  rcases h with⟨b,g,r,q,j,k,l,m⟩|⟨b,g,n,a,c,r,q,j,k,l,m,o⟩|⟨b,w,g,A,B,x,y,S,j,k,l,m,o⟩
  .exact .inl {b,g,r,q,j,f _ _ k,l.kp f p,m}
  .exact .inr (.inl {b,g,n,a,c,r,q,j,f _ _ k,l,m.kp f p,o})
  .exact .inr (.inr {b,w,g,A,B,x,y,S,j,f _ _ k,l.kp (λe=>f _ _ e) p,m.kp (λe=>f _ _ e) p,o})
theorem Ro.ex{X Y:Ge->Prop}{H:Hp}(m:∀c b,H c/.lst b->¬X c->¬Y c){w:Tl}:∀{d:Dd}{v:V},Ro H X w d v->Ro H Y w d v
 |.back i,v,h=>h
 |.tell b s t,v,h=>by
  rcases h with h|⟨e,n,a,c,p,o,f,g,j,k,l⟩
  .exact .inl h
  .exact .inr {e,n,a,c,p,o,f,g,j,k.ex m,l}
 |.ask s t,v,h=>by
  rcases h with⟨b,e,p,o,f,g,j,k⟩|⟨b,e,n,a,c,p,o,f,g,j,k,l⟩|⟨b,q,e,x,y,r,u,S,f,g,j,k,l⟩
  .exact .inl {b,e,p,o,f,g,j.ex m,k}
  .exact .inr (.inl {b,e,n,a,c,p,o,f,g,j,k.ex m,l})
  .exact .inr (.inr {b,q,e,x,y,r,u,S,f,g,j.ex m,k.ex m,l})
theorem Aw(h:t.good):t.parts.length<=100:=by
 cases t with
 |mk u a=>have:=Zn a;have:=h.2.2;simp only[Th.size]at this;simp only[Th.parts];lia
theorem Qnt{p:Th}(h:p∈t.parts):p.depth<t.depth:=by
 cases t with
 |mk u a=>simp only[Th.parts]at h;have:=Wp h;simp only[Th.depth];ext
theorem Pd(h:t.ok=Gk):DK t.word=Gk:=by
 cases t with
 |mk u a=>simp only[Th.ok,Df]at h;exact h.1
theorem AH(h:¬p<ts.length):Yu (tfs ts) p=Lu/\Zx (tfs ts) p=[]:=by unfold Yu Zx tfs;rw[DR,Dl (by rw[Gq];ext)];exact⟨Xb,Xb⟩
theorem sX(nd:ts.Nodup)(d:Uo ts)(e:∀t∈ts,t.good)(a:⇑ts<=60):qm (tfs ts) (λp=>(tg ts p).depth)/\∀p,(tg ts p).depth<59:=by
 have a:∀{p:Nat},p<⇑ts->tg ts p∈ts:=λh=>Gc (Wu h);refine{{λp=>?_,λp=>?_,λp b q c=>?_,λp q b c f g=>?_,by rw[W0];ext},λp=>?_}
 .by_cases h:p<⇑ts
  .rw[(Vo (Wu h)).1];exact Pd (e _ (a h)).1
  .rw[(AH h).1];decide+kernel
 .by_cases h:p<⇑ts
  .rw[(Vo (Wu h)).2,Gq];exact Aw (e _ (a h))
  .rw[(AH h).2];exact Tw _
 .rw[W0]at b⊢;rw[(Vo (Wu b)).2]at c;have(s,hs,rfl):=Tv.mp c;have:=Wb d (a b) s hs;exists Si this;rw[Ov this];exact Qnt hs
 .rw[W0]at b c;have(k,i):=Vo (Wu b);have(l,j):=Vo (Wu c);rw[k,l]at f;rw[i,j]at g;have:=qt (ts:=ts) (Wb d (a b)) (Wb d (a c)) (RT f g);rw[<-Rq nd (Wu b),<-Rq nd (Wu c),this]
 .by_cases h:p<⇑ts
  .have:=(e _ (a h)).2.1;ext
  .have:tg ts p=.mk Lu []:=by unfold tg;rw[DR,Dl ∅];rfl
   rw[this];simp[Th.depth,Vs]
theorem sI{b:Bool}(h:("same":TQ)=tw b):b=Gk:=by
 cases b with
 |true=>rfl
 |false=>exact absurd h (by decide+kernel)
theorem ZD{b:Bool}(h:("unlike":TQ)=tw b):b=Gx:=by
 cases b with
 |true=>exact absurd h (by decide+kernel)
 |false=>rfl
theorem nh(R:iX ts ens tl){k:TQ}(h:ens[j]?/(k,p,q)):∃b,k=tw b/\tl[j]?/(b,tg ts p,tg ts q):=by have((b,s,t),a,c,d,e):=Qy R h;exact{b,c,by rw[a,Uq d,Uq e]}
theorem Rj(R:iX ts ens tl){b:Bool}{s:Th}(h:tl[j]?/(b,s,t)):∃p q,ens[j]?/(tw b,p,q)/\ts[p]?/s/\ts[q]?/t:=by
 have g:=GJ R;have c:j<⇑ens:=by rw[g];exact(Gg.mp h).1
 have((i,k,l),a,d,e,f):=Qy R (Gf c);rw[h]at a;cases a;refine{ens[j].2.1,ens[j].2.2,?_,e,f};rw[Gf c,<-d]
theorem rZ{c:List En}(R:iX ts ens tl)(g:∀p q,sme p q∈c↔sme p q∈ens):
  (∀a b,(Gk,a,b)∈tl->∃p q,(p,q)∈mY c/\ts[p]?/a/\ts[q]?/b)/\∀p q,(p,q)∈mY c->(Gk,tg ts p,tg ts q)∈tl:=by
 constructor
 .intro a b h;have(j,f):=Dh.mp h;have(p,q,e,d,i):=Rj R f;exact{p,q,U5.mpr ((g p q).mpr (Gc e)),d,i}
 .intro p q h;have(j,f):=Dh.mp ((g p q).mp (U5.mp h));have(b,e,d):=nh R f;rw[sI e]at d;exact Gc d
theorem vZ{b:Tl}(R:iX ts ens tl)(k:∀e∈ens,e.2.1∈x.S/\e.2.2∈x.S)(f:∀p∈x.S,∀q∈x.S,x.zu p=x.zu q↔Cg b (tg ts p) (tg ts q))(h:sG x ens Gp):∀a c,(Gx,a,c)∈tl->¬Cg b a c:=λa c n l=>by have(j,m):=Dh.mp n;have(p,q,d,g,i):=Rj R m;have(o,r):=k _ (Gc d);refine h j p q d ((f p o q r).mpr ?_);rw[Uq g,Uq i];exact l
theorem wU{a:Tl}{n:Nat}(R:iX ts ens tl)(l:∀e∈ens,e.2.1∈x.S/\e.2.2∈x.S)(i:∀p∈x.S,∀q∈x.S,x.zu p=x.zu q↔Cg a (tg ts p) (tg ts q))(h:sG x ens (Ga n)):
  ∃p q,ens[n]?/unl p q/\x.zu p=x.zu q/\p∈x.S/\q∈x.S/\oQ tl a n (tg ts p) (tg ts q):=by
 have((p,q,c,k),u):=h;have(r,t):=l _ (Gc c);have(b,v,ht):=nh R c;rw[ZD v]at ht;refine{p,q,c,k,r,t,ht,(i p r q t).mp k,λj B C y d w=>?_};have(o,s,m,z,A):=Rj R d;have(f,g):=l _ (Gc m);refine u j o s y m ((i o f s g).mpr ?_);rw[Uq z,Uq A];exact w
structure iK(K:Gd)(mg:TQ->Option Gh)(C:Ge):Prop where
 cl:ie K C
 places:Xh K C "places"
 told:Xh K C "told"
 entries:Xh K C "entries"
 mgC:mg "Book"/↑C
 no:∃u,mg "NO_MOMENT"/u/\zv (.str "no moment") u
structure yN(fs:List Fm)(x:Nn):Prop where
 inv:Wy (Yu fs) (Zx fs) x []
 fok:iP fs x.S
 len:⇑x.S<=60
 lk:⇑x.zm<64
 few:∀p,⇑(Zx fs p)<=100
inductive AI(P:Gn)(w:Ti)(C:Ge)(CP:Ge)(CB:Ge)(vs:List V)(H:Hp)(Q:VK):Prop
 |mk (bk:Ge) (p:Ge) (a:Ge) (f:Ge) (d:Ge) (t:Ge) (e:Ge) (ts:List Th) (tl:Tl) (n:Ge) (A:Na) (tb:Nat) (x:Nn) (ev:V) (k:TQ) (p1:Nat) (p2:Nat) (h0:vs=[↑bk,↑n,ev]) (h1:Uj P w CP CB H bk p a f d t e ts tl) (h2:iI H ev (k,p1,p2)) (h3:Yk P w C H n A (tfs ts) tb x) (h4:yN (tfs ts) x) (h5:p1∈x.S) (h6:p2∈x.S) (h7:x.zu p1=x.zu p2) (h8:(∀t∈ts,t.good)) (h9:∀(v:V)(ls:List Ln)(H':Hp),Q5 H H'->Wk H' (λb=>∃o,H b/o) v (ls.map (lth ts))->(∀l∈ls,l.1<⇑ts/\l.2.1<⇑ts)->iW (tfs ts) x.zm ls->(∃r,ls.getLast?/(p1,p2,r))->Q v H'):AI P w C CP CB vs H Q
def Ou(P:Gn)(w:Ti)(C b a:Ge):Sp:=λc H Q _=>AI P w C b a c H Q
theorem Uj.same{i c:Ge}{H j:Hp}{bk p a f d t e:Ge}{l:List Th}{k:Tl}(B:Uj P w i c H bk p a f d t e l k)(g:Q5 H j):Uj P w i c j bk p a f d t e l k:=by have(m,s):=B.ob;have(x,u,v):=B.to;have(r,b,n,o,q):=B.en;exact{{m,g _ _ s},B.pl.same g,{x,g _ _ u,v.Qv (Q8.of g)},{r,b,g _ _ n,Qr o λ_ _ h=>h.Qv (Q8.of g),q},B.ta,B.tf,B.te,B.ea,B.ef}
theorem Qmq:Q4 ["self","net","entry"] ["self","net","entry"] (Qm pD):=by eq_refl
theorem ZT(F:Wc K "lines_for" "Book.lines_for" pD f0 fd)(f:iK K mg CB)(TP:iC K mg CP)(z:Qz P w K mg base Z4 6 fB fdB ["things","net","one","other"] (y9 P w C))(S:KI K fB)(E:zk K fdB ["things","net","one","other"] [])(W:MG mg "lines_between" fB):
  Qz P w K mg base Z4 7 f0 fd ["self","net","entry"] (Ou P w C CP CB):=by
 refine F.ok Qmq (λvs A D y e=>?_) (λab b ac s A vs D y R e=>?_)
 .obtain⟨h,p,g,J,d,t,I,u,tl,n,b,r,x,ev,k,m,o,rfl,_⟩:=e;rfl
 have(h,p,g,J,d,t,I,u,tl,n,b,r,x,ev,k,m,o,rfl,c,(i,rfl,l),X,a,pS,qS,M,L,q):=e;exists _,Qg (Qu (Ze z R rfl W S E .nil Q7 (Qa (Qx (Qx {0}) rfl) (Qa {1} (Qa (Qn Qt {2} Qj) (Qa (Qn Qt {2} Qj) Qe))))));ac_nf;have(H,Y):=c.ob;have(G,Z):=c.pl.ob;have(us,u1,v):=c.pl.th;intros;refine{0,h,CB,H,30,Y,f.cl,f.places,Uy _ _ _,p,CP,G,30,Z,TP.cl,TP.nT,WU _ _ _,00,i,201,Qk l,Rp _ _ _,0,i,201,Qk l,jz _ _ _ _,g,n,b,tfs u,r,x,us,m,o,1,X,a.inv,a.fok,pS,qS,M,a.len,a.lk,a.few,u1,by rw[W0,⇑v],λaa V B j O N Q=>?_};have(T,U):=Pg (v.same j) L O;exact q aa V B j T U N Q
theorem ip.same{P:Gn}{w:Ti}{C:Ge}{b H a:Hp}{n:Ge}{A:Na}{c:List Fm}{d:Nat}{x:Nn}(N:ip P w C b H n A c d x)(g:Q5 H a):ip P w C b a n A c d x:={N.at_.same g,N.inv,N.fok,N.new,N.nn,N.sam.trans g,N.len,N.tt,N.cl,N.tbb}
theorem ip.lng(N:ip P w C H0 H n A fs tb x)(a:∀p,⇑(Zx fs p)<=100):yN fs x:={N.inv,N.fok,N.len,by have:=N.cl;have:=N.len;lia,a}
theorem ip.room(N:ip P w C H0 H n A fs tb x):⇑x.S<=10000/\Ji x<=10000/\cls x+⇑x.zm<=10000/\tb+cls x*Ji x<=900000:=by
 have b:=N.len;have a:=N.tt;have c:=N.cl;have d:=N.tbb;have e:⇑x.zm*Ji x+cls x*Ji x<=60*6000:=by rw[<-Le];exact BV (by lia) a
 exact{by lia,by lia,by lia,by lia}
inductive Kx(P:Gn)(w:Ti)(CP:Ge)(CB:Ge)(vs:List V)(H:Hp)(Q:VK):Prop
 |mk (bk:Ge) (p:Ge) (a:Ge) (f:Ge) (d:Ge) (t:Ge) (e:Ge) (ts:List Th) (tl:Tl) (U:List Th) (ev:V) (p1:Nat) (p2:Nat) (h0:vs=[↑bk,ev]) (h1:Uj P w CP CB H bk p a f d t e ts tl) (h2:iT U ts tl) (h3:iI H ev (("ask":TQ),p1,p2)) (h4:p1<⇑ts) (h5:p2<⇑ts) (h6:∀(v:V)(H':Hp),Q5 H H'->Ro H' (λb=>∃o,H b/o) tl (.ask (tg ts p1) (tg ts p2)) v->Q v H'):Kx P w CP CB vs H Q
def tr(P:Gn)(w:Ti)(b a:Ge):Sp:=λc H Q _=>Kx P w b a c H Q
theorem p7(R:iX ts ens tl):∀e∈ens,e.2.1<⇑ts/\e.2.2<⇑ts:=λe c=>by have(j,d):=Dh.mp c;have(y,_,_,a,b):=Qy R d;exact{(Gg.mp a).1,(Gg.mp b).1}
theorem rV(h:∃r,ls.getLast?/(p,q,r)):∃r,(ls.map (lth ts)).getLast?/(tg ts p,tg ts q,r):=by have(r,h):=h;exact{r,by rw[List.getLast?_map,h];rfl}
theorem uc:Q4 ["self","entry","net","apart","number"] ["self","entry"] (Qm jZ):=by eq_refl
theorem Q33{fE fM fC:Ge}{aF aG aE:Du}(F:Wc K "ask" "Book.ask" jZ f0 fd)(E:iK K mg CB)(TP:iC K mg CP)(TN:Jb K mg C)
  (GN:Qz P w K mg base Z4 61 fN fdN ["forms","told"] (oh P w C))(kN:KI K fN)(bN:zk K fdN ["forms","told"] [])(mN:MG mg "net_of" fN)
  (mE:Ym K C "equal" fE)(GE:Qz P w K mg base Z4 1 fE aF ["self","one","other"] (oA P w C))(bE:zk K aF ["self","one","other"] [])(mR:Ym K C "rows" fR)(GR:Qz P w K mg base Z4 2 fR fdR ["self"] (rm P w C))(bR:zk K fdR ["self"] [])
  (mM:Ym K C "merge" fM)(GM:Qz P w K mg base Z4 4 fM aG ["self","one","other","reason"] (rW P w C))(bM:zk K aG ["self","one","other","reason"] [])
  (GC:Qz P w K mg base Z4 2 fC aE ["net","entries"] (qJ P w C))(kC:KI K fC)(bC:zk K aE ["net","entries"] [])(mC:MG mg "least_clash" fC)
  (mL:Ym K CB "lines_for" fL)(GL:Qz P w K mg base Z4 7 fL fdL ["self","net","entry"] (Ou P w C CP CB))(bL:zk K fdL ["self","net","entry"] []):
  Qz P w K mg base Z4 62 f0 fd ["self","entry"] (tr P w CP CB):=by
 refine F.ok uc (λQ ab A z a=>?_) (λS U T s ab Q A z hr a=>?_)
 .obtain⟨M,p,b,ah,d,t,k,g,X,Y,ev,e,f,rfl,_⟩:=a;rfl
 have(M,p,b,ah,d,t,k,g,X,Y,ev,e,f,rfl,W,v,(l,rfl,ac),aH,aI,q):=a;have aZ:Yd 1 _:=hr.mono (by lia);have aq:Yd 2 _:=hr.mono (by lia);have a1:Yd 4 _:=hr.mono (by lia);have aJ:Yd 7 _:=hr.mono (by lia);have nd:=uc.nd;show∃t,Wf ?my _ t/\_;let a3:Vr ?my jZ 5:={_,Qc (Zc (Qo lW {4} Jk (Qs _)) (Qg (Qu (Zg (Qa Zo (Qa {4} (Qa (Zk {0} E.cl mL GL aJ bL .nil Q7 (Qa {2} (Qa (Qn Q9 (Qx {0}) {4}) Qe))) Qe)))))) Qw) (Qg (Qu (Zg (Qa Zo (Qa {3} (Qa (pK {2} TN.cl mR GR aq bR .nil Q7) Qe))))))}
 let a4:Vr ?my jZ 3:={_,Qc (Zl (Zk {2} TN.cl mM GM a1 bM .nil Q7 (Qa (Qn Qt {1} Qj) (Qa (Qn Qt {1} Qj) (Qa (Zg (Qa Zo Qe)) Qe))))) (Qc (Q3 4 nd (Ze GC aq rfl mC kC bC .nil Q7 (Qa {2} (Qa (Qx {0}) Qe)))) a3.2)}
 let a5:Vr ?my jZ 1:={_,Qc (Zc (Z2 (Zk {2} TN.cl mE GE aZ bE .nil Q7 (Qa (Qn Qt {1} Qj) (Qa (Qn Qt {1} Qj) Qe)))) (Qg (Qu (Zg (Qa Zo (Qa (Zk {0} E.cl mL GL aJ bL .nil Q7 (Qa {2} (Qa {1} Qe))) Qe))))) Qw) (Qc (Q3 3 nd (pK {2} TN.cl mR GR aq bR .nil Q7)) a4.2)}
 exists _,Qc (Q3 2 nd (Ze GN hr rfl mN kN bN .nil Q7 (Qa (Qx (Qx {0}) rfl) (Qa (Zy Jg (Qx {0}) (Zz (Qa {1} Qe))) Qe)))) a5.2;ac_nf;have(dx,o1):=W.ob;have(dp,o2):=W.pl.ob;have(ws,f1,f2):=W.pl.fo;have(I,H,e1,e2,R):=W.en;have ad:=W.pl.nd;have Z:=W.pl.cl;have aP:=v.le ad;have(TK,a2):=sX ad Z (λt ht=>v.good t (v.sub t ht)) aP;intros;have a6:⇑I=⇑X:=(GJ e2).trans (GJ R);have a7:=v.tl;refine{0,M,CB,dx,30,o1,E.cl,E.places,Uy _ _ _,p,CP,dp,30,o2,TP.cl,TP.nF,ph _ _ _,0,M,CB,dx,30,o1,E.cl,E.entries,V1 _ _ _,0,Uu,λr0 aY=>?_};have s0:=Qf aY (.lst [↑l]);refine{k,r0,I,[↑l],11,s0 _ _ e1,Qb,by rw[TD];simp only[Tg];lia,λr1 a0=>?_};have s1:=s0.trans (Qf a0 (.lst (I++[↑l])));have g1:(zj (zj ab r0 (.lst [↑l])) r1 (.lst (I++[↑l]))) r1/.lst (I++[↑l]):=Qb;generalize zj (zj ab r0 (.lst [↑l])) r1 (.lst (I++[↑l]))=H1 at s1 g1;have ar:=Q8.of s1;have aM:Dm (iI H1) (I++[↑l]) (H++[(("ask":TQ),e,f)]):=E5 (Qr e2 λ_ _ a=>a.Qv ar) {l,1,ar _ _ ac};refine{ah,r1,ws,_,tfs g,30,s1 _ _ f1,Qr f2 λ_ _ a=>a.Qv ar,g1,aM,TK,by rw[W0];exact aP,a2,λG ao=>?_,by rw[<-GJ aM,Gs,Tg];lia,λn U tb x H2 i _ Y=>?_}
 .rw[W0];rcases Gi.mp ao with a|a
  .exact p7 R G a
  .have:G=(("ask":TQ),e,f):=by simpa using a
   rw[this];exact⟨aH,aI⟩
 have L:Q5 ab H2:=s1.trans i.sam;have B:∀p q,sme p q∈H++[(("ask":TQ),e,f)]↔sme p q∈H:=λp q=>by
  rw[Gi];constructor
  .rintro(a|a)
   .exact a
   .rw[Tf]at a;exact absurd (show("same":TQ)="ask"from congrArg (·.1) a) (by decide+kernel)
  .exact .inl
 have(aN,aO):=rZ R B;have EQ:=qc Y;have an:∀p∈x.S,∀q∈x.S,x.zu p=x.zu q↔Cg X (tg g p) (tg g q):=λp hp q hq=>EQ.cg ad Z i.inv i.fok aN aO hp hq;have aQ:∀b c n,(b,c,Ga (.told n))∈x.zm->X[n]?/(Gk,tg g b,tg g c):=λb c n a=>by
  rcases Y.rsn _ a with h|⟨j,p',q',J,m⟩
  .cases h
  .cases J;have hj:n<⇑H:=by
    rcases Dn n ⇑H with a|a
    .exact a
    .rw[Dc a]at m;have:n - ⇑H=0:=by
      rcases Dn (n - ⇑H) 1 with z|z
      .lia
      .rw[Dl (by simpa using z)]at m;cases m
     rw[this]at m;have m:((("ask":TQ),e,f):En)=sme b c:=by simpa using m
     exact absurd (show("ask":TQ)="same"from congrArg (·.1) m) (by decide+kernel)
   rw[Tz hj]at m;have(Q,h3,A):=nh R m;rw[sI h3]at A;exact A
 have aL:∀b c,¬(b,c,Ga Ia.asked)∈x.zm:=λb c a=>by
  rcases Y.rsn _ a with h|⟨j,p',q',J,m⟩
  .cases h
  .cases J
 have(N,O):=Y.ins (("ask":TQ),e,f) ⋯;have N:e∈x.S:=N;have O:f∈x.S:=O;have aK:∀G∈H,G.2.1∈x.S/\G.2.2∈x.S:=λG ao=>Y.ins G (Gv _ ao);have(dn,on):=i.at_.ob;exists 0,n,dn,0,on,rj _,0,l,201,Qk (L _ _ ac),Rp _ _ _,0,l,201,Qk (L _ _ ac),jz _ _ _ _,n,U,_,tb,x,e,f,1,i.at_,N,O,0;by_cases ag:x.zu e=x.zu f
 .rw[Tk ag];refine Yw ?_;have hC:=(an e N f O).mp ag;refine{0,M,dx,0,L _ _ o1,Rn _ _ _,00,M,p,b,ah,d,t,k,g,X,n,U,tb,x,↑l,_,e,f,1,W.same L,{l,1,L _ _ ac},i.at_,i.lng TK.few,N,O,ag,(λt ht=>v.good t (v.sub t ht)),λlv ls H3 g3 hl hb hg ap=>?_};refine{Yz,λA Q=>?_};have z:=Qf Q (.tup [.str "equal",lv]);refine q _ _ ((L.trans g3).trans z) (.inl {hC,A,lv,ls.map (lth g),1,Qb,(hl.ex (by rintro o D _ B ⟨r,ho⟩;exact B {r,L _ _ ho})).kp (Q8.of z) (λk _=>z _ _ k),qL Z hg hb aQ (λb c a=>absurd a (aL b c)),rV ap})
 .rw[Tj ag];refine Q6 ?_;have hC:¬Cg X (tg g e) (tg g f):=λh=>ag ((an e N f O).mpr h);refine{0,n,dn,0,on,pz _,n,U,_,tb,x,1,i.at_,i.fok,i.inv,by have:=i.len;lia,λv1 aW H3 g3 aT W1=>?_};have S3:=L.trans g3;have N3:=i.same g3;refine{0,n,dn,0,g3 _ _ on,yV _,0,l,201,Qk (S3 _ _ ac),Rp _ _ _,0,l,201,Qk (S3 _ _ ac),jz _ _ _ _,Uu,λc4 aS=>?_};have s4:=Qf aS (.tup [.str "asked"]);have N4:=N3.same s4;have(z1,z2,z3,z4):=i.room;refine{n,U,_,tb,x,e,f,↑c4,Ga .asked,1,N4.at_,i.fok,⟨c4,Xb,Qb⟩,by simp,N,O,i.inv,z1,z2,z3,z4,λA H5 Y5 M5 F5=>?_};have Q:=N4.merged Y5 M5 F5;have S5:Q5 ab H5:=s1.trans Q.sam;have aR:=Q0y EQ M5 N O;have eS:=M5.S;have ai:∀p∈A.S,∀q∈A.S,A.zu p=A.zu q↔Cg (X++[(Gk,tg g e,tg g f)]) (tg g p) (tg g q):=λp hp q hq=>aR.cg ad Z Q.inv Q.fok (λb c a=>by
   rcases Gi.mp a with a|a
   .obtain⟨u,af,J,m⟩:=aN b c a;exact{u,af,Gv _ J,m}
   .have:(Gk,b,c)=(Gk,tg g e,tg g f):=by simpa using a
    cases this;exact{e,f,by simp,Wu aH,Wu aI}) (λu af a=>by
   rcases Gi.mp a with a|a
   .exact Gv _ (aO u af a)
   .have:(u,af)=(e,f):=by simpa using a
    cases this;simp) hp hq
  have ak:∀G∈H,G.2.1∈A.S/\G.2.2∈A.S:=by rw[eS];exact aK
  refine{00,M,CB,dx,30,S5 _ _ o1,E.cl,E.entries,V1 _ _ _,n,k,U,2,A,I,H,1,Q.at_,S5 _ _ e1,Qr e2 λ_ _ a=>a.Qv (Q8.of S5),ak,λr H6 g6 au=>?_};have z:=S5.trans g6;have S:=Q.same g6;have aX:∀{o:Ge}{D:List V},H3 o/.tup D->H6 o/.tup D:=λ{o D}ec=>g6 _ _ (F5.keep _ _ (s4 _ _ ec) (N4.at_.qb (s4 _ _ ec)));have aV:∀{o:Ge}{D:List V},H3 o/.lst D->¬(∃r,H2 o/r)->H6 o/.lst D:=λ{o D}ec B=>g6 _ _ (F5.keep _ _ (s4 _ _ ec) (λh=>B (by have:=i.at_.own h;rcases this with⟨_,a⟩|⟨_,a⟩|⟨_,a⟩|⟨_,a⟩<;>exact⟨_,a⟩)))
  have aU:=(aT.kp aX aV).ex (Y:=λc=>∃r,ab c/r) (by rintro o D _ B ⟨r,ho⟩;exact B {r,L _ _ ho});exists 4010;rw[oJ];cases r with
  |some ae=>
   refine Yw ?_;have(p',q',J,m,al,am,aC):=wU R ak ai au;have hm:ae<⇑I:=by rw[GJ e2];exact(Gg.mp J).1
   have(y,hy,aD):=Qy e2 (Gf hm);rw[J]at hy;cases hy;have(cm,aA,aB):=aD;refine{00,M,dx,0,z _ _ o1,Rn _ _ _,00,M,CB,dx,30,z _ _ o1,E.cl,E.entries,V1 _ _ _,0,k,I,301,Qi (z _ _ e1),Zi (Gf hm),M,p,b,ah,d,t,k,g,X,n,U,_,A,2,p',q',1,W.same z,{cm,aA,z _ _ aB},S.at_,S.lng TK.few,al,am,m,(λt ht=>v.good t (v.sub t ht)),λlv ls H7 g7 hl hb hg ap=>?_};refine{Vb,λc8 aj=>?_};have T:=Qf aj (.tup [.str "unlike",jv ae,lv]);refine q _ _ ((z.trans g7).trans T) (.inr (.inl {hC,c8,ae,2,lv,ls.map (lth g),1,Qb,aC,(hl.ex (by rintro o D _ B ⟨r,ho⟩;exact B {r,z _ _ ho})).kp (Q8.of T) (λk _=>T _ _ k),qL Z hg hb (λb c n a=>?_) (λb c a=>?_),rV ap}))
   .rcases M5.rsn _ a with h|h|h
    .exact aQ b c n h
    .cases h
    .cases h
   .rcases M5.rsn _ a with h|h|h
    .exact absurd h (aL b c)
    .cases h;rfl
    .cases h
  |none=>refine Q6 ?_;have aw:=vZ R ak ai au;have(av,ay):=S.at_.ob;refine{00,n,av,0,ay,pz _,n,U,2,A,1,S.at_,S.fok,S.inv,by have:=S.len;lia,λv2 az H7 g7 ax W2=>?_};refine{Vb,λc8 aj=>?_};have T:=Qf aj (.tup [.str "open",v1,v2]);have aa:=g7.trans T;refine q _ _ (z.trans aa) (.inr (.inr {hC,aw,c8,v1,v2,aW,az,x.S.map (tg g),1,Qb,aU.kp (λk=>aa _ _ k) (λk _=>aa _ _ k),(ax.ex (by rintro o D _ B ⟨r,ho⟩;exact B {r,z _ _ ho})).kp (λk=>T _ _ k) (λk _=>T _ _ k),rJ (λt ht=>v.good t (v.sub t ht)) ad Z i.fok (by have:=i.len;lia) W1 an,by rw[<-eS];exact rJ (λt ht=>v.good t (v.sub t ht)) ad Z Q.fok (by have:=Q.len;lia) W2 ai,Tv.mpr ⟨e,N,Xb⟩,Tv.mpr ⟨f,O,Xb⟩,λc b o hm=>?_}));have(j,hj):=Dh.mp hm;have(p',q',J,m,h3):=Rj R hj;have(al,am):=aK _ (Gc J);exact{Tv.mpr {p',al,Uq m},Tv.mpr {q',am,Uq h3}}
end
theorem AB(a:List V){i:Int}(b:0<=i)(b:i<=(⇑a:Int)):U8 a Gp (Ga i)=a.take i.toNat:=by
 unfold U8;rw[HT.R0];have:HT.Vf ⇑a ⇑a (Ga i)=i.toNat:=by show(if i<0 then(i+(⇑a:Int)).toNat else min i.toNat ⇑a)=_;rw[Gu (by lia)];lia
 rw[this];simp
theorem xJ(a f d p t e:Ge){c g b:Ge}:HO.ins C g (I9 a f d)=HO.ins c b (Vn p t e)->False:=λz=>by injection z with _ _ z;unfold I9 Vn at z;injection z with z _;injection z with z _;exact absurd z (by decide+kernel)
theorem Qvx(R:iX ts ens tl)(k:Nat):iX ts (ens.take k) (tl.take k):=by
 induction R generalizing k with
 |nil=>simp;exact .nil
 |cons h t a=>
  cases k with
  |zero=>exact .nil
  |succ k=>exact .cons h (a k)
theorem Re{c:Type}{F:α->c->Prop}{a:List α}{b:List c}(R:Dm F a b)(k:Nat):Dm F (a.take k) (b.take k):=by
 induction R generalizing k with
 |nil=>simp;exact .nil
 |cons h t d=>
  cases k with
  |zero=>exact .nil
  |succ k=>exact .cons h (d k)
structure wh(bk t:Ge)(H H':Hp):Prop where
 keep:∀b o,H b/o->b≠bk->b≠t->H' b/o
 there:∀b,H' b=Gp->H b=Gp
variable{p:Ge}
inductive uU(P:Gn)(w:Ti)(CP:Ge)(CB:Ge)(vs:List V)(H:Hp)(Q:VK):Prop
 |mk (bk:Ge) (p:Ge) (a:Ge) (f:Ge) (d:Ge) (t:Ge) (e:Ge) (ts:List Th) (tl:Tl) (U:List Th) (dv:V) (ev:V) (b:Bool) (p1:Nat) (p2:Nat) (h0:vs=[↑bk,dv,ev]) (h1:Uj P w CP CB H bk p a f d t e ts tl) (h2:iT U ts tl) (h3:jo H dv (.tell b (tg ts p1) (tg ts p2))) (h4:iI H ev (tw b,p1,p2)) (h5:p1<⇑ts) (h6:p2<⇑ts) (h7:∀(v:V)(e':Ge)(H':Hp),Uj P w CP CB H' bk p a f d t e' ts (Jt tl (.tell b (tg ts p1) (tg ts p2))).1->Ro H' (λb=>∃o,H b/o) tl (.tell b (tg ts p1) (tg ts p2)) v->wh bk t H H'->(e'=e\/H e'=Gp)->Q v H'):uU P w CP CB vs H Q
def yb(P:Gn)(w:Ti)(b a:Ge):Sp:=λc H Q _=>uU P w b a c H Q
inductive sY(P:Gn)(w:Ti)(CP:Ge)(CB:Ge)(vs:List V)(H:Hp)(Q:VK):Prop
 |mk (bk:Ge) (p:Ge) (a:Ge) (f:Ge) (d:Ge) (t:Ge) (e:Ge) (ts:List Th) (tl:Tl) (i:Int) (h0:vs=[↑bk,.int i]) (h1:Uj P w CP CB H bk p a f d t e ts tl) (h2:∀(v:V)(t' e':Ge)(H':Hp),Uj P w CP CB H' bk p a f d t' e' ts (Jt tl (.back i)).1->v=(Jt tl (.back i)).2->wh bk bk H H'->(t'=t\/H t'=Gp)->(e'=e\/H e'=Gp)->Q v H'):sY P w CP CB vs H Q
def wg(P:Gn)(w:Ti)(b a:Ge):Sp:=λc H Q _=>sY P w b a c H Q
section
variable{P:Gn}{w:Ti}{K:Gd}{mg:TQ->Option Gh}{base:Heap}
theorem zP:Q4 ["self","moment","forgotten"] ["self","moment"] (Qm oM):=by eq_refl
theorem Qrk(F:Wc K "go_back" "Book.go_back" oM f0 fd)(g:iK K mg CB)(B0:Ie mg):Qz P w K mg base Z4 1 f0 fd ["self","moment"] (wg P w CP CB):=by
 refine F.ok zP (λm n N ab b=>?_) (λah ag ak s n m N ab hr b=>?_)
 .obtain⟨c,p,O,U,d,t,a,ts,G,i,rfl,_⟩:=b;rfl
 have(c,p,O,U,d,t,a,ts,G,i,rfl,j,q):=b;have(nu,n1,n2):=g.no;have nd:=zP.nd;show∃t,Wf ?my _ t/\_;let ae:Vr ?my oM 1:={_,Qc (Zc (PW.pt (Yy (Qo Ud {1} Qj (Qs _)) (Xj (Qo Ud {2} Qj (Qs _))))) (Qg (Qu (mj rfl n1 n2))) Qw) (Qc (Xn {0} (Yg Ub (Qx {0}) Xl (Yn {1})) rfl) (Qc (Xn {0} (Yg Ub (Qx {0}) Xl (Yn {1})) rfl) (Qg (Qu {2}))))}
 exists _,Qc (Q3 2 nd (Zy jQ (Qp Zm rfl B0.len Tp (Qa (Qx {0}) Qe)) {1})) ae.2;ac_nf;have(k,f):=j.ob;have(dp,op):=j.pl.ob;have(m,Z,t2):=j.to;have(A,ai,S,T,R):=j.en;intros;have lv:=GJ t2;have le:=(GJ T).trans (GJ R);exists 0,c,CB,k,30,f,g.cl,g.told,oz _ _ _,t,m,1,.inl (Qi Z),0301;exists 403010;have Y:¬(0<=i/\i<=(⇑G:Int))->N (.str "no moment") n:=λb=>q _ t a n (by simp only[Jt];rw[Gu b];exact j) (by simp only[Jt];rw[Gu b]) {λ_ _ a _ _=>a,λ_ b=>b} (.inl Xb) (.inl Xb);by_cases hi:i<0
 .rw[Tk hi];refine Yw (Yw ?_);exact Y (λaf=>by ext)
 rw[Tj hi];refine Q6 {03010,?_};by_cases W:(⇑m:Int) - i<0
 .rw[Tk W];refine Yw ?_;exact Y (λaf=>by ext)
 rw[Tj W];refine Q6 ?_;have B:0<=i:=by ext
 have V:i<=(⇑G:Int):=by ext
 refine{0,c,CB,k,30,f,g.cl,g.told,oz _ _ _,00,t,m,1,Qi Z,λl y=>?_};rw[AB m B ∅];have L:=Qf y (.lst (m.take i.toNat));exists 0,c,CB,k,0,L _ _ f,g.cl,g.told,(by show 3<1000;decide);rw[VF];have Q:c≠l:=Qd f y;have be:a≠c:=Ys S f nofun;generalize C:zj (zj n l (.lst (m.take i.toNat))) c (.ins CB k (Vn p l a))=v;have D:∀{e h},n e/h->e≠c->v e/h:=λa b=>by rw[<-C];exact Ql (L _ _ a) b
 have J:v c/.ins CB k (Vn p l a):=by rw[<-C];exact Qb
 have aa:v l/.lst (m.take i.toNat):=by rw[<-C];exact Ql Qb (GQ Q)
 have X:∀{e},v e=Gp->n e=Gp:=λ{e}b=>by rw[<-C]at b;exact L.free (Yf b)
 refine{0,c,CB,k,30,J,g.cl,g.entries,V1 _ _ _,00,a,A,1,Qi (D S be),λo r=>?_};rw[AB A B ∅];have E:=Qf r (.lst (A.take i.toNat));exists 0,c,CB,k,0,E _ _ J,g.cl,g.entries,(by show 3<1000;decide);rw[zh];have ac:c≠o:=Qd J r;have ad:l≠o:=Qd aa r;generalize x:zj (zj v o (.lst (A.take i.toNat))) c (.ins CB k (Vn p l o))=z;have u:∀{e h},n e/h->e≠c->z e/h:=λa b=>by rw[<-x];exact Ql (E _ _ (D a b)) b
 have M:Q8 n z:=λe xs a=>u a (Ys a f nofun);ac_nf;have(us,H,_):=j.pl.th;have(ws,I,_):=j.pl.fo;have(aj,d1,_):=j.pl.kn;intros;have BK:Uj P w CP CB z c p O U d l o ts (G.take i.toNat):=by
  exists {k,by rw[<-x];exact Qb},j.pl.keep (λh a=>u a (Ys op f (xJ _ _ _ _ _ _))) (λh a=>u a (Ys H f nofun)) (λh a=>u a (Ys I f nofun)) (λh a=>u a (Ys d1.at_ f nofun)) M,{_,by rw[<-x];exact Ql (E _ _ aa) (GQ Q),J0.Qv M (Re t2 _)},{2,by rw[<-x];exact Ql Qb (GQ ac),Qr (Re T _) λ_ _ b=>b.Qv M,Qvx R _},GQ (Qd H y),GQ (Qd I y),ad,?_
  .exact GQ (Qd (D H (Ys H f nofun)) r)
  .exact GQ (Qd (D I (Ys I f nofun)) r)
 refine{0,q _ l o z (by simp only[Jt];rw[GY ⟨B,V⟩];exact BK) (by simp only[Jt];rw[GY ⟨B,V⟩,lv]) {λe h a b _=>u a b,λe b=>X (by rw[<-x]at b;exact E.free (Yf b))} (.inr y) (.inr (X r))}
theorem yU:Q4 ["self","deed","entry","entries","net","number"] ["self","deed","entry"] (Qm kq):=by eq_refl
theorem WW{fC:Ge}{aj:Du}(F:Wc K "tell" "Book.tell" kq f0 fd)(A:iK K mg CB)(TP:iC K mg CP)(B0:Ie mg)
  (GN:Qz P w K mg base Z4 61 fN fdN ["forms","told"] (oh P w C))(kN:KI K fN)(bN:zk K fdN ["forms","told"] [])(mN:MG mg "net_of" fN)
  (GC:Qz P w K mg base Z4 2 fC aj ["net","entries"] (qJ P w C))(kC:KI K fC)(bC:zk K aj ["net","entries"] [])(mC:MG mg "least_clash" fC)
  (mL:Ym K CB "lines_for" fL)(GL:Qz P w K mg base Z4 7 fL fdL ["self","net","entry"] (Ou P w C CP CB))(bL:zk K fdL ["self","net","entry"] []):
  Qz P w K mg base Z4 62 f0 fd ["self","deed","entry"] (yb P w CP CB):=by
 refine F.ok yU (λY G N L c=>?_) (λO ac X s G Y N L hr c=>?_)
 .obtain⟨l,p,g,aa,d,t,b,e,r,E,dv,ev,a,B,D,rfl,_⟩:=c;rfl
 have(l,p,g,aa,d,t,b,e,r,E,dv,ev,a,B,D,rfl,f,J,aA,(i,rfl,az),aG,aH,q):=c;have aJ:Yd 2 _:=hr.mono (by lia);have aK:Yd 7 _:=hr.mono (by lia);have nd:=yU.nd;show∃t,Wf ?my _ t/\_;let aV:Vr ?my kq 4:={_,Qc (Zl (Xx Te Tx TB Z0 (Qx {0}) (Qa {1} Qe))) (Qc (Xn {0} {3} rfl) (Qg (Qu (Qp Zm rfl B0.len Tp (Qa {3} Qe)))))}
 let aW:Vr ?my kq 3:={_,Qc (Zc (Qo lW {5} Jk (Qs _)) (Qg (Qu (Zg (Qa Zo (Qa {5} (Qa (Zk {0} A.cl mL GL aK bL .nil Q7 (Qa {4} (Qa (Qn Q9 {3} {5}) Qe))) Qe)))))) Qw) aV.2}
 let aX:Vr ?my kq 1:={_,Qc (Q3 4 nd (Ze GN hr rfl mN kN bN .nil Q7 (Qa (Qx (Qx {0}) rfl) (Qa {3} Qe)))) (Qc (Q3 5 nd (Ze GC aJ rfl mC kC bC .nil Q7 (Qa {4} (Qa {3} Qe)))) aW.2)}
 exists _,Qc (Q3 3 nd (Zy Jg (Qx {0}) (Zz (Qa {2} Qe)))) aX.2;ac_nf;have(I,k):=f.ob;have(dp,o2):=f.pl.ob;have(ws,f1,f2):=f.pl.fo;have(us,u1,_):=f.pl.th;have(a0,d1,_):=f.pl.kn;have(Y,T,t2):=f.to;have(v,ai,e1,e2,R):=f.en;have ae:=f.pl.nd;have ad:=f.pl.cl;have ap:=J.le ae;have(TK,aQ):=sX ae ad (λt ht=>J.good t (J.sub t ht)) ap;intros;have aB:⇑v=⇑r:=(GJ e2).trans (GJ R);have aZ:⇑Y=⇑r:=GJ t2;have aY:=J.tl;refine{0,l,CB,I,30,k,A.cl,A.entries,V1 _ _ _,0,Uu,λr0 aI=>?_};have s0:=Qf aI (.lst [↑i]);refine{b,r0,v,[↑i],11,s0 _ _ e1,Qb,by rw[TD];simp only[Tg];lia,λh al=>?_};have W:G h=Gp:=s0.free al;have S:=s0.trans (Qf al (.lst (v++[↑i])));have g1:(zj (zj G r0 (.lst [↑i])) h (.lst (v++[↑i]))) h/.lst (v++[↑i]):=Qb;generalize zj (zj G r0 (.lst [↑i])) h (.lst (v++[↑i]))=H1 at S g1;have af:=Q8.of S;have Q:Dm (iI H1) (v++[↑i]) (ai++[(tw a,B,D)]):=E5 (Qr e2 λ_ _ c=>c.Qv af) {i,1,af _ _ az};have M:iX e (ai++[(tw a,B,D)]) (r++[(a,tg e B,tg e D)]):=E5 R {1,Wu aG,Wu aH};refine{0,l,CB,I,30,S _ _ k,A.cl,A.places,Uy _ _ _,p,CP,dp,30,S _ _ o2,TP.cl,TP.nF,ph _ _ _,0,aa,h,ws,_,tfs e,30,S _ _ f1,Qr f2 λ_ _ c=>c.Qv af,g1,Q,TK,by rw[W0];exact ap,aQ,λen aC=>by rw[W0];exact p7 M en aC,by rw[<-GJ Q,Gs,Tg];lia,λn ac tb x H2 H _ E=>?_};have S2:Q5 G H2:=S.trans H.sam;have(aR,aS):=rZ M (λp q=>Ag);have EQ:=qc E;have ah:∀p∈x.S,∀q∈x.S,x.zu p=x.zu q↔Cg (r++[(a,tg e B,tg e D)]) (tg e p) (tg e q):=λp hp q hq=>EQ.cg ae ad H.inv H.fok aR aS hp hq;have aT:∀g b' n,(g,b',Ga (.told n))∈x.zm->(r++[(a,tg e B,tg e D)])[n]?/(Gk,tg e g,tg e b'):=λg b' n c=>by
  rcases E.rsn _ c with ag|⟨j,p',q',m,z⟩
  .cases ag
  .cases m;have(O,N,L):=nh M z;rw[sI N]at L;exact L
 have aM:∀g a,¬(g,a,Ga Ia.asked)∈x.zm:=λg a c=>by
  rcases E.rsn _ c with ag|⟨j,p',q',m,z⟩
  .cases ag
  .cases m
 refine{00,n,h,ac,_,tb,x,30,H.at_,H.sam _ _ g1,Qr Q λ_ _ c=>c.Qv (Q8.of H.sam),E.ins,λo H3 g3 ak=>?_};have u:=S2.trans g3;have U:=H.same g3;have am:=U.sam _ _ g1;exists 4010;rw[oJ];cases o with
 |some O=>
  refine Yw ?_;have(p',q',m,z,aN,aO,N):=wU M E.ins ah ak;have hm:O<⇑(v++[V.ref i]):=by rw[GJ Q];exact(Gg.mp m).1
  have(y,hy,aL):=Qy Q (Gf hm);rw[m]at hy;cases hy;have(cm,aw,ay):=aL;refine{00,l,I,0,u _ _ k,Rn _ _ _,000,h,201,Qi am,Zi (Gf hm),l,p,g,aa,d,t,b,e,r,n,ac,_,x,2,p',q',1,f.same u,{cm,aw,U.sam _ _ ay},U.at_,U.lng TK.few,aN,aO,z,(λt ht=>J.good t (J.sub t ht)),λlv ls H7 g7 hl hb hg aD=>?_};refine{Vb,λc8 ax=>?_};have X:=Qf ax (.tup [.str "clash",jv O,lv]);have L:=(u.trans g7).trans X;have ab:Vp (r++[(a,tg e B,tg e D)]):={2,Gc N.1,N.2.1};refine q _ b _ (by simp only[Jt];rw[GY ab];exact f.same L) (.inr {c8,O,2,lv,ls.map (lth e),1,Qb,N,(hl.ex (by rintro Z ys _ hx ⟨o,ho⟩;exact hx {o,u _ _ ho})).kp (Q8.of X) (λb _=>X _ _ b),qL ad hg hb aT (λg a c=>absurd c (aM g a)),rV aD}) {λa o b _ _=>L _ _ b,λa c=>L.free c} (.inl Xb)
 |none=>
  refine Q6 ?_;have aF:=vZ M E.ins ah ak;have ab:¬Vp (r++[(a,tg e B,tg e D)]):=(by rintro⟨g,Z,m,z⟩;exact aF g Z m z);have t3:=u _ _ T;exists 0,l,CB,I,30,u _ _ k,A.cl,A.told,oz _ _ _,.inl {13,Qi t3},0,t,Y,01,t3,(by rw[TD];lia);have tb:t≠l:=Ys T k nofun;exists 00,l,CB,I,0,Ql (u _ _ k) (GQ tb),A.cl,A.entries,(by show 3<1000;decide);rw[zh];have ao:t≠h:=Qd T W;have aP:l≠h:=Qd k W;generalize N:zj (zj H3 t (.lst (Y++[dv]))) l (.ins CB I (Vn p t h))=L;have O:∀{a o},G a/o->a≠l->a≠t->L a/o:=λb m z=>by rw[<-N];exact Ql (Ql (u _ _ b) z) m
  have X:Q8 G L:=λa xs b=>O b (Ys b k nofun) (Ys b T nofun);have an:L h/.lst (v++[↑i]):=by rw[<-N];exact Ql (Ql am (GQ ao)) (GQ aP)
  have aU:Q8 H1 L:=λZ xs ec=>by have:H3 Z/.tup xs:=U.sam _ _ ec;rw[<-N];exact Ql (Ql this (Ys this t3 nofun)) (Ys this (u _ _ k) nofun)
  have(ca,v1,v2,aq,ar,au,av):=aA;have BK:Uj P w CP CB L l p g aa d t h e (r++[(a,tg e B,tg e D)]):=by refine{{I,by rw[<-N];exact Qb},f.pl.keep (λo b=>O b (Ys o2 k (xJ _ _ _ _ _ _)) (Ys o2 T nofun)) (λo b=>O b (Ys u1 k nofun) (GQ f.ta)) (λo b=>O b (Ys f1 k nofun) (GQ f.tf)) (λo b=>O b (Ys d1.at_ k nofun) (Ys d1.at_ T nofun)) X,{_,by rw[<-N];exact Ql Qb tb,E5 (t2.Qv X) {ca,v1,v2,aq,X _ _ ar,au.Qv X,av.Qv X}},{2,an,Qr Q λ_ _ c=>c.Qv aU,M},f.ta,f.tf,ao,GQ (Qd u1 W),GQ (Qd f1 W)}
  exists 0,h,0,.inl (Qi an);have aE:(⇑(v++[V.ref i]):Int)=(⇑r:Int)+1:=by rw[Gs,Tg,aB];lia
  rw[aE];exact q _ h L (by simp only[Jt];rw[Gu ab];exact BK) (.inl ⟨ab,Xb⟩) {λa o b m z=>O b m z,λa c=>u.free (by rw[<-N]at c;exact Yf (Yf c))} (.inr W)
structure mX(bk a f d t:Ge)(H H':Hp):Prop where
 keep:∀b o,H b/o->b≠bk->b≠a->b≠f->b≠d->b≠t->H' b/o
 there:∀b,H' b=Gp->H b=Gp
inductive tN(P:Gn)(w:Ti)(CP:Ge)(CB:Ge)(vs:List V)(H:Hp)(Q:VK):Prop
 |mk (bk:Ge) (p:Ge) (a:Ge) (f:Ge) (d:Ge) (t:Ge) (e:Ge) (ts:List Th) (tl:Tl) (U:List Th) (dv:V) (dd:Dd) (h0:vs=[↑bk,dv]) (h1:Uj P w CP CB H bk p a f d t e ts tl) (h2:iT U ts tl) (h3:jo H dv dd) (h4:dd.fits U) (h5:∀(v:V)(t' e':Ge)(ts':List Th)(H':Hp),Uj P w CP CB H' bk p a f d t' e' ts' (Jt tl dd).1->Ro H' (λb=>(∃o,H b/o)\/b=t') tl dd v->(∀x∈ts',x∈U)->mX bk a f d t H H'->(t'=t\/H t'=Gp)->(e'=e\/H e'=Gp)->Q v H'):tN P w CP CB vs H Q
def oX(P:Gn)(w:Ti)(b a:Ge):Sp:=λc H Q _=>tN P w b a c H Q
inductive vX(P:Gn)(w:Ti)(CP:Ge)(CB:Ge)(vs:List V)(H:Hp)(Q:VK):Prop
 |mk (bk:Ge) (dx:Ge) (h0:vs=[↑bk]) (h1:H bk/.ins CB dx []) (h2:∀(p a f d t e:Ge)(H':Hp),Uj P w CP CB H' bk p a f d t e [] []->(∀b o,H b/o->b≠bk->H' b/o)->H a=Gp->H f=Gp->H d=Gp->H t=Gp->H e=Gp->Q .non H'):vX P w CP CB vs H Q
def rG(P:Gn)(w:Ti)(b a:Ge):Sp:=λc H Q _=>vX P w b a c H Q
theorem qe{m:List Th}(h:ts[j]?/t):(ts++m)[j]?/t:=by rw[Tz (Gg.mp h).1];exact h
theorem Uj.place{bk a t e:Ge}{m:List Th}(B:Uj P w CP CB H bk p a f d t e ts tl)(x:Pl P w CP H' p a f d (ts++m))(F:hI a f d H H'):Uj P w CP CB H' bk p a f d t e (ts++m) tl:=by have(l,b):=B.ob;have(y,s,_):=B.pl.th;have(z,v,_):=B.pl.fo;have(q,c,_):=B.pl.kn;have(u,j,r):=B.to;have(o,g,i,n,R):=B.en;have k:=F.Qv B.pl;refine{{l,F.keep _ _ b (Ys b s nofun) (Ys b v nofun) (Ys b c.at_ nofun)},x,{u,F.keep _ _ j B.ta B.tf (Ys j c.at_ nofun),r.Qv k},{o,g,F.keep _ _ i B.ea B.ef (Ys i c.at_ nofun),Qr n λ_ _ h=>h.Qv k,Qr R λ_ _ h=>{h.1,qe h.2.1,qe h.2.2}},B.ta,B.tf,B.te,B.ea,B.ef}
theorem iT.grow(F:iT U ts tl)(ht:t∈U):iT U (Xe ts t.inside) tl:=⟨λs hs=>by
 rw[oe]at hs;rcases hs with h|h
 .exact F.sub s h
 .exact F.cl t ht s h,F.cl,F.good,F.len,F.tl⟩
theorem WY:Q4 ["self"] ["self"] (Qm pZ):=by eq_refl
theorem WG(F:Wc K "__init__" "Book.__init__" pZ f0 fd)(h:iK K mg CB)(TP:iC K mg CP)(M:Mk K CP fI)(L:Qz P w K mg base Z4 1 fI fdI ["self"] (qI P w CP))(Q:zk K fdI ["self"] []):Qz P w K mg base Z4 3 f0 fd ["self"] (rG P w CP CB):=by
 refine F.ok WY (λvs r N J z=>?_) (λad ab ai s r vs N J X z=>?_)
 .obtain⟨c,f,rfl,_⟩:=z;rfl
 have(c,f,rfl,A,q):=z;exists _,Qc (Xn {0} (nR M L X rfl TP.mgC Q .nil Q7) rfl) (Qc (Xn {0} (Zz Qe) rfl) (Qg (Xn {0} (Zz Qe) rfl)));intro p x B V af;have u:Q5 r (zj (zj r x (.own p)) p (.ins CP x [])):=λac e a=>Ql (Ql a (Qd a V)) (Qd a B);refine{p,x,1,Qb,λO S d v o Y T W U=>{1,?_}};have k:Q5 r v:=λg e a=>Y g e (u _ _ a) (Qd a B);have Z:p≠c:=GQ (Qd A B);ac_nf;have(ae,ah):=o.ob;have(us,D,_):=o.th;have(ws,E,_):=o.fo;have(ag,R,_):=o.kn;intros;refine{0,c,CB,f,[],1,k _ _ A,h.cl,h.places,by show 0<1000;decide,Tw _,λt ht=>?_};have i:=k _ _ A;have n:=Yf ht;have C:t≠c:=GQ (Qd i n);refine{0,c,CB,f,0,Ql Qb (GQ C),h.cl,h.told,by show 1<1000;decide,Tw _,λa I=>?_};have m:=Yf (Yf (Yf I));have G:a≠c:=GQ (Qd i m);have H:t≠a:=λaa=>by have:=Yf I;rw[<-aa,Qb]at this;cases this
 exists 0,c,CB,f,0,Ql Qb (GQ G),h.cl,h.entries,(by show 2<1000;decide);have j:∀{g e},v g/e->g≠c->(zj (zj (zj (zj (zj v c (.ins CB f (Y0 "places" ↑p []))) t (.lst [])) c (.ins CB f (Y0 "told" ↑t (Y0 "places" ↑p [])))) a (.lst [])) c (.ins CB f (Y0 "entries" ↑a (Y0 "told" ↑t (Y0 "places" ↑p []))))) g/e:=λy l=>Ql (Ql (Ql (Ql (Ql y l) (Qd y n)) l) (Qd y m)) l;refine q p O S d t a _ {⟨f,Qb⟩,o.keep (λe b=>j b Z) (λe b=>j b (Ys D i nofun)) (λe b=>j b (Ys E i nofun)) (λe b=>j b (Ys R.at_ i nofun)) (λg xs b=>j b (Ys b i nofun)),{[],Ql (Ql (Ql Qb C) H) C,.nil},{[],[],Ql Qb G,.nil,.nil},GQ (Qd D n),GQ (Qd E n),H,GQ (Qd D m),GQ (Qd E m)} (λg e b l=>j (k _ _ b) l) (u.free T) (u.free W) (u.free U) (k.free n) (k.free m)
theorem yz:Q4 ["self","deed","entry"] ["self","deed"] (Qm lC):=by eq_refl
theorem Qz6{f:V}{e:Dd}(h:jo H f e):∃c k m,f=.ref c/\H c/.tup (.str k::m)/\(k="back"↔∃i,e=.back i)/\(k="ask"↔∃s t,e=.ask s t):=by
 cases e with
 |tell b s t=>
  have(c,g,l,a,d,_):=h;refine{c,2,a,d,{λz=>?_,λ⟨i,z⟩=>by cases z},{λz=>?_,λ⟨i,j,z⟩=>by cases z}}
  .cases b<;>exact absurd z (by decide+kernel)
  .cases b<;>exact absurd z (by decide+kernel)
 |ask s t=>have(c,g,l,a,d,_):=h;exact{c,2,a,d,{λz=>absurd z (by decide+kernel),λ⟨i,z⟩=>by cases z},{λz=>⟨s,t,rfl⟩,λ_=>rfl}}
 |back i=>have(c,a,d):=h;exact{c,2,a,d,{λz=>⟨i,Xb⟩,λ_=>rfl},{λz=>absurd z (by decide+kernel),λ⟨i,j,z⟩=>by cases z}}
theorem K9{fG fP fT:Ge}{ak al am:Du}(F:Wc K "answer" "Book.answer" lC f0 fd)(z:iK K mg CB)(TP:iC K mg CP)
  (mG:Ym K CB "go_back" fG)(GG:Qz P w K mg base Z4 1 fG ak ["self","moment"] (wg P w CP CB))(bG:zk K ak ["self","moment"] [])(mP:Ym K CP "place_of" fP)(GP:Qz P w K mg base Z4 52 fP al ["self","thing"] (Ob P w CP))(bP:zk K al ["self","thing"] [])
  (mA:Ym K CB "ask" fA)(GA:Qz P w K mg base Z4 62 fA fdA ["self","entry"] (tr P w CP CB))(bA:zk K fdA ["self","entry"] [])(mT:Ym K CB "tell" fT)(GT:Qz P w K mg base Z4 62 fT am ["self","deed","entry"] (yb P w CP CB))(bT:zk K am ["self","deed","entry"] []):
  Qz P w K mg base Z4 63 f0 fd ["self","deed"] (oX P w CP CB):=by
 refine F.ok yz (λW N V L D=>?_) (λaw av ax s N W V L hr D=>?_)
 .obtain⟨n,p,A,C,d,t,S,v,tl,R,dv,Z,rfl,_⟩:=D;rfl
 have(n,p,A,C,d,t,S,v,tl,R,dv,Z,rfl,e,Q,aa,ab,q):=D;have aD:Yd 1 _:=hr.mono (by lia);have aq:Yd 52 _:=hr.mono (by lia);have nd:=yz.nd;show∃t,Wf ?my _ t/\_;let aI:Vr ?my lC 2:={_,Qc (Zc (Qo Xy (Qn Qt {1} Qj) Zo (Qs _)) (Qg (Qu (Zk {0} z.cl mA GA hr bA .nil Q7 (Qa {2} Qe)))) Qw) (Qg (Qu (Zk {0} z.cl mT GT hr bT .nil Q7 (Qa {1} (Qa {2} Qe)))))}
 let aJ:Vr ?my lC 1:={_,Qc (Q3 2 nd (Zg (Qa (Qn Qt {1} Qj) (Qa (Zk (Qx {0}) TP.cl mP GP aq bP .nil Q7 (Qa (Qn Qt {1} Qj) Qe)) (Qa (Zk (Qx {0}) TP.cl mP GP aq bP .nil Q7 (Qa (Qn Qt {1} Qj) Qe)) Qe))))) aI.2}
 exists _,Qc (Zc (Qo Xy (Qn Qt {1} Qj) Zo (Qs _)) (Qg (Qu (Zk {0} z.cl mG GG aD bG .nil Q7 (Qa (Qn Qt {1} Qj) Qe)))) Qw) aJ.2;ac_nf;have(dx,o1):=e.ob;have(o,k,xs,rfl,H,kb,ka):=Qz6 aa;intros;exists 0,o,201,Qk H,Of _ _,10;rw[Zp];ac_nf;have(us,u1,_):=e.pl.th;have(ws,w1,_):=e.pl.fo;have(aL,d1,_):=e.pl.kn;have(aQ,t1,_):=e.to;intros;by_cases hb:k="back"
 .subst hb;rw[LJ];refine Yw ?_;have(i,rfl):=kb.mp rfl;have(Y,f,g):=aa;cases f;refine{0,n,dx,0,o1,Qsd _ _ _,0,o,201,Qk g,Rp _ _ _,n,p,A,C,d,t,S,v,tl,i,1,e,λU t' e' W V I L ad ac=>?_};exact q U t' e' v W V I Q.sub {λa j h f _ _ _ _=>L.keep a j h f f,L.there} ad ac
 have aF:(k==("back":TQ))=Gx:=by simpa using hb
 rw[aF];refine Q6 ?_;ac_nf;obtain⟨s,c,l,m,aE,i1,i2,hs,ht,aB⟩:∃s c l m,xs=[l,m]/\Z8 N l s/\Z8 N m c/\s∈R/\c∈R/\((k="ask"/\Z=.ask s c)\/(k≠"ask"/\∃a,k=tw a/\Z=.tell a s c)):=by
  cases Z with
  |tell a s c=>have(Y,l,m,f,g,E,G):=aa;cases f;rw[H]at g;cases g;exact{s,c,l,m,1,E,G,ab.1,ab.2,.inr {(λb=>by have(_,_,b):=ka.mp b;cases b),a,rfl,rfl}}
  |ask s c=>have(Y,l,m,f,g,E,G):=aa;cases f;rw[H]at g;cases g;exact{s,c,l,m,1,E,G,ab.1,ab.2,.inl ⟨Xb,Xb⟩}
  |back i=>exact absurd (kb.mpr ⟨i,Xb⟩) hb
 intros;subst aE;have(dp,op):=e.pl.ob;have gs:=Q.good s hs;have gt:=Q.good c ht;have aM:=Q.le e.pl.nd;refine{0,o,201,Qk H,Of _ _,0,n,CB,dx,30,o1,z.cl,z.places,Uy _ _ _,p,dp,0,op,KB _ _ _,0,o,201,Qk H,Rp _ _ _,p,l,s,A,C,d,v,1,e.pl,i1,gs.1,by have:=gs.2.1;lia,by have:=gs.2.2;lia,λr H1 x1 aC F1=>?_};have(m1,aj):=Ug s.inside v;have ar:=x1;rw[aj]at ar;have x:=e.place ar F1;rw[<-aj]at x;have FW1:=Q.grow hs;have aN:=FW1.le x.pl.nd;have af:=F1.Qv e.pl;have(az,aG):=x.ob;have(ay,aH):=x.pl.ob;refine{0,n,CB,az,30,aG,z.cl,z.places,Uy _ _ _,p,ay,0,aH,KB _ _ _,0,o,201,Qk (af _ _ H),jz _ _ _ _,p,m,c,A,C,d,0,x.pl,i2.Qv af,gt.1,by have:=gt.2.1;lia,by have:=gt.2.2;lia,λJ X x2 ap F2=>?_};have(m2,ae):=Ug c.inside (Xe v s.inside);have au:=x2;rw[ae]at au;have B2:=x.place au F2;rw[<-ae]at B2;have FW2:=FW1.grow ht;have ag:Q8 N X:=λa xs h=>(F2.Qv x.pl) _ _ (af _ _ h);have ao:(Xe (Xe v s.inside) c.inside)[r]?/s:=by rw[ae];exact qe aC
 refine{Vb,λB aA=>?_};have T:=Qf aA (.tup [.str k,jv r,jv J]);have y:=B2.same T;generalize aK:Xe (Xe v s.inside) c.inside=O at*;have e1:=Uq ao;have e2:=Uq ap;have l1:r<⇑O:=(Gg.mp ao).1;have l2:J<⇑O:=(Gg.mp ap).1;have M:hI A C d N (zj X B (.tup [.str k,jv r,jv J])):=(F1.trans F2).trans (hI.of T);ac_nf;have(ai,o3):=y.ob;have(aO,u3,_):=y.pl.th;have(aR,w3,_):=y.pl.fo;have(aP,t3,_):=y.to;intros;have an:(zj X B (.tup [.str k,jv r,jv J])) o/.tup (.str k::[l,m]):=T _ _ (ag _ _ H);have back:∀a j,N a/j->∃u,(zj X B (.tup [.str k,jv r,jv J])) a/u:=λa j h=>Mr.mp λb=>by rw[M.there a b]at h;cases h
 exists 0,o,201,Qk an,Of _ _,10;rw[Zp];rcases aB with⟨rfl,rfl⟩|⟨hk,a,rfl,rfl⟩
 .rw[LJ];refine Yw ?_;refine{0,n,ai,0,o3,Pr _ _ _,0,n,p,A,C,d,t,S,O,tl,R,↑B,r,J,1,y,FW2,⟨B,Xb,Qb⟩,l1,l2,λU H4 L I=>?_};rw[e1,e2]at I;refine q U t S O H4 (y.same L) (I.ex λY ys _ hx b=>hx ?_) FW2.sub {λa j h f g E G h5=>L _ _ (M.keep a j h g E G),λa D=>M.there a (L.free D)} (.inl Xb) (.inl Xb);rcases b with⟨j,ho⟩|b
  .exact back _ _ ho
  .rw[b];exact{_,t3}
 .have ah:(tw a==("ask":TQ))=Gx:=by simpa using hk
  rw[ah];refine Q6 ?_;refine{0,n,ai,0,o3,Q06 _ _ _,00,n,p,A,C,d,t,S,O,tl,R,↑o,↑B,a,r,J,1,y,FW2,?_,⟨B,Xb,Qb⟩,l1,l2,λU e' H4 L I V W=>?_}
  .rw[e1,e2];exact{o,l,m,1,an,(i1.Qv ag).same T,(i2.Qv ag).same T}
  .rw[e1,e2]at L I;refine q U t e' O H4 L (I.ex λY ys _ hx b=>hx ?_) FW2.sub {λa j h f g E G h5=>V.keep _ _ (M.keep a j h g E G) f h5,λa D=>M.there a (V.there a D)} (.inl Xb) (W.elim .inl λb=>.inr (M.there _ b));rcases b with⟨j,ho⟩|b
   .exact back _ _ ho
   .rw[b];exact{_,t3}
def AZ(H:Hp)(X:Ge->Prop)(a:List Dd)(b:List V):Prop:=∀(k:Nat)(d:Dd)(v:V),a[k]?/d->b[k]?/v->Ro H X (after [] (a.take k)) d v
inductive AV(vs:List V)(H:Hp)(Q:VK):Prop
 |mk (l:Ge) (es:List V) (dl:List Dd) (U:List Th) (h0:vs=[↑l]) (h1:H l/.lst es) (h2:Ur H es dl) (h3:iO U) (h4:(∀d∈dl,d.fits U)) (h5:⇑dl<=800) (h6:∀(r:Ge)(rs:List V)(H':Hp),Q5 H H'->H r=Gp->H' r/.lst rs->⇑rs=⇑dl->AZ H' (λb=>b=r) dl rs->Q ↑r H'):AV vs H Q
def uf:Sp:=λa H Q _=>AV a H Q
inductive zl(P:Gn)(w:Ti)(CP:Ge)(CB:Ge)(vs:List V)(H:Hp)(Q:VK):Prop
 |mk (l:Ge) (es:List V) (dl:List Dd) (U:List Th) (h0:vs=[↑l]) (h1:H l/.lst es) (h2:Ur H es dl) (h3:iO U) (h4:(∀d∈dl,d.fits U)) (h5:⇑dl<=800) (h6:∀(bk p a f d t e:Ge)(ts:List Th)(H':Hp),Q5 H H'->Uj P w CP CB H' bk p a f d t e ts (after [] dl)->(∀x∈ts,x∈U)->Q ↑bk H'):zl P w CP CB vs H Q
def Rx(P:Gn)(w:Ti)(b a:Ge):Sp:=λc H Q _=>zl P w b a c H Q
inductive xD(vs:List V)(H:Hp)(Q:VK):Prop
 |mk (l:Ge) (es:List V) (dl:List Dd) (U:List Th) (h0:vs=[↑l]) (h1:H l/.lst es) (h2:Ur H es dl) (h3:iO U) (h4:(∀d∈dl,d.fits U)) (h5:⇑dl<=800) (h6:∀(r:Ge)(rs:List V)(H':Hp),Q5 H H'->H' r/.lst rs->J0 H' rs (after [] dl)->Q ↑r H'):xD vs H Q
def v8:Sp:=λa H Q _=>xD a H Q
theorem pR{a:List Dd}(b:iO U)(h:∀x∈ts,x∈U)(c:⇑a<=800)(i:Nat):iT U ts (after [] (a.take i)):={h,b.cl,b.good,b.len,by have:=Oa (ds:=a.take i) (tl:=[]);rw[Dq]at this;simp only[SE]at this;lia}
theorem Uj.but{i g:Ge}{H:Hp}{bk p a f d t e r:Ge}{l:List Th}{k:Tl}{D n:List V}(B:Uj P w i g H bk p a f d t e l k)(c:H r/.lst D)(v:r≠a)(y:r≠f)(rt:r≠t)(x:r≠e):Uj P w i g (zj H r (.lst n)) bk p a f d t e l k:=by
 have(o,j):=B.ob;have(C,z,A):=B.to;have(u,b,q,s,R):=B.en;have m:Q8 H (zj H r (.lst n)):=Z1 λE e=>by rw[c]at e;cases e
 exact{{o,Ql j (Ys j c nofun)},B.pl.but c v y,{C,Ql z (GQ rt),A.Qv m},{u,b,Ql q (GQ x),Qr s λ_ _ h=>h.Qv m,R},B.ta,B.tf,B.te,B.ea,B.ef}
theorem mX.Qv{bk a t e:Ge}(F:mX bk a f d t H H')(B:Uj P w CP CB H bk p a f d t e ts tl):Q8 H H':=λb s c=>by have(m,i):=B.ob;have(o,k,_):=B.pl.th;have(r,l,_):=B.pl.fo;have(h,g,_):=B.pl.kn;have(q,j,n):=B.to;exact F.keep _ _ c (Ys c i nofun) (Ys c k nofun) (Ys c l nofun) (Ys c g.at_ nofun) (Ys c j nofun)
theorem mX.lst{j i:Ge}{H g:Hp}{bk p a f d t e:Ge}{s:List Th}{r:Tl}(F:mX bk a f d t H g)(B:Uj P w j i H bk p a f d t e s r){c:Ge}{h:List V}(b:H c/.lst h)(l:c≠a)(m:c≠f)(n:c≠t):g c/.lst h:=by have(u,q):=B.ob;have(o,k,_):=B.pl.kn;exact F.keep _ _ b (Ys b q nofun) l m (Ys b k.at_ nofun) n
theorem A9:Q4 ["deeds","book"] ["deeds"] (Qm nH):=by eq_refl
theorem Q9e:(["deed","book"]:List TQ).Nodup:=by decide+kernel
theorem Qnd(F:Wc K "answers" "answers" nH f0 fd)(ai:iK K mg CB)(av:Mk K CB fI)(GI:Qz P w K mg base Z4 3 fI fdI ["self"] (rG P w CP CB))(bI:zk K fdI ["self"] [])
  (mA:Ym K CB "answer" fA)(GA:Qz P w K mg base Z4 63 fA fdA ["self","deed"] (oX P w CP CB))(bA:zk K fdA ["self","deed"] []):Qz P w K mg base Z4 64 f0 fd ["deeds"] uf:=by
 refine F.ok A9 (λE m r l ab=>?_) (λY Q Z s m E r l hr ab=>?_)
 .obtain⟨ad,es,G,aa,rfl,_⟩:=ab;rfl
 have(ad,es,G,aa,rfl,hl,aj,hU,aA,aB,q):=ab;have aC:Yd 4 _:=hr.mono (by lia);have nd:=A9.nd;exists _,Qc (W8 (i:=1) nd rfl (Ez Xb) (nR av GI aC rfl ai.mgC bI .nil Q7))
  (Qg (Qu (Wm (te:=kY CB "answer" (oX P w CP CB) [] E0 (Vi 1) (jb (Vi 0) jB)) (own:=["deed"]) (fv:=[(1,"book")]) rfl (S:=(by eq_refl:Xm (Qm nH) _)) (.cons rfl (DG Xb) rfl .nil)
   (Z6 {0}) (λ_ _ _ _ _=>Z5 (i:=0) Q9e rfl (DG Xb) (Ez Xb)) (λ_ _ _ _ _=>Xk) (λ_ _ _ _ _=>Zk {1} ai.cl mA GA hr bA .nil Q7 (Qa {0} Qe)))))
 intro B dx ac ay aK;have N:Q5 m (zj (zj m dx (.own B)) B (.ins CB dx [])):=λh L g=>Ql (Ql g (Qd g ay)) (Qd g ac);refine{B,dx,1,Qb,λp a z d t g H1 I k1 ha hf hd ht he=>{1,?_}};have R:Q5 m H1:=λc L j=>k1 c L (N _ _ j) (Qd j ac);have aw:=N.free ha;have az:=N.free hf;have ax:=N.free hd;have aD:=N.free ht;refine{0,ad,1,{_,Qi (R _ _ hl)},λf C=>?_};have(us,u1,_):=I.pl.th;have(ws,w1,_):=I.pl.fo;have(aL,t1,_):=I.to;have(aJ,aI,e1,_):=I.en;have ra:f≠a:=GQ (Qd u1 C);have rf:f≠z:=GQ (Qd w1 C);have M:f≠t:=GQ (Qd t1 C);have T:f≠g:=GQ (Qd e1 C);have s2:=Qf C (.lst []);have aE:⇑es=⇑G:=GJ aj;refine Ve (K:=K) (a:=ad) (xs:=es) (small (by lia)) (λi D X v=>iE λ(x0:Option V)(t g:Ge)(O:List Th)=>iu (X=[x0,Ga ↑B]) (Uj P w CP CB v B p a z d t g O (after [] (G.take i))) (∀x∈O,x∈aa) (Q5 m v) (m t=Gp) (f≠t) (f≠g) (AZ v (λc=>c=a\/c=z\/c=t\/c=f) (G.take i) D))
  {_,t,g,[],1,I.same s2,(λx e=>nomatch e),R.trans s2,aD,M,T,(λk d U o=>by simp at o)} (by rintro i D X v _ ⟨_,_,_,_,_,_,_,l,_⟩;exact Qi (l _ _ hl)) ?_ ?_
 .rintro i y D X v hi ak ⟨x0,t,g,O,rfl,u,sub,J,t0,M,T,S⟩ H;have(dd,Y,hy):=Qy aj hi;have(al,o2):=u.ob;have au:Q8 m v:=Q8.of J;refine{0,B,al,0,o2,vO _ _ _,0,B,p,a,z,d,t,g,O,_,aa,y,dd,1,u,pR hU sub aB i,hy.Qv au,aA dd (Gc Y),λU r e' ar E B3 hv ap Q Z am=>?_};have r3:=Q.lst u H ra rf M;have ag:f≠r:=Z.elim (λb=>b▸M) (λb=>Qd H b);have af:f≠e':=am.elim (λb=>b▸T) (λb=>Qd H b);have g3:Q5 m E:=λc L j=>Q.keep c L (J _ _ j) (Qd j ac) (Qd j aw) (Qd j az) (Qd j ax) (Qd j t0);have aq:m r=Gp:=Z.elim (λb=>b▸t0) (λb=>J.free b);have(aG,u2,_):=u.pl.th;have(aH,w2,_):=u.pl.fo;refine{r3,_,r,e',ar,1,(by rw[O5 Y];exact B3.but r3 ra rf ag af),ap,λc L j=>Ql (g3 _ _ j) (Qd j (R.free C)),aq,ag,af,λk dk W o A=>?_};have ah:Q8 E (zj E f (.lst (D++[U]))):=Z1 λxs g=>by rw[r3]at g;cases g
  have ae:∀{h:Ge}{xs:List V},E h/.lst xs->¬(h=a\/h=z\/h=r\/h=f)->(zj E f (.lst (D++[U]))) h/.lst xs:=λn e=>Ql n (λb=>e (.inr (.inr (.inr b))));have an:k<i+1:=by have:=(Gg.mp o).1;rw[Dq]at this;lia
  have ek:(G.take (i+1)).take k=G.take k:=by rw[Mo,FN (by lia)]
  rw[ek];rw[Dx an]at o;rcases Dn k i with ao|aF
  .rw[Tz (by lia)]at A;have h0:=S k dk W (by rw[Dx ao];exact o) A;rw[Mo,FN (by lia)]at h0;have h1:=h0.ex (Y:=λc=>c=a\/c=z\/c=t\/c=r\/c=f) λh xs n e b=>by
    rcases b with b|b|b|b|b
    .exact e (.inl b)
    .exact e (.inr (.inl b))
    .exact e (.inr (.inr (.inl b)))
    .rcases Z with l|l
     .exact e (.inr (.inr (.inl (b.trans l))))
     .rw[b,l]at n;cases n
    .exact e (.inr (.inr (.inr b)))
   have h2:=h1.kp (Q.Qv u) λ{h xs}n e=>Q.lst u n (λb=>e (.inl b)) (λb=>e (.inr (.inl b))) (λb=>e (.inr (.inr (.inl b))));have h3:=h2.ex (Y:=λc=>c=a\/c=z\/c=r\/c=f) λh xs n e b=>by
    rcases b with b|b|b|b
    .exact e (.inl b)
    .exact e (.inr (.inl b))
    .exact e (.inr (.inr (.inr (.inl b))))
    .exact e (.inr (.inr (.inr (.inr b))))
   exact h3.kp ah ae
  .have l:k=i:=by lia
   subst l;rw[Dc (by lia),ak,Nat.sub_self]at A;have A:U=W:=by simpa using A
   subst A;rw[Y]at o;cases o;exact(hv.ex (Y:=λc=>c=a\/c=z\/c=r\/c=f) λh xs n e b=>by
    rcases b with b|b|b|b
    .exact e (.inl (by rw[b];exact{_,u2}))
    .exact e (.inl (by rw[b];exact{_,w2}))
    .exact e (.inr b)
    .exact e (.inl (by rw[b];exact{_,H}))).kp ah ae
 .rintro D X v ak ⟨x0,t,g,O,rfl,u,sub,J,t0,M,T,S⟩ H;rw[aE,Tu]at S;exact q f D v J (R.free C) H (by lia) λk dk W o A=>(S k dk W o A).ex λh xs n e b=>e (.inr (.inr (.inr b)))
theorem yc:Q4 ["deeds","book","deed"] ["deeds"] (Qm U4):=by eq_refl
theorem VB(F:Wc K "book_after" "book_after" U4 f0 fd)(L:iK K mg CB)(ac:Mk K CB fI)(GI:Qz P w K mg base Z4 3 fI fdI ["self"] (rG P w CP CB))(bI:zk K fdI ["self"] [])
  (mA:Ym K CB "answer" fA)(GA:Qz P w K mg base Z4 63 fA fdA ["self","deed"] (oX P w CP CB))(bA:zk K fdA ["self","deed"] []):Qz P w K mg base Z4 64 f0 fd ["deeds"] (Rx P w CP CB):=by
 refine F.ok yc (λv f u j G=>?_) (λT S U s f v u j Q G=>?_)
 .obtain⟨n,D,B,z,rfl,_⟩:=G;rfl
 have(n,D,B,z,rfl,O,N,hU,ah,ai,q):=G;have aj:Yd 4 _:=Q.mono ∅;have R:=yc.nd;show∃t,Wf ?my _ t/\_;let w3:Vr ?my U4 2:={_,Qg (Qu {1})}
 let w2:Vr ?my U4 1:={_,Qc (Z9 To rfl (Z6 {0}) (Zv 2 R) (Qg (Zl (Zk {1} L.cl mA GA Q bA .nil Q7 (Qa {2} Qe))))) w3.2}
 exists _,Qc (Q3 1 R (nR ac GI aj rfl L.mgC bI .nil Q7)) w2.2;intro e C H af ap;have m:Q5 f (zj (zj f C (.own e)) e (.ins CB C [])):=λao o b=>Ql (Ql b (Qd b af)) (Qd b H);refine{e,C,1,Qb,λp a E d t b H1 B1 k1 ha hf hd ht he=>{1,?_}};have M:Q5 f H1:=λA o c=>k1 A o (m _ _ c) (Qd c H);have ad:=m.free ha;have ag:=m.free hf;have ae:=m.free hd;have ak:⇑D=⇑B:=GJ N;let al:Nat->St->Hp->Prop:=λi r g=>iE λ(J:Option V)(t b:Ge)(h:List Th)=>ju (r=[Ga ↑n,Ga ↑e,J]) (Uj P w CP CB g e p a E d t b h (after [] (B.take i))) (∀x∈h,x∈z) (Q5 f g) (f t=Gp)
 refine⟨_,Xb,n,Xb,{_,Qi (M _ _ O)},Yv (K:=K) (a:=n) (xs:=D) al
  {_,t,b,[],1,B1,(λx j=>nomatch j),M,m.free ht} (by rintro i r g _ ⟨_,_,_,_,_,_,_,j,_⟩;exact Qi (j _ _ O)) ?_ ?_⟩
 .rintro i y r g hi ⟨J,t,b,h,rfl,k,sub,l,I⟩;have(u,v,Y):=Qy N hi;have(U,Z):=k.ob;refine{0,e,U,0,Z,vO _ _ _,0,e,p,a,E,d,t,b,h,_,z,y,u,1,k,pR hU sub ai i,Y.Qv (Q8.of l),ah u (Gc v),λan t' W ab H3 S hv aa T X am=>?_};exact{_,t',W,ab,1,(by rw[O5 v];exact S),aa,λA o c=>T.keep A o (l _ _ c) (Qd c H) (Qd c ad) (Qd c ag) (Qd c ae) (Qd c I),X.elim (λj=>j▸I) (λj=>l.free j)}
 .rintro r g ⟨J,t,b,h,rfl,k,sub,l,I⟩;rw[ak,Tu]at k;exact{0,q e p a E d t b h g l k sub}
theorem XM:Q4 ["deeds"] ["deeds"] (Qm Oo):=by eq_refl
theorem Qi0(F:Wc K "told_after" "told_after" Oo f0 fd)(T:iK K mg CB)(o:Qz P w K mg base Z4 64 fB fdB ["deeds"] (Rx P w CP CB))(G:KI K fB)(u:zk K fdB ["deeds"] [])(I:MG mg "book_after" fB):Qz P w K mg base Z4 65 f0 fd ["deeds"] v8:=by
 refine F.ok XM (λj H Q E h=>?_) (λx A i s H j Q E D h=>?_)
 .obtain⟨l,n,m,U,rfl,_⟩:=h;rfl
 have(l,n,m,U,rfl,C,g,B,b,c,q):=h;exists _,Qg (Qu (Qx (Ze o D rfl I G u .nil Q7 (Qa {0} Qe)) rfl));refine{0,l,n,m,U,1,C,g,B,b,c,λv p a f d t e N r z k sub=>?_};have(y,J):=k.ob;have(j,L,M):=k.to;exact{v,CB,y,30,J,T.cl,T.told,oz _ _ _,q t j r z L M}
end
open PySem L2 Sb
structure hJ(mg:TQ->Option Gh):Prop where
 len:mg "len"=Gp
 min:mg "min"=Gp
 abs:mg "abs"=Gp
 list:mg "list"=Gp
 tuple:mg "tuple"=Gp
 str:mg "str"=Gp
 bool:mg "bool"=Gp
 int:mg "int"=Gp
 isinstance:mg "isinstance"=Gp
 range:mg "range"=Gp
 reversed:mg "reversed"=Gp
def Al:DX->List DX
 |.While _ b _ _=>b
 |_=>[]
abbrev cSt(i:Nat):DX:=(Zd Uh).getD i (.Pass {(0),(0),(0),(0)})
noncomputable abbrev UM:DX:=(Al (cSt 7)).getD 1 (.Pass {(0),(0),(0),(0)})
abbrev Q5z:DX:=(Al (cSt 7)).getD 2 (.Pass {(0),(0),(0),(0)})
noncomputable abbrev cN:List TQ:=["_law_told","_law_things","_law_todo","_law_word","_law_one","_law_other","_law_leaders","_law_part","_law_pairs","_law_names","_law_going","_law_k","_law_j","_law_two","_law_inner","_law_old","_law_name"]
theorem J2:Q4 cN ["_law_told","_law_things"] (Qm Uh):=by eq_refl
theorem nd2:(["_law_part","_law_leaders"]:List TQ).Nodup:=by decide+kernel
def Good(tl:Tl)(S:List Th)(a:List (Th×Th)):Prop:=∀p∈a,p.1∈S/\p.2∈S/\Cg tl p.1 p.2
def ij(tl:Tl)(S:List Th)(L:Th->Int):Prop:=∀x∈S,∀y∈S,L x=L y->Cg tl x y
def Au(S:List Th)(L a:Th->Int):Prop:=∀x∈S,∀y∈S,L x=L y->a x=a y
noncomputable abbrev s4(k l m n o p:Option V)(d:Ge)(q:Option V)(j i:Ge)(g:Bool)(a b c e f h:Option V):St:=[k,l,m,n,o,p,Ga ↑d,q,Ga ↑j,Ga ↑i,Ga (.bl g),a,b,c,e,f,h]
section
variable{P:Gn}{w:Ti}{K:Gd}{mg:TQ->Option Gh}{base:Heap}{f:Ge}{cdv:Gh}{A:DW}{outer:List Bh}{s:Gw}{Hi:Hp}{E:XK}
noncomputable abbrev XC(P:Gn)(w:Ti)(K:Gd)(mg:TQ->Option Gh)(base:Heap)(f:Ge)(cdv:Gh)(A:DW)(outer:List Bh)(s:Gw)(Hi:Hp)(E:XK):Cx:=(jH Z4 P w K mg base cN "_law_classes" (Qm Uh) f cdv A outer s Hi E).nox
theorem QM(hu:(XC P w K mg base f cdv A outer s Hi E).A.units+64<E3):∃t,PS (XC P w K mg base f cdv A outer s Hi E) Q5z t/\∀(tl:Tl)(S:List Th)(l:Th->Int)(d C B:Ge)(Y nv:List V)(u:List (Th×Th))(I:Hp)(x0 x1 x2 x3 x7:Option V)
  (hN:Num P w I d S l)(af:I C/.lst Y)(ak:iA I Y u)(ai:I B/.lst nv)(aj:Zq I nv S)(hG:Good tl S u)(hS:ij tl S l)(aw:⇑S<=3000),
  Tr t
   (λσ H=>H=I/\∃F G Z aa ab ac D h,σ=s4 x0 x1 x2 x3 F G d x7 C B Gx Z aa ab ac D h)
   (λσ H=>xW λg b F G Z aa ab ac D h=>iu (σ=s4 x0 x1 x2 x3 F G d x7 C B g Z aa ab ac D h) (Rb d I H) (Num P w H d S b) (ij tl S b) (Au S l b) (∀p∈u,b p.1=b p.2) (g=Gx->∀t∈S,b t=l t) (g=Gk->∃x∈S,∃y∈S,l x≠l y/\b x=b y)):=by
 have nd:=J2.nd;exists _,(Z9 To rfl (Z6 {8}) (Wi rfl (Zb (Zv 4 nd) (Zb (Zv 5 nd) Xt)))
  (Qc (Q3 15 nd (Qn (Oh hu) {6} {4}))
  (Qg (Zc (Qo X7 {15} (Qn (Oh hu) {6} {5}) (Qs _))
  (Qc (Q3 10 nd Z7)
  (Qg (Z9 To rfl (Z6 {9}) (Zv 16 nd)
  (Qg (Zc (Qo Xy (Qn (Oh hu) {6} {16}) {15} (Qs _))
  (Qg (Il (Qn (Oh hu) {6} {5}) (Oy {6} {16} (O8 hu)))) Qw))))) Qw))))
 intro tl S l d C B Y nv u I x0 x1 x2 x3 x7 hN af ak ai aj hG hS aw;rintro aC σ H ⟨rfl,F,G,Z,aa,ab,ac,D,h,rfl⟩ k;have(od,ae):=hN.at;have ay:C≠d:=Zr af ae (by intro a;cases a);have ap:B≠d:=Zr ai ae (by intro a;cases a);let az:Nat->St->Hp->Prop:=λi σ Q=>jk λg b F G D h=>iu (σ=s4 x0 x1 x2 x3 F G d x7 C B g Z aa ab ac D h) (Rb d H Q) (Num P w Q d S b) (ij tl S b) (Au S l b) (∀p∈u.take i,b p.1=b p.2) (g=Gx->∀t∈S,b t=l t) (g=Gk->∃x∈S,∃y∈S,l x≠l y/\b x=b y)
 refine⟨_,Xb,C,Xb,{_,Qi af},Yv (K:=K) (a:=C) (xs:=Y) az
  {Gx,l,F,G,D,h,1,Rb.refl,hN,hS,λ_ _ _ _ e=>e,by simp,λ_ _ _=>rfl,λe=>by cases e} (by rintro i σ Q _ ⟨_,_,_,_,_,_,_,v,_⟩;exact Qi (v _ _ af ay)) ?_ ?_⟩
 .rintro i x σ Q hi ⟨g,b,F,G,D,h,rfl,v,R,ah,ad,dn,gf,gt⟩;ac_nf;have((O,o),eu,a',v1,v2,rfl,av,t1,t2):=Qy ak hi;have tu:Q8 H Q:=v.Qv ae (λxs a=>by cases a);have(b1,_,_,_,rfl,_,_,_):=t1.inv;have(b2,_,_,_,rfl,_,_,_):=t2.inv;have t1:=t1.Qv tu;have t2:=t2.Qv tu;have(X,M,mc):=hG (O,o) (Gc eu);intros;have tk:u.take (i+1)=u.take i++[(O,o)]:=by rw[Tt,eu];rfl
  exists a',0,Qk (tu _ _ av),130301;refine{00,R.get X t1 ?_};refine{000,R.get M t2 {10,?_}};rw[Uw];refine Uv (λz=>?_) (λz=>?_)
  .have z:b O≠b o:=by simpa using z
   generalize ho:b O=r at*;generalize hn:b o=n at*;have ax:∀t,mrg b r n t≠r:=λt a=>by
    unfold mrg at a;split at a
    .exact z a.symm
    .rename_i au;exact au a
   have al:mrg b r n o=n:=by unfold mrg;rw[Gu (by rw[hn];exactλa=>z a.symm)];exact hn
   have ao:=v _ _ ai ap;let aA:Nat->St->Hp->Prop:=λj σ T=>jT λL2 h=>ju (σ=s4 x0 x1 x2 x3 (Ga ↑b1) (Ga ↑b2) d x7 C B Gk Z aa ab ac (Ga (.int r)) h) (Rb d Q T) (Num P w T d S L2) (∀t∈S,L2 t=b t\/L2 t=mrg b r n t) (∀t∈S.take j,L2 t=mrg b r n t)
   refine⟨_,Xb,B,Xb,{_,Qi ao},Yv (K:=K) (a:=B) (xs:=nv) aA
    {b,0,Rb.refl,R,λt _=>.inl Xb,by simp} (by rintro j σ T _ ⟨_,_,_,J,_⟩;exact Qi (J _ _ ao ap)) ?_ ?_⟩
   .rintro j y σ T hj ⟨L2,h,rfl,J,U,W,l2⟩;ac_nf;have(N,e0,m):=aj.get hj;have ag:=Gc e0;have aB:Q8 H T:=(v.trans J).Qv ae (λxs a=>by cases a);have(b0,_,_,_,rfl,_,_,_):=m.inv;intros;have m:=m.Qv aB;have aq:S.take (j+1)=S.take j++[N]:=by rw[Tt,e0];rfl
    refine{00,U.get ag m {010,?_}};rw[Uw];refine Uv (λL=>?_) (λL=>?_)
    .have L:L2 N=r:=by simpa using L
     have e2:L2 o=n:=by
      rcases W o M with a|a
      .rw[a,hn]
      .rw[a,al]
     have an:mrg b r n N=n:=by
      rcases W N ag with a|a
      .unfold mrg;rw[GY (by rw[<-a];exact L)]
      .exact absurd (a.symm.trans L) (ax N)
     refine{00,U.get M (t2.Qv (J.Qv R.at.choose_spec (λxs a=>by cases a))) {_,rfl,_,rfl,U.put ∅ ag m λH3 ar N3=>?_}};refine{30,J.trans ar,N3,λt ht=>?_,λt ht=>?_}
     .by_cases a:t=N
      .subst a;right;rw[GY Xb,e2,an]
      .rw[Gu a];exact W t ht
     .by_cases a:t=N
      .subst a;rw[GY Xb,e2,an]
      .rw[Gu a];rw[aq,Gi,Tf]at ht;exact l2 t (ht.resolve_right a)
    .have L:L2 N≠r:=by simpa using L
     refine{30,J,U,W,λt ht=>?_};rw[aq,Gi,Tf]at ht;rcases ht with ht|ht
     .exact l2 t ht
     .subst ht;rcases W t ag with a|a
      .rw[a];unfold mrg;rw[Gu (by rw[<-a];exact L)]
      .exact a
   .rintro σ T ⟨L2,h,rfl,J,U,W,l2⟩;rw[⇑aj,Tu]at l2;have q:∀x∈S,L2 x=mrg b r n x:=l2;refine{Gk,L2,320,v.trans J,U,?_,?_,?_,(λe=>by cases e),λ_=>?_}
    .intro x hx y m e;rw[q x hx,q y m]at e;rw[<-ho,<-hn]at e;exact PJ X M ah mc x hx y m e
    .intro x hx y m e;rw[q x hx,q y m];exact yO (ad x hx y m e)
    .intro p c;rw[tk,Gi,Tf]at c;rcases c with c|c
     .have am:=hG p (DL c);rw[q _ am.1,q _ am.2.1];exact yO (dn p c)
     .subst c;show L2 O=L2 o;rw[q _ X,q _ M,al];unfold mrg;rw[GY ho]
    .exists O,X,o,M,λa=>z ?_
     .have:=ad O X o M a;rw[ho,hn]at this;exact this
     .rw[q _ X,q _ M,al];unfold mrg;rw[GY ho]
  .have z:b O=b o:=by simpa using z
   refine{g,b,320,v,R,ah,ad,λp c=>?_,gf,gt};rw[tk,Gi,Tf]at c;rcases c with c|c
   .exact dn p c
   .subst c;exact z
 .rintro σ Q ⟨g,b,F,G,D,h,rfl,v,R,ah,ad,dn,gf,gt⟩;have e:u.take ⇑Y=u:=by rw[show ⇑Y=⇑u from GJ ak,Tu]
  rw[e]at dn;exact k _ _ {g,b,32220,v,R,ah,ad,dn,gf,gt}
end
inductive ji(L:Th->Int)(u v:Th):Prop
 |mk (w:_) (ps:_) (qs:_) (h0:u=.mk w ps) (h1:v=.mk w qs) (h2:ps.map L=qs.map L):ji L u v
theorem WA{L:Th->Int}(b:∀w ps,Th.mk w ps∈S->∀p∈ps,p∈S)(j:ij tl S L){w:TQ}{a:List Th}(g:Th.mk w ps∈S)(h:Th.mk w a∈S)(e:ps.map L=a.map L):Cg tl (.mk w ps) (.mk w a):=by
 refine .cong (jm.of (by have:=congrArg Sk e;simpa using this) λi p q d f=>?_);have c:(ps.map L)[i]?=(a.map L)[i]?:=by rw[e]
 rw[Ta,Ta,d,f]at c;exact j p (b _ _ g p (Gc d)) q (b _ _ h q (Gc f)) (T1 c)
section
variable{P:Gn}{w:Ti}{K:Gd}{mg:TQ->Option Gh}{base:Heap}{f:Ge}{cdv:Gh}{A:DW}{outer:List Bh}{s:Gw}{Hi:Hp}{E:XK}
theorem XN(ac:hJ mg)(z:(XC P w K mg base f cdv A outer s Hi E).A.units+64<E3):∃t,PS (XC P w K mg base f cdv A outer s Hi E) UM t/\∀(tl:Tl)(S:List Th)(c:Th->Int)(d b B:Ge)(pq X:List V)(J:List (Th×Th))(M:Hp)(x0 x1 x2 x3 x5 x7:Option V)
  (hN:Num P w M d S c)(af:M b/.lst pq)(ax:iA M pq J)(am:M B/.lst X)(ae:Zq M X S)(au:B≠b)(hG:Good tl S J)(hS:ij tl S c)(cl:∀w ps,Th.mk w ps∈S->∀p∈ps,p∈S)(an:∀t∈S,t.size<=3000)(aA:⇑S<=3000)(aD:⇑J<=3000),
  Tr t
   (λσ H=>H=M/\∃h L l e g R T,σ=s4 x0 x1 x2 x3 h x5 d x7 b B Gx L l e g R T)
   (λσ H=>rX λC a h L l e g R T=>jD (σ=s4 x0 x1 x2 x3 h x5 d x7 b B Gx L l e g R T) (Rb b M H) (H b/.lst C) (iA H C a) (Good tl S a) (∀p∈J,p∈a) (∀(k j:Nat)u v,j<k->S[k]?/u->S[j]?/v->ji c u v->(u,v)∈a)):=by
 have nd:=J2.nd;exists _,(Z9 To rfl (Vy rfl ac.range (Qa (Qp Zs rfl ac.len Tp (Qa {9} Qe)) Qe)) (Zv 11 nd)
  (Qg (Z9 To rfl (Vy rfl ac.range (Qa {11} Qe)) (Zv 12 nd)
  (Qc (Q3 4 nd (Qn Q9 {9} {11}))
  (Qc (Q3 13 nd (Qn Q9 {9} {12}))
  (Qg (Zc (PW.pt (U6 (Qo Xy (Qn Qt {4} Qj) (Qn Qt {13} Qj) (Qs _)) (Ua (Qo Xy (Qp Zs rfl ac.len Tp (Qa {4} Qe)) (Qp Zs rfl ac.len Tp (Qa {13} Qe)) (Qs _)))))
  (Qc (V8 (i:=14) (own:=["_law_part"]) (fv:=[(6,"_law_leaders")]) nd rfl rfl rfl (S:=(by eq_refl:Xm (Qm Uh) _)) (.cons rfl (DG Xb) rfl .nil) (Ui (Yg Um {4} (Yn Qj) Xl))
   (λ_ _ _ _ _=>Z5 (i:=0) nd2 rfl (DG Xb) (Ez Xb)) (λ_ _ _ _ _=>Xk) (λ_ _ _ _ _=>(Qn (r:=lX P w) (Oh z) {1} {0})))
  (Qg (Zc (Qo (U3 z) {14} (Wm (own:=["_law_part"]) (fv:=[(6,"_law_leaders")]) rfl (S:=(by eq_refl:Xm (Qm Uh) _)) (.cons rfl (DG Xb) rfl .nil) (Ui (Yg Um {13} (Yn Qj) Xl))
   (λ_ _ _ _ _=>Z5 (i:=0) nd2 rfl (DG Xb) (Ez Xb)) (λ_ _ _ _ _=>Xk) (λ_ _ _ _ _=>(Qn (r:=lX P w) (Oh z) {1} {0}))) (Qs _))
  (Qg (Zl (Xx Te Tx TB Z0 {8} (Qa (Zg (Qa {4} (Qa {13} Qe))) Qe)))) Qw))) Qw)))))))
 intro tl S c d b B pq X J M x0 x1 x2 x3 x5 x7 hN af ax am ae au hG hS cl an aA aD;rintro aR σ H ⟨rfl,h,L,l,e,g,R,T,rfl⟩ kk;have(od,ar):=hN.at;have aH:d≠b:=λm=>by rw[m,af]at ar;cases ar
 have aT:=⇑ae;let aJ:Nat->St->Hp->Prop:=λi σ H1=>sZ λC a h L l e g=>iu (σ=s4 x0 x1 x2 x3 h x5 d x7 b B Gx L l e g R T) (Rb b H H1) (H1 b/.lst C) (iA H1 C a) (Good tl S a) (∀p∈J,p∈a) (∀(k j:Nat)u v,k<i->j<k->S[k]?/u->S[j]?/v->ji c u v->(u,v)∈a) (⇑a<=3000+i*3000)
 refine⟨_,Xb,_,_,Xb,.inl {X,Qi am,1},_,Xb,by lia,by lia,V0 (lo:=0) (n:=((⇑X:Int)).toNat) aJ
  {pq,J,h,L,l,e,g,1,Rb.refl,af,ax,hG,λ_ y=>y,λk j u v y=>by lia,by lia} ?_ ?_⟩
 .rintro i σ H1 hi ⟨ao,ap,h,L,l,e,g,rfl,q,x,G,N,O,Q,g6⟩;have hi:i<⇑S:=by lia
  let aK:Nat->St->Hp->Prop:=λj σ D=>jk λC a h l e g=>mJ (σ=s4 x0 x1 x2 x3 h x5 d x7 b B Gx (Ga (.int (0+(i:Int)))) l e g R T) (Rb b H D) (D b/.lst C) (iA D C a) (Good tl S a) (∀p∈J,p∈a) (∀(k j:Nat)u v,k<i->j<k->S[k]?/u->S[j]?/v->ji c u v->(u,v)∈a) (∀(o:Nat)u v,o<j->S[i]?/u->S[o]?/v->ji c u v->(u,v)∈a) (⇑a<=3000+i*3000+j)
  refine⟨_,Xb,_,Xb,by lia,by lia,V0 (lo:=0) (n:=((0+(i:Int))).toNat) aK
   {ao,ap,h,l,e,g,1,q,x,G,N,O,Q,λo u v y=>by lia,by lia} ?_ ?_⟩
  .rintro j σ D hj ⟨Y,ad,h,l,e,g,rfl,q,x,G,N,O,Q,g6,g7⟩;have hj:j<i:=by lia
   ac_nf;have(v1,e1,t1):=ae.at (Gf hi);have(v2,e2,t2):=ae.at (Gf (show j<⇑S by lia));intros;have tu:Q8 H D:=q.Qv af (λxs m=>by cases m);have N2:Num P w D d S c:=hN.keep (λaI y=>q _ _ y aH) tu;have ay:=q _ _ am au;have m1:S[i]∈S:=Fv _;have m2:S[j]∈S:=Fv _;have q1:S[i]?/S[i]:=Gf _;have q2:S[j]?/S[j]:=Gf _;generalize S[i]=u1 at*;generalize S[j]=u2 at*;ac_nf;have(b1,w1,aM,Z,rfl,rfl,ak,av):=(t1.Qv tu).inv;have(b2,w2,aN,ab,rfl,rfl,al,aw):=(t2.Qv tu).inv;intros;have l1:=⇑av;have l2:=⇑aw;have z1:=an _ m1;have z2:=an _ m2;simp only[Th.size]at z1 z2;have y1:=Zn Z;have y2:=Zn ab;exists 00,B,X,301,Qi ay,(by rw[EV];exact Zi e1);exists 00,B,X,301,Qi ay,(by rw[EV];exact Zi e2);exists 0,b1,201,Qk ak,Yo,0,b2,201,Qk al,Yo,10;rw[Zp];have aj:∀{h e g:Option V}{H3:Hp},Q5 D H3->¬ji c (.mk w1 Z) (.mk w2 ab)->jk λC a aQ l aO aP=>mJ (s4 x0 x1 x2 x3 h x5 d x7 b B Gx (Ga (.int (0+(i:Int)))) (Ga (.int (0+(j:Int)))) e g R T=s4 x0 x1 x2 x3 aQ x5 d x7 b B Gx (Ga (.int (0+(i:Int)))) l aO aP R T) (Rb b H H3) (H3 b/.lst C) (iA H3 C a) (Good tl S a) (∀p∈J,p∈a) (∀(k j:Nat)u v,k<i->j<k->S[k]?/u->S[j]?/v->ji c u v->(u,v)∈a) (∀(o:Nat)u v,o<j+1->S[i]?/u->S[o]?/v->ji c u v->(u,v)∈a) (⇑a<=3000+i*3000+(j+1)):=λ{h e g H3}sm no=>by
    refine{Y,ad,320,q.trans (Rb.of sm),sm _ _ x,G.Qv (Q8.of sm),N,O,Q,λo u v y z W n=>?_,by lia};by_cases m:o=j
    .subst m;rw[q1]at z;rw[q2]at W;cases z;cases W;exact absurd n no
    .exact g6 o u v (by lia) z W n
   refine Uv (λn=>?_) (λn=>?_)
   .have n:w1=w2:=by simpa using n
    subst n;exists 030,.inr {_,Qk ak,1},030,.inr {_,Qk al,1},10;rw[Uw];refine Uv (λc2=>?_) (λc2=>?_)
    .refine{00,b1,0,Qk ak,Wr _ _,λr hr=>?_};rw[iG];have s3:=Qf hr (.tup aM);refine{r,1,{_,Qk Qb},λp F=>?_};refine y8 (K:=K) Qb (av.same s3) (cl _ _ m1) (N2.same s3) F (by lia) λH4 aL aB=>?_;have ag:Q5 D H4:=s3.trans aL;refine{000,b2,0,Qk (ag _ _ al),Wr _ _,λr2 aF=>?_};rw[iG];have s5:=Qf aF (.tup aN);refine{r2,1,{_,Qk Qb},λp2 aE=>?_};refine y8 (K:=K) Qb (aw.same (ag.trans s5)) (cl _ _ m2) (N2.same (ag.trans s5)) aE (by lia) λH6 s6 aC=>?_;have az:Q5 H4 H6:=s5.trans s6;have ah:=ag.trans az;exists .list ((Z.map c).map Eu),.list ((ab.map c).map Eu),.lst (az _ _ aB) (Ue _),.lst aC (Ue _),by simp only[TJ];exact Uc _,by simp only[TJ];exact Uc _,?_,_,Xb
     .have:=O1 (Z.map c);simp only[DV];lia
     have ev:T5 (.list ((Z.map c).map Eu)) (.list ((ab.map c).map Eu))=decide (Z.map c=ab.map c):=by simp only[T5];exact qi _ _
     rw[ev];refine Uv (λU=>?_) (λU=>?_)
     .have U:=Dp U;refine{0,.inl {13,Qi (ah _ _ x)},00,Yz,λaa he=>?_};have s7:=Qf he (.tup [↑b1,↑b2]);have ai:=ah.trans s7;have lp:⇑Y=⇑ad:=GJ G;have ib:i*3000<=3000*3000:=SJ _ (by lia);exists b,Y,↑aa,11,ai _ _ x,(by rw[TD];lia);have aq:Q8 D (zj (zj H6 aa (.tup [↑b1,↑b2])) b (.lst (Y++[↑aa]))):=(Q8.of ai).trans (Z1 λxs m=>by rw[ai _ _ x]at m;cases m);have aG:aa≠b:=λm=>by rw[m,ah _ _ x]at he;cases he
      refine{Y++[↑aa],ad++[(.mk w1 Z,.mk w1 ab)],320,λaS aI h1 I=>by rw[Qh I];exact ai _ _ (q _ _ h1 I),Qb,?_,?_,λp F=>Gv _ (O p F),λk j u v h1 I h3 h4 h5=>Gv _ (Q k j u v h1 I h3 h4 h5),λo u v y z W n=>?_,by rw[Gs,Tg];lia}
      .refine Yx (G.Qv aq) (.cons {aa,30,by rw[Qh aG];exact Qb,(t1.Qv tu).Qv aq,(t2.Qv tu).Qv aq} .nil)
      .intro p F;rcases Gi.mp F with F|F
       .exact N p F
       .rw[Tf]at F;subst F;exact{m1,m2,WA cl hS m1 m2 U}
      .by_cases m:o=j
       .subst m;rw[q1]at z;rw[q2]at W;cases z;cases W;exact TL _ G8
       .exact Gv _ (g6 o u v (by lia) z W n)
     .have U:=of_decide_eq_false (Mz.mpr U);refine aj ah ?_;rintro⟨w',ps,qs,z1,z2,z3⟩;cases z1;cases z2;exact U z3
    .refine aj (λ_ _ y=>y) ?_;rintro⟨w',ps,qs,z1,z2,z3⟩;cases z1;cases z2;have:=congrArg Sk z3;simp at this;simp at c2;lia
   .refine Q6 (aj (λ_ _ y=>y) ?_);have n:¬w1=w2:=by simpa using n
    rintro⟨w',ps,qs,z1,z2,z3⟩;cases z1;cases z2;exact n rfl
  .rintro σ D ⟨Y,ad,h,l,e,g,rfl,q,x,G,N,O,Q,g6,g7⟩;refine{Y,ad,220,q,x,G,N,O,λk j u v h1 I h3 h4 h5=>?_,by lia};by_cases m:k=i
   .subst m;exact g6 j u v (by lia) h3 h4 h5
   .exact Q k j u v (by lia) I h3 h4 h5
 .rintro σ H1 ⟨ao,ap,h,L,l,e,g,rfl,q,x,G,N,O,Q,g6⟩;refine kk _ _ {ao,ap,2220,q,x,G,N,O,λk j u v h1 I h3 h4=>Q k j u v ?_ h1 I h3 h4};have:=(Gg.mp I).1;lia
theorem Q0l{L:Th->Int}{c:List (Th×Th)}(h:∀(k j:Nat)u v,j<k->S[k]?/u->S[j]?/v->ji L u v->(u,v)∈c)(e:∀p∈c,L p.1=L p.2):
  ∀w a b,Th.mk w a∈S->Th.mk w b∈S->a.map L=b.map L->L (.mk w a)=L (.mk w b):=by
 intro w a b i l g;have(k,f):=Dh.mp i;have(j,d):=Dh.mp l;rcases Be j k with z|z|z
 .exact e _ (h k j _ _ z f d ⟨w,a,b,Xb,Xb,g⟩)
 .subst z;rw[f]at d;cases d;rfl
 .exact(e _ (h j k _ _ z d f {w,b,a,11,g.symm})).symm
theorem Q2(aC:hJ mg)(hu:(XC P w K mg base f cdv A outer s Hi E).A.units+64<E3):∃t,PS (XC P w K mg base f cdv A outer s Hi E) (cSt 7) t/\∀(k:Tl)(S:List Th)(ab:Th->Int)(d n v:Ge)(pq nv:List V)(O:List (Th×Th))(x:Hp)(Q R T U W:Option V)
  (hN:Num P w x d S ab)(af:x n/.lst pq)(ap:iA x pq O)(aa:x v/.lst nv)(am:Zq x nv S)(ai:v≠n)(hG:Good k S O)(hS:ij k S ab)(Z:∀w ps,Th.mk w ps∈S->∀p∈ps,p∈S)(aq:∀t∈S,t.size<=3000)(ah:⇑S<=3000)(ao:⇑O<=3000)
  (N:∀c e,(Gk,c,e)∈k->c∈S/\e∈S/\(c,e)∈O),
  Tr t
   (λσ H=>H=x/\∃M B D F G I J L,σ=s4 Q R T U M B d W n v Gk D F G I J L)
   (λσ H=>jK λL'=>jR (σ[6]?/Ga ↑d) (∀a b,x a/b->a≠d->a≠n->H a/b) (Num P w H d S L') (Tells k S L')):=by
 have nd:=J2.nd;ac_nf;have(t1,aH,aJ):=XN (P:=P) (w:=w) (K:=K) (mg:=mg) (base:=base) (f:=f) (cdv:=cdv) (A:=A) (outer:=outer) (s:=s) (Hi:=Hi) (E:=E) aC hu;have(t2,aI,aK):=QM (P:=P) (w:=w) (K:=K) (mg:=mg) (base:=base) (f:=f) (cdv:=cdv) (A:=A) (outer:=outer) (s:=s) (Hi:=Hi) (E:=E) hu;intros;exists _,Ww To (Z2 {10}) (Qc (Q3 10 nd Z7) (Qc aH (Qc aI (Qg (Q3 8 nd (Zz Qe))))));intro k S ab d n v pq nv O x Q R T U W hN af ap aa am ai hG hS Z aq ah ao N;rintro aM σ H ⟨rfl,M,B,D,F,G,I,J,L,rfl⟩ kk;have(od,ae):=hN.at;have aN:d≠n:=λh=>by rw[h,af]at ae;cases ae
 have au:v≠d:=λh=>by rw[h,ae]at aa;cases aa
 exists λar σ y=>ro λu g q C r M B D F G I J L=>rK (σ=s4 Q R T U M B d W q v u D F G I J L) (∀a b,H a/b->a≠d->a≠n->y a/b) (Num P w y d S g) (ij k S g) (y q/.lst C) (iA y C r) (Good k S r) (⇑r<=3000) (∀a b,H a/b->a≠d->a≠n->a≠q) (∀c e,(Gk,c,e)∈k->(c,e)∈r\/g c=g e) (ar=(if u=Gk then dis S g+1 else 0)) (u=Gx->jg k S g),
  {_,Gk,ab,n,pq,O,32220,λa b j _ _=>j,hN,hS,af,ap,hG,ao,(λ_ _ _ _ i=>i),λc e i=>.inl (N c e i).2.2,1,λh=>by cases h}
 rintro ar σ y ⟨u,g,q,C,r,M,B,D,F,G,I,J,L,rfl,kp,ac,ak,g1,g2,g3,g4,g5,g6,rfl,g7⟩;exists 0,u,1;cases u with
 |false=>refine Q6 (kk _ _ {g,1,kp,ac,g7 Xb,ak})
 |true=>
  refine Yw {λaB X=>∃m',m'<dis S g+1/\ro λu g q C r M B D F G I J L=>rK (aB=s4 Q R T U M B d W q v u D F G I J L) (∀a b,H a/b->a≠d->a≠n->X a/b) (Num P w X d S g) (ij k S g) (X q/.lst C) (iA X C r) (Good k S r) (⇑r<=3000) (∀a b,H a/b->a≠d->a≠n->a≠q) (∀c e,(Gk,c,e)∈k->(c,e)∈r\/g c=g e) (m'=(if u=Gk then dis S g+1 else 0)) (u=Gx->jg k S g),λaB X i=>i,?_};have av:=kp _ _ aa au ai;have aw:v≠q:=g5 _ _ aa au ai;have aL:Q8 H y:=λa xs j=>kp a _ j (λh=>by rw[h,ae]at j;cases j) (λh=>by rw[h,af]at j;cases j);have ax:=am.Qv aL;have aE:d≠q:=λh=>by have(b,ho):=ac.at;rw[h,g1]at ho;cases ho
  refine aJ k S g d q v C nv r y Q R T U B W ac g1 g2 av ax aw g3 ak Z aq ah g4 _ _ _ {412220} ?_;rintro a0 H2 ⟨aG,ay,y4,aO,aP,aQ,aR,aS,aT,rfl,ad,a1,a2,a3,a4,a5⟩;have aA:Q8 y H2:=ad.Qv g1 (λxs h=>by cases h);have N2:Num P w H2 d S g:=ac.keep (λb i=>ad _ _ i aE) aA;have aF:=ad _ _ av aw;refine aK k S g d q v aG nv ay H2 Q R T U W N2 a1 a2 aF (ax.Qv aA) a3 ak ah _ _ _ {4132220} ?_;rintro a6 H3 ⟨g',Y,z4,z5,aU,aV,aW,aX,aY,aZ,rfl,aD,N3,az,al,b1,z,b3⟩;refine{Tw _,λp l=>?_};have ag:=Qf l (.lst []);have aj:∀a b,H a/b->a≠d->a≠n->H3 a/b:=λa b j m o=>aD a b (ad a b (kp a b j m o) (g5 a b j m o)) m;have an:∀a b,H a/b->a≠d->a≠n->a≠p:=λa b j m o h=>by rw[<-h,aj a b j m o]at l;cases l
  have told:∀c e,(Gk,c,e)∈k->Y c=Y e:=λc e i=>by
   rcases g6 c e i with h|h
   .exact b1 _ (a4 _ h)
   .exact al c (N c e i).1 e (N c e i).2.1 h
  cases g' with
  |false=>
   have z:=z rfl;have e1:∀p∈ay,g p.1=g p.2:=λp l=>by rw[<-z _ (a3 p l).1,<-z _ (a3 p l).2.1];exact b1 p l
   have cg:=Q0l a5 e1;refine{(0),by lia,Gx,Y,p,[],[],32220,λa b j m o=>ag _ _ (aj a b j m o),N3.same ag,az,Qb,.nil,(λp l=>nomatch l),Tw _,an,λc e i=>.inr (told c e i),1,λ_=>{Z,λc e i=>{(N c e i).1,(N c e i).2.1,told c e i},λw ps qs m o j=>?_}};rw[z _ m,z _ o];refine cg w ps qs m o ?_;rw[<-De λp l=>z p (Z _ _ m p l),<-De λp l=>z p (Z _ _ o p l)];exact j
  |true=>have:=UG al (b3 Xb);exact{dis S Y+1,by lia,Gk,Y,p,[],[],32220,λa b j m o=>ag _ _ (aj a b j m o),N3.same ag,az,Qb,.nil,(λp l=>nomatch l),Tw _,an,λc e i=>.inr (told c e i),1,λh=>by cases h}
end
theorem Ih{T:List Th}(h:Zq H xs (T++[t])):∃a x,xs=a++[x]/\Zq H a T/\Z8 H x t:=by
 induction T generalizing xs with
 |nil=>
  cases h with
  |cons b c=>cases c;exact{[],0,.nil,b}
 |cons y r d=>
  cases h with
  |cons b c=>have(a,x,e,f,g):=d c;exact{_::a,x,by rw[e];rfl,.cons b f,g}
theorem Xu:∀a b:List Th,Za (a++b)=Za a+Za b
 |[],b=>by simp[Za]
 |x::a,b=>by simp only[D9,Za,Xu a b];lia
noncomputable def Ru(tl:Tl):List Th:=tl.flatMap λp=>[p.2.1,p.2.2]
theorem qF:∀a:Tl,Za (Ru a)=Za (a.map (·.2.1))+Za (a.map (·.2.2))
 |[]=>by simp[Ru,Za]
 |p::r=>by have:=qF r;unfold Ru at this⊢;simp only[MD,TC,D9,Nq,Za]at this⊢;lia
theorem rT:t∈Ru tl↔∃p∈tl,t=p.2.1\/t=p.2.2:=by unfold Ru;simp[Ey]
theorem Je:∀a:List DN,DB a []=a.isEmpty
 |[]=>by simp[DB]
 |_::_=>by simp[DB]
theorem qq(b:Bool):(tw b==("same":TQ))=b:=by cases b<;>decide+kernel
theorem yW(a:Tl)(i:Nat)(b:Bool)(u v:Th)(h:a[i]?/(b,u,v)):Oj (a.take (i+1))=Oj (a.take i)++(if b then[(u,v)]else[]):=by unfold Oj;rw[Tt,h,Lm,T3];cases b<;>rfl
theorem Qs1(a:Tl):⇑(Oj a)<=⇑a:=by unfold Oj;rw[Gq];exact Ny _ _
section
variable{P:Gn}{w:Ti}{K:Gd}{mg:TQ->Option Gh}{base:Heap}
theorem ZE(F:Wc K "_law_classes" "_law_classes" Uh f fd)(aj:hJ mg):Qz P w K mg base Z4 1 f fd ["_law_told","_law_things"] (vL P w):=by
 refine F.ok J2 (λvs B a0 E c=>?_) (λcdv A outer s B vs a0 E hr c=>?_)
 .obtain⟨a,ai,us,ar,j,L,rfl,_⟩:=c;rfl
 have(a,ai,us,ar,j,L,rfl,ha,ay,hb,a1,aQ,aP,bf,q):=c;have J:=J2.nd;have hu:=hr.units;have(t7,a5,a6):=Q2 (P:=P) (w:=w) (K:=K) (mg:=mg) (base:=base) (f:=f) (cdv:=cdv) (A:=A) (outer:=outer) (s:=s) (Hi:=B) (E:=E) aj hu;exists _,(Qc (Q3 2 J (Yq Xv rfl aj.list TY (Qa {1} Qe)))
  (Qc (Z9 To rfl (Z6 {0}) (Wi rfl (Zb (Zv 3 J) (Zb (Zv 4 J) (Zb (Zv 5 J) Xt))))
  (Qg (Q3 2 J (Zy Jg {2} (Zz (Qa {4} (Qa {5} Qe)))))))
  (Qc (W8 (i:=6) J rfl (Ez Xb) Ju)
  (Qc (Ww To (Qo (Os hu) {2} (Zz Qe) (Qs _))
  (Qc (Q3 7 J (O2 Te EG EH Oz {2}))
  (Qg (Zc (Qo (O3 hu) {7} {6} rfl)
  (Qc (Il (Qp UE rfl aj.len Tp (Qa {6} Qe)) (Oy {6} {7} (O8 hu)))
  (Qg (Q3 2 J (Zy Jg {2} (Yq Xv rfl aj.list TY (Qa (Yg Um {7} (Yn Qj) Xl) Qe)))))) Qw))))
  (Qc (V8 (i:=8) (own:=["_law_deed"]) (fv:=[]) J rfl rfl rfl (S:=(by eq_refl:Xm (Qm Uh) _)) .nil (Z6 {0})
   (λ_ _ _ _ _=>Z5 (i:=0) (nd1 _) rfl (DG Xb) (Ez Xb)) (λ_ _ _ _ _=>oU (Qo Xy (Qn (r:=jx K) Qt {0} Qj) Zo (Qs _))) (λ_ _ _ _ _=>Yg (r:=AC K) Um {0} (Yn Qj) Xl))
  (Qc (Q3 9 J (Yq (PP Xb) rfl aj.list TY (Qa {6} Qe)))
  (Qc (Q3 10 J Z7)
  (Qc a5
  (Qg (Qu {6}))))))))))
 have aR:⇑us=⇑j:=GJ ay;have bg:⇑j<=3000:=by have:=Zn (j.map (·.2.1));rw[Gq]at this;lia
 refine{0,ai,ar,1,.inl (Qi hb),λg T=>?_};have s1:=Qf T (.lst ar);let a3:Nat->St->Hp->Prop:=λi C H1=>iZ λ(g:Ge)(xs:List V)(x3 x4 x5:Option V)=>ju (C=[Ga ↑a,Ga ↑ai,Ga ↑g,x3,x4,x5,Gp,Gp,Gp,Gp,Gp,Gp,Gp,Gp,Gp,Gp,Gp]) (Q5 B H1) (B g=Gp) (H1 g/.lst xs) (Zq H1 xs (L++Ru (j.take i)))
 refine⟨_,Xb,a,Xb,{_,Qi (s1 _ _ ha)},Yv (K:=K) (a:=a) (xs:=us) a3
  {g,ar,20,s1,T,Qb,by simp[Ru];exact a1.same s1} (by rintro i C H1 _ ⟨_,_,_,_,_,_,Y,_⟩;exact Qi (Y _ _ ha)) ?_ ?_⟩
 .rintro i x C H1 hi ⟨g,xs,x3,x4,x5,rfl,Y,T,G,H⟩;ac_nf;have((bb,u1,u2),eu,a',Z,v2,rfl,aw,t1,t2):=Qy ay hi;intros;exists a',0,Qk (Y _ _ aw),13030301;refine{000,Yz,λm M=>?_};have U:=Qf M (.lst [Z,v2]);have lx:=⇑H;have R:=Zn (L++Ru (j.take i));have b2:Za (L++Ru (j.take i))<=3000:=by have u:=qF (j.take i);have N:=Ig (j.map (·.2.1)) i;have Q:=Ig (j.map (·.2.2)) i;rw[MM,MM]at u;rw[Xu];lia
  refine{g,m,xs,[Z,v2],11,U _ _ G,Qb,small (by show ⇑xs+2<=_;lia),λn O=>?_};have z:=Qf O (.lst (xs++[Z,v2]));have l:=(Y.trans U).trans z;exists n,xs++[Z,v2],20,l,(Y.trans U).free O,Qb;have e:L++Ru (j.take (i+1))=(L++Ru (j.take i))++[u1,u2]:=by unfold Ru;rw[Tt,eu,NR,DF];rfl
  rw[e];exact((H.same U).same z).append (.cons (t1.same l) (.cons (t2.same l) .nil))
 rintro C H1 ⟨g,xs,x3,x4,x5,rfl,Y,T,G,H⟩;rw[aR,Tu]at H;have aN:∀t∈L++Ru j,t.ok=Gk/\t.depth<=8:=λt ht=>by
  rcases Gi.mp ht with c|c
  .exact aQ t c
  .obtain⟨p,o,e⟩:=rT.mp c;rcases e with rfl|rfl
   .exact(aP p o).1
   .exact(aP p o).2
 have aT:Za (L++Ru j)<=3000:=by rw[Xu,qF];lia
 have a7:∀t∈L++Ru j,t∈L++Ru j:=λt c=>c;generalize aO:L++Ru j=T0 at H aN aT a7;intro d hd;have ax:B d=Gp:=Y.free hd;have U:=Qf hd (Ut P w d []);have ac:g≠d:=Qd G hd;exists λaS C D=>jk λ(g:Ge)(xs:List V)(k S:List Th)(v:Th->Int)(x7:Option V)=>sL (C=[Ga ↑a,Ga ↑ai,Ga ↑g,x3,x4,x5,Ga ↑d,x7,Gp,Gp,Gp,Gp,Gp,Gp,Gp,Gp,Gp]) (Q5 B D) (B g=Gp) (g≠d) (D g/.lst xs) (Zq D xs k) (Num P w D d S v) (∀x∈S,∀y∈S,v x=v y->x=y) (∀x∈S,v x<⇑S) (∀w h,Th.mk w h∈S->∀p∈h,p∈S\/p∈k) (∀t∈T0,t∈S\/t∈k) (∀t∈k,t.ok=Gk/\t.depth<=8) (aS=Za k) (⇑S+Za k<=3000) (∀t∈S,t.size<=3000),
  {_,g,xs,T0,[],λ_=>0,0,Y.trans U,T,ac,U _ _ G,H.same U,{{[],Qb,(λp o=>nomatch o),1,(λt ht=>nomatch ht)},(λt ht=>nomatch ht)},(λt ht=>nomatch ht),(λt ht=>nomatch ht),(λ_ _ ht=>nomatch ht),λt ht=>.inr ht,aN,1,by simpa using aT,(λt ht=>nomatch ht)}
 clear G H T ac U;rintro aS C D ⟨g,xs,k,S,v,x7,rfl,aU,T,ac,G,H,aM,az,aq,cl,W,aA,rfl,sz,aB⟩;have lx:=⇑H;have lT:=Zn k;refine{0,Tw _,λb hz=>?_};have s4:=Qf hz (.lst []);have be:g≠b:=Qd G hz;have a2:okL k=Gk:=by rw[Ux,E2];exactλt ht=>(aA t ht).1
 exists .list (Wd k),.list [],.lst (s4 _ _ G) (H.same s4).dts,.lst Qb .nil,by simp only[TJ];exact lF k a2,by simp[TJ,Gz],?_,_,Xb
 .simp only[DV,Db];lia
 have ev:T5 (.list (Wd k)) (.list [])=k.isEmpty:=by
  simp only[T5];rw[Je];cases k with
  |nil=>simp[Wd]
  |cons t r=>simp[Wd]
 rw[ev];rcases Sx k with rfl|⟨Tr,t,eT⟩
 ·
  refine Q6 ?_;have cl:∀w h,Th.mk w h∈S->∀p∈h,p∈S:=λw h c p o=>(cl w h c p o).resolve_right ⋯;have W:∀t∈T0,t∈S:=λt c=>(W t c).resolve_right ⋯;have Q:=aU.trans s4;have N3:=aM.same s4;generalize zj D b (.lst [])=H3 at Q N3⊢;refine{0,a,1,{_,Qi (Q _ _ ha)},λp o=>?_};have sp:=Qf o (.lst []);have aV:B p=Gp:=Q.free o;refine Rl (K:=K) (a:=a) (xs:=us) (small (by lia)) (λi R C u=>(∃x0,C=[x0])/\Q5 H3 u/\iA u R (Oj (j.take i))) {{40},sp,by simp[Oj];exact .nil} (by rintro i R C u _ ⟨_,l,_⟩;exact Qi (l _ _ (Q _ _ ha))) ?_ ?_
  .rintro i x R C u hi ⟨⟨x0,rfl⟩,l,gp⟩ z;ac_nf;have((bb,u1,u2),eu,a',Z,v2,rfl,aw,t1,t2):=Qy ay hi;intros;have aa:=Q.trans l;have a4:=aa _ _ aw;exists 0,a',201,Qk a4,Yo,10;rw[Zp,qq];cases bb with
   |true=>
    refine Yw ?_;refine{00,a',0,Qk a4,Wr _ _,λr hr=>?_};rw[iG];have M:=Qf hr (.tup [Z,v2]);have av:r≠p:=λb=>by rw[b,z]at hr;cases hr
    have N:Q8 u (zj (zj u r (.tup [Z,v2])) p (.lst (R++[↑r]))):=(Q8.of M).trans (Z1 λxs e=>by rw[M _ _ z]at e;cases e);exists M _ _ z,{40},λm X e=>?_
    .rw[Qh (Qd e o)];exact M _ _ (l _ _ e)
    .rw[yW j i Gk u1 u2 eu];exact Yx (gp.Qv N) (.cons {r,Z,v2,1,by rw[Qh av];exact Qb,(t1.same aa).Qv N,(t2.same aa).Qv N} .nil)
   |false=>refine Q6 {z,{40},l,?_};rw[yW j i Gx u1 u2 eu];simpa using gp
  .rintro R C u ⟨_,l,gp⟩ z;rw[aR,Tu]at gp;have N4:=N3.same l;have(ap,dh,lk,an):=N4.names;refine{0,d,ap,1,dh,λn O=>?_};have N:=Qf O (.lst (ap.map λp=>V.ref p.2.1));have M:∀x∈j,x.2.1∈S/\x.2.2∈S:=λx I=>by rw[<-aO]at W;exact{W _ (TL _ (rT.mpr {x,I,.inl Xb})),W _ (TL _ (rT.mpr {x,I,.inr Xb}))}
   refine a6 j S v d p n R _ (Oj j) _ _ _ _ _ _ (N4.same N) (N _ _ z) (gp.Qv (Q8.of N)) Qb (an.same N) (GQ (Qd z O)) ?_ ?_ cl aB (by lia) (by have:=Qs1 j;lia) ?_ _ _ _ {4132220} ?_
   .rintro⟨x,y⟩ ab;have c:=yj.mp ab;exact{(M _ c).1,(M _ c).2,.told c}
   .intro x I y hy e;rw[az x I y hy e];exact .refl _
   .intro x y c;exact{(M _ c).1,(M _ c).2,yj.mpr c}
   .rintro aW H7 ⟨L7,h6,kp,N7,T7⟩;refine{_,h6,q d S L7 H7 (λm X e=>?_) ax N7 T7 (λt ht=>W t (by rw[<-aO];exact Gv _ ht)) M};exact kp m X (N _ _ (l _ _ (Q _ _ e))) (Qd e ax) (Qd e aV)
 .have eT:k=Tr++[t]:=by simpa using eT
  subst eT;have aZ:(Tr++[t]).isEmpty=Gx:=by cases Tr<;>rfl
  rw[aZ];refine Yw ?_;ac_nf;have(u,x,rfl,k1,k2):=Ih H;intros;have am:Za (Tr++[t])=Za Tr+t.size:=by rw[Xu];simp[Za]
  rw[am]at sz;have bd:=Ry t;have(ae,ak):=aA t ⋯;exists λaF Q=>∃m',m'<Za (Tr++[t])/\jk λ(g:Ge)(xs:List V)(k S:List Th)(v:Th->Int)(x7:Option V)=>sL (aF=[Ga ↑a,Ga ↑ai,Ga ↑g,x3,x4,x5,Ga ↑d,x7,Gp,Gp,Gp,Gp,Gp,Gp,Gp,Gp,Gp]) (Q5 B Q) (B g=Gp) (g≠d) (Q g/.lst xs) (Zq Q xs k) (Num P w Q d S v) (∀x∈S,∀y∈S,v x=v y->x=y) (∀x∈S,v x<⇑S) (∀w h,Th.mk w h∈S->∀p∈h,p∈S\/p∈k) (∀t∈T0,t∈S\/t∈k) (∀t∈k,t.ok=Gk/\t.depth<=8) (m'=Za k) (⇑S+Za k<=3000) (∀t∈S,t.size<=3000),λaF Q c=>c;have aY:(u++[x])[⇑(u++[x]) - 1]?/x:=by simp
  exists 0,.inl {13,Qi (s4 _ _ G)},g,301,s4 _ _ G,aY;rw[SM];have ad:Rb g D (zj (zj D b (.lst [])) g (.lst u)):=λm X e c=>by rw[Qh c];exact s4 _ _ e
  have l5:(zj (zj D b (.lst [])) g (.lst u)) g/.lst u:=Qb;generalize zj (zj D b (.lst [])) g (.lst u)=R at ad l5⊢;have t5:Q8 D R:=ad.Qv G (λxs e=>by cases e);have aE:Q5 B R:=λm X e=>ad m X (aU _ _ e) (Qd e T);have N5:Num P w R d S v:=aM.keep (λX c=>ad _ _ c (GQ ac)) t5;have k1:=k1.Qv t5;have k2:=k2.Qv t5;ac_nf;have(b0,M,N,h,rfl,rfl,aX,aC):=k2.inv;intros;refine{00,N5.YY ae ak k2 {0,?_}};have aD:∀t∈Tr,t.ok=Gk/\t.depth<=8:=λt ht=>aA t (Gv _ ht);refine Uv (λm=>?_) (λm=>?_)
  .have m:¬Th.mk M h∈S:=by simpa using m
   have(ap,dh,lk,_):=N5.names;refine{0,d,ap,1,dh,00,N5.add (by lia) m ae ak k2 λH6 aG N6=>?_};have b6:Rb d R H6:=aG;have(o5,aI):=N5.at;have ah:Q8 R H6:=b6.Qv aI (λxs e=>by cases e);have au:Q5 B H6:=λm X e=>b6 m X (aE _ _ e) (Qd e ax);have l6:=b6 _ _ l5 ac;have aQ:(Th.mk M h).size=Za h+1:=by simp only[Th.size]
   have ba:=⇑aC;have a9:=Zn h;have bc:=⇑k1;have a8:=Zn Tr;refine{000,b0,0,Qk (ah _ _ aX),Wr _ _,λr aK=>?_};rw[iG];have s7:=Qf aK (.tup N);refine{r,N,1,.inr (Qk Qb),λl2 aH=>?_};have s8:=Qf aH (.lst N);refine{g,l2,u,N,11,s8 _ _ (s7 _ _ l6),Qb,small (by lia),λn O=>?_};have s9:=Qf O (.lst (u++N));have af:=s7.trans s8;have ag:=af.trans s9;have(o6,aJ):=N6.at;have aL:∀p∈h,p.ok=Gk/\p.depth<=8:=λp o=>by
    have l:okL h=Gk:=by simp only[Th.ok,Df]at ae;exact ae.2
    rw[Ux,E2]at l;have z:=Wp o;simp only[Th.depth]at ak;exact{l p o,by lia}
   exists Za (Tr++h),?_,n,u++N,Tr++h,S++[Th.mk M h],30,au.trans ag,(au.trans af).free O,?_,Qb,?_,N6.same ag,?_,?_,?_,?_,?_,1,?_
   .rw[am,Xu];lia
   .exactλb=>by rw[b,af _ _ aJ]at O;cases O
   .exact((k1.Qv ah).append (aC.Qv ah)).same ag
   .intro x I y hy e;rw[Gi,Tf]at I hy;by_cases l:x=Th.mk M h
    .by_cases z:y=Th.mk M h
     .rw[l,z]
     .rw[GY l,Gu z]at e;have:=aq y (hy.resolve_right z);lia
    .by_cases z:y=Th.mk M h
     .rw[Gu l,GY z]at e;have:=aq x (I.resolve_right l);lia
     .rw[Gu l,Gu z]at e;exact az x (I.resolve_right l) y (hy.resolve_right z) e
   .intro x I;rw[Gi,Tf]at I;rw[Gs,Tg];by_cases l:x=Th.mk M h
    .rw[GY l];lia
    .rw[Gu l];have:=aq x (I.resolve_right l);lia
   .intro w' ao c p o;rcases Gi.mp c with c|c
    .rcases cl w' ao c p o with b|b
     .exact .inl (Gv _ b)
     .rcases Gi.mp b with b|b
      .exact .inr (Gv _ b)
      .exact .inl (TL _ b)
    .rw[Tf]at c;cases c;exact .inr (TL _ o)
   .intro t ht;rcases W t ht with b|b
    .exact .inl (Gv _ b)
    .rcases Gi.mp b with b|b
     .exact .inr (Gv _ b)
     .exact .inl (TL _ b)
   .intro t ht;rcases Gi.mp ht with b|b
    .exact aD t b
    .exact aL t b
   .rw[Xu,Gs,Tg];lia
   .intro t ht;rcases Gi.mp ht with b|b
    .exact aB t b
    .rw[Tf]at b;rw[b];lia
  .have m:Th.mk M h∈S:=by simpa using m
   refine{Za Tr,by rw[am];lia,g,u,Tr,S,v,0,aE,T,ac,l5,k1,N5,az,aq,λw' ao c p o=>?_,λt ht=>?_,aD,1,by lia,aB}
   .rcases cl w' ao c p o with b|b
    .exact .inl b
    .rcases Gi.mp b with b|b
     .exact .inr b
     .rw[Tf]at b;rw[b];exact .inl m
   .rcases W t ht with b|b
    .exact .inl b
    .rcases Gi.mp b with b|b
     .exact .inr b
     .rw[Tf]at b;rw[b];exact .inl m
theorem Qfv{g:Type}{F:α->g->Prop}{f:List α}{d:List g}{p:g}(h:Dm F f (d++[p])):∃a x,f=a++[x]/\Dm F a d/\F x p:=by
 induction d generalizing f with
 |nil=>
  cases h with
  |cons b c=>cases c;exact{[],0,.nil,b}
 |cons y r i=>
  cases h with
  |cons b c=>have(a,x,e,j,k):=i c;exact{_::a,x,by rw[e];rfl,.cons b j,k}
theorem P2(i:Int)(a:0<=i)(a:i<26):∃c:Nat,Rt (("abcdefghijklmnopqrstuvwxyz":TQ).cps.toList) i/c/\c<0x110000:=by
 have b:(("abcdefghijklmnopqrstuvwxyz":TQ).cps.toList).length=26:=by decide+kernel
 have a:∀c∈(("abcdefghijklmnopqrstuvwxyz":TQ).cps.toList),c<0x110000:=by decide+kernel
 have hi:i.toNat<(("abcdefghijklmnopqrstuvwxyz":TQ).cps.toList).length:=by rw[b];lia
 have e:i=((i.toNat:Nat):Int):=by lia
 have q:=Zi (Gf hi);rw[<-e]at q;exact{_,q,a _ (Fv hi)}
theorem Qog{c:Nat}{x:TQ}(b:c<0x110000)(h:DK x=Gk):DK ((⟨#[c]⟩:TQ)++x)=Gk:=by show((#[c]++x.cps).all (·<0x110000))=Gk;have a:x.cps.all (·<0x110000)=Gk:=h;rw[Array.all_append,a];simp[b]
theorem Qxr{c:Nat}{x:TQ}:((⟨#[c]⟩:TQ)++x).length=x.length+1:=by show(#[c]++x.cps).size=x.cps.size+1;simp;lia
theorem WJ{l:Int}(b:1<=l)(h:l*2^k<=10^39):k<130:=by
 rcases Dn k 130 with a|a
 .exact a
 .exfalso;have e:(2:Int)^130<=2^k:=by
   have:(2:Nat)^130<=2^k:=Nat.pow_le_pow_right (by decide) a
   exact_mod_cast this
  have d:(2:Int)^k<=l*2^k:=by have c:(0:Int)<=2^k:=Hr (HK (by decide));have:=Fy b c;simpa using this
  have f:(10:Int)^39<2^130:=by decide
  lia
theorem OZ{l:Int}(a:1<=l / 26 - 1)(h:l*2^k<=10^39):(l / 26 - 1)*2^(k+1)<=10^39:=by
 have a:(0:Int)<2^k:=HK (by decide);have e:(l / 26 - 1)*2^(k+1)=((l / 26 - 1)*2)*2^k:=by rw[Int.pow_succ];ac_rfl
 rw[e];have:(l / 26 - 1)*2<=l:=by lia
 have:=Fy this (Hr a);lia
theorem lJ:Q4 ["_law_cell","_law_left","_law_word"] ["_law_cell"] (Qm kK):=by eq_refl
theorem Q0v(F:Wc K "_law_any_word" "_law_any_word" kK f fd)(D:mg "abs"=Gp):Qz P w K mg base Z4 1 f fd ["_law_cell"] y0:=by
 refine F.ok lJ (λG H Q E h=>?_) (λC A i s H G Q E R h=>?_)
 .obtain⟨n,rfl,_⟩:=h;rfl
 have(n,rfl,q):=h;show∃t,Wf ?my _ t/\_;let M:Vr ?my kK 3:={_,Qg (Qu {2})}
 let J:Vr ?my kK 2:=⟨_,Qc (Ww To (Qo md {1} Qj (Qs _))
   (Qc (W8 (i:=2) lJ.nd rfl (DG Xb) (Zy Qni (Qn yf Zo (Zy W9 {1} Qj)) {2}))
   (Qg (W8 (i:=1) lJ.nd rfl (DG Xb) (Zy jQ (Zy Vq {1} Qj) Qj))))) M.2⟩
 let I:Vr ?my kK 1:={_,Qc (W8 (i:=2) lJ.nd rfl (DG Xb) Zo) J.2}
 exists _,Qc (W8 (i:=1) lJ.nd rfl (DG Xb) (Zy W9 (Qp XE rfl D Ht (Qa {0} Qe)) (Zy xi Qj Qj))) I.2;exists 0,n,1301,{by decide,by decide,by decide},301,(by show(0:Int)<10^DZ 39;decide);have y:0<=(if n<0 then -n else n) % (10:Int)^(DZ 39):=Ei _ (by decide);have B:(if n<0 then -n else n) % (10:Int)^(DZ 39)<10^39:=DT _ (by decide);exists λm v e=>jT λ(l:Int)(x:TQ)=>iu (v=[Ga (.int n),Ga (.int l),Ga (.str x)]) (e=H) (-1<=l) (m=(l+1).toNat) (DK x=Gk) (1<=l->l*2^⇑x<=10^39) (0<=l->⇑x<=131) (⇑x<=132),
  {_,(if n<0 then -n else n) % (10:Int)^(DZ 39),"",11,Int.le_trans (by decide) y,1,by decide+kernel,λ_=>?_,λ_=>by decide+kernel,by decide+kernel}
 .have:(("":TQ).length)=0:=by decide+kernel
  rw[this];generalize (if n<0 then -n else n) % (10:Int)^(DZ 39)=L at B⊢;ext
 rintro m v e ⟨l,x,rfl,rfl,N,rfl,p,r,u,O⟩;exists 403010;refine Uv (λc=>?_) (λc=>?_)
 .have k:0<=l:=Dp c;exists λd j=>jK λb=>jR (d=[Ga (.int n),Ga (.int (l / 26 - 1)),Ga (.str b)]) (j=e) (DK b=Gk) (⇑b=⇑x+1),?_
  .rintro d j ⟨b,rfl,rfl,g,a⟩;exists _,?_,l / 26 - 1,b,11,by ext,1,g,λz=>?_,λz=>?_
   .ext
   .rw[a];exact OZ z (r ∅)
   .rw[a];have:=WJ (k:=⇑x) (l:=l) ∅ (r ∅);ext
   .rw[a];have:=u k;ext
  .obtain⟨o,g,a⟩:=P2 (l % 26) (Ei _ (by decide)) (DT _ (by decide));exists 0301,(by show(0:Int)<26;decide),2,o,11,by decide+kernel,g,0301,?_
   .have z:(⇑(⟨#[o]⟩:TQ))=1:=rfl;have:=u k;rw[TD,z];ext
   .exists 0301,{by decide,by decide},301;exact{01,Qog a p,Qxr}
 .exact{0,q x (by unfold Oi;rw[p,Tk ∅];rfl)}
def iH(b H:Hp):List V->List DN->Prop:=Dm λx d=>∃a y z,x=.ref a/\H a/.tup [y,z]/\Dt b y d/\Dt b z d
theorem iH.Qv(e:Q8 H H')(h:iH H0 H xs ds):iH H0 H' xs ds:=
 Qr h (by rintro x d ⟨a,y,z,b,c,f,g⟩;exact{a,y,z,b,e _ _ c,f,g})
def prD(d:DN):DN:=.tuple [d,d]
theorem iH.dts(g:Q5 H0 H)(h:iH H0 H xs ds):hF H xs (ds.map prD):=by
 unfold iH at h;induction h with
 |nil=>exact .nil
 |cons h r f=>have(a,y,z,b,c,d,e):=h;subst b;exact .cons (.tup c (.cons (d.same g) (.cons (e.same g) .nil))) f
theorem Ky:∀(a:List DN),Gz a=Gk->Gz (a.map prD)=Gk
 |[],_=>by simp[Gz]
 |d::r,h=>by simp only[Gz,Df]at h;have b:=Ky r h.2;simp[prD,Gz,TJ,h.1,b]
theorem O7:∀(b a:List DN),Gz (b++a)=(Gz b&&Gz a)
 |[],a=>by simp[Gz]
 |x::r,a=>by simp[Gz,O7 r a,Bool.and_assoc]
theorem Ki:∀{a:List DN}{d:DN},d∈a->d.depth<=Db a
 |x::r,d,h=>by
  simp only[Db];rcases Td.mp h with rfl|h
  .lia
  .have:=Ki h;lia
theorem Ay:∀(a:List DN)(n:Nat),Z3 (a.take n)<=Z3 a
 |[],_=>by simp[Z3]
 |x::r,0=>by simp[Z3]
 |x::r,n+1=>by have:=Ay r n;simp only[SU,Z3];lia
def TT(b:Bool):String:=if b then"list"else"tuple"
theorem Pi{K:Gd}(b:Bool):Sr K (.type (TT b)) [.type "list",.type "tuple"]/Gk:=by
 cases b
 .exact UP
 .exact VX
theorem Kg{K:Gd}(b:Bool):TX K (.type (TT b)) (.type "list")/b:=by
 cases b
 .exact xH
 .exact j9
theorem tG{K:Gd}(b:Bool):TX K (.type (TT b)) (.type "tuple")/!b:=by
 cases b
 .exact kj
 .exact Q48
def iU(b:Bool)(ds:List DN):DN:=if b then .list ds else .tuple ds
theorem tj{K:Gd}{b:Bool}(h:Dt H v (iU b ds)):∃p a,v=.ref p/\(Vh K H p a\/hB K H p a)/\hF H a ds:=by
 cases b with
 |true=>
  have h:Dt H v (.list ds):=h;cases h with
  |lst e t=>exact{30,.inl (Qi e),t}
 |false=>
  have h:Dt H v (.tuple ds):=h;cases h with
  |tup e t=>exact{30,.inr (Qk e),t}
theorem FB{K:Gd}{b:Bool}(h:Dt H v (iU b ds)):R3 K H v (.type (TT b)):=by
 cases b with
 |true=>
  have h:Dt H v (.list ds):=h;cases h with
  |lst e t=>exact .lst e
 |false=>
  have h:Dt H v (.tuple ds):=h;cases h with
  |tup e t=>exact .tup e
theorem Qrn(b:Bool)(is:List DN):Jf (iU b is)=Z3 is+1:=by cases b<;>simp[iU,Jf]
theorem Q1q(b:Bool)(is:List DN):(iU b is).canLay0=Gz is:=by cases b<;>simp[iU,TJ]
theorem Pw(b:Bool)(is:List DN):(iU b is).depth=Db is+1:=by cases b<;>simp[iU,DV]
theorem Q70(d:DN)(h:d.canLay0=Gk):(∃b is,d=iU b is)\/d=.none\/(∃b,d=.bool b)\/(∃i,d=.int i)\/∃x,d=.str x:=by
 cases d with
 |none=>exact .inr (.inl Xb)
 |bool b=>exact .inr (.inr (.inl ⟨b,Xb⟩))
 |int i=>exact .inr (.inr (.inr (.inl ⟨i,Xb⟩)))
 |str x=>exact .inr (.inr (.inr (.inr ⟨x,Xb⟩)))
 |list is=>exact .inl ⟨Gk,is,Xb⟩
 |tuple is=>exact .inl ⟨Gx,is,Xb⟩
 |dict a=>simp[TJ]at h
theorem ma{K:Gd}(g:Q5 H H')(h:Vh K H p xs\/hB K H p xs):Vh K H' p xs\/hB K H' p xs:=by
 rcases h with h|h
 .exact .inl (g.seq h)
 .refine .inr ?_;rcases h with(h|⟨o,h⟩)|h
  .exact .inl (.inl (g _ _ h))
  .exact .inl (.inr {o,g _ _ h})
  .exact .inr h
theorem wV{K:Gd}{i:Int}{Q:VK}(h:Vh K H p xs\/hB K H p xs)(e:Rt xs i/v)(q:Q v H):rIx K ↑p (.int i) H Q:=by
 rcases h with h|h
 .exact .inl ⟨p,xs,i,v,Xb,Xb,h,e,q⟩
 .exact .inr (.inl ⟨p,xs,i,v,Xb,Xb,h,e,q⟩)
theorem l7:Q4 ["_law_found","_law_due","_law_todo","_law_one","_law_other","_law_k"] ["_law_found","_law_due"] (Qm sSo):=by eq_refl
theorem UK(F:Wc K "_law_so" "_law_so" sSo f fd)(a:hJ mg):Qz P w K mg base Z4 1 f fd ["_law_found","_law_due"] yy:=by
 refine F.ok l7 (λvs j av au X=>?_) (λaT aS aY s j vs av au hr X=>?_)
 .obtain⟨x,y,d,rfl,_⟩:=X;rfl
 have(x,y,d,rfl,hx,hy,aC,aE,az,q):=X;have hu:=hr.units;show∃t,Wf ?my _ t/\_;let aI:Subtype (Wf ?my (sub [1,0,1,0,3,0] (Zd sSo))):={_,Qg (Zl (Xx Te Tx TB Z0 {2} (Qa (Zg (Qa (Qn tV {3} {5}) (Qa (Qn tV {4} {5}) Qe))) Qe)))}
 let aK:Subtype (Wf ?my (sub [1,0,1,0,2] (Zd sSo))):={_,Qc (Zc (Qo X7 (Qp Zm rfl a.len Tp (Qa {3} Qe)) (Qp Zm rfl a.len Tp (Qa {4} Qe)) (Qs _)) (Qg (Qu Z7)) Qw) (Qg (Z9 To rfl (Vy rfl a.range (Qa (Qp Zm rfl a.len Tp (Qa {4} Qe)) Qe)) (Z5 (i:=5) l7.nd rfl (DG Xb)) aI.2))}
 let aL:Subtype (Wf ?my (sub [1,0,1,0,1] (Zd sSo))):={_,Qc (Zc (Qo X7 (Qp Zu rfl a.isinstance GX (Qa {3} (Qa (Ya (v:=.ty "tuple") rfl a.tuple Di Xb) Qe))) (Qp Zu rfl a.isinstance GX (Qa {4} (Qa (Ya (v:=.ty "tuple") rfl a.tuple Di Xb) Qe))) (Qs _)) (Qg (Qu Z7)) Qw) aK.2}
 let aM:Subtype (Wf ?my (sub [1,0,1,0] (Zd sSo))):={_,Qc (Zc (Qo X7 (Qp Zu rfl a.isinstance GX (Qa {3} (Qa (Ya (v:=.ty "list") rfl a.list TY Xb) Qe))) (Qp Zu rfl a.isinstance GX (Qa {4} (Qa (Ya (v:=.ty "list") rfl a.list TY Xb) Qe))) (Qs _)) (Qg (Qu Z7)) Qw) aL.2}
 let aN:Subtype (Wf ?my (sub [1,0,1,1,0,0] (Zd sSo))):={_,Qg (Zc (PW.pt (Yy (Yi (Z2 (Qp Zu rfl a.isinstance GX (Qa {3} (Qa (Ya (v:=.ty "str") rfl a.str EI Xb) Qe))))) (Xj (Qo X7 {3} {4} (Qs _))))) (Qg (Qu Z7)) Qw)}
 let aO:Subtype (Wf ?my (sub [1,0,1,1,0,1,0,0] (Zd sSo))):={_,Qg (Zc (PW.pt (Yy (Yi (Z2 (Qp Zu rfl a.isinstance GX (Qa {3} (Qa (Ya (v:=.ty "bool") rfl a.bool Sj Xb) Qe))))) (Xj (Qo X7 {3} {4} (Qs _))))) (Qg (Qu Z7)) Qw)}
 let aP:Subtype (Wf ?my (sub [1,0,1,1,0,1,0,1,0,1] (Zd sSo))):={_,Qg (Zc (PW.pt (Yy (Yi (Z2 (Qp Zu rfl a.isinstance GX (Qa {3} (Qa (Ya (v:=.ty "int") rfl a.int Fs Xb) Qe))))) (Yy (Z2 (Qp Zu rfl a.isinstance GX (Qa {3} (Qa (Ya (v:=.ty "bool") rfl a.bool Sj Xb) Qe)))) (Xj (Qo X7 {3} {4} (Qs _)))))) (Qg (Qu Z7)) Qw)}
 let aQ:Subtype (Wf ?my (sub [1,0,1,1,0,1] (Zd sSo))):={_,Qg (Zc (Z2 (Qp Zu rfl a.isinstance GX (Qa {4} (Qa (Ya (v:=.ty "bool") rfl a.bool Sj Xb) Qe)))) aO.2 (Qg (Zc (Ow (Q36 {4})) (Qg (Zc (Ow (yF {3})) (Qg (Qu Z7)) Qw)) aP.2)))}
 let aR:Subtype (Wf ?my (sub [1,0,1] (Zd sSo))):={_,Qg (Zc (Z2 (Qp ZK rfl a.isinstance GX (Qa {4} (Qa (Zg (Qa (Ya (v:=.ty "list") rfl a.list TY Xb) (Qa (Ya (v:=.ty "tuple") rfl a.tuple Di Xb) Qe))) Qe)))) aM.2 (Qg (Zc (Z2 (Qp Zu rfl a.isinstance GX (Qa {4} (Qa (Ya (v:=.ty "str") rfl a.str EI Xb) Qe)))) aN.2 aQ.2)))}
 let aJ:Subtype (Wf ?my (sub [1,0] (Zd sSo))):={_,Qc (Il (O2 Te EG EH Oz {2}) (Wi rfl (Zb (Z5 (i:=3) l7.nd rfl (DG Xb)) (Zb (Z5 (i:=4) l7.nd rfl (DG Xb)) Xt)))) aR.2}
 exists _,Qc (W8 (i:=2) l7.nd rfl (DG Xb) (Zz (Qa (Zg (Qa {0} (Qa {1} Qe))) Qe))) (Qc (Ww To (Qo (Os hu) {2} (Zz Qe) (Qs _)) aJ.2) (Qg (Qu Z7)));refine{00,Yz,λg he=>?_};have s1:=Qf he (.tup [x,y]);refine{Uu,λc hl=>?_};have s2:=Qf hl (.lst [↑g]);exists λaq O r=>iZ λ(p:List V)(b:List DN)(L M m:Option V)=>iu (O=[Ga x,Ga y,Ga ↑c,L,M,m]) (Q5 j r) (r c/.lst p) (iH j r p b) (aq=Z3 b) (Gz b=Gk) (∀d∈b,d.depth<=60) (Z3 b<=1000000),
  {_,[↑g],[d],Gp,Gp,Gp,1,s1.trans s2,Qb,.cons {g,x,y,1,s2 _ _ Qb,hx,hy} .nil,1,by simp[Gz,aC],?_,by simp[Z3];exact aE}
 .intro l h;rw[Tf]at h;subst h;exact az
 have am:j c=Gp:=s1.free hl;rintro aq O r ⟨p,b,L,M,m,rfl,ae,T,g2,rfl,g3,g4,g5⟩;have aX:⇑p=⇑b:=GJ g2;refine{0,Tw _,λN hz=>?_};have s4:=Qf hz (.lst []);have aU:c≠N:=Qd T hz;exists .list (b.map prD),.list [],.lst (s4 _ _ T) ((g2.Qv (Q8.of s4)).dts (ae.trans s4)),.lst Qb .nil,by simp only[TJ];exact Ky b g3,by simp[TJ,Gz],?_,_,Xb
 .simp only[DV,Db];ext
 have ev:T5 (.list (b.map prD)) (.list [])=b.isEmpty:=by simp only[T5];rw[Je];cases b<;>rfl
 rw[ev];rcases Sx b with rfl|⟨e,n,ad⟩
 .refine Q6 ?_;exact q _ (ae.trans s4)
 .have ad:b=e++[n]:=by simpa using ad
  subst ad;have aF:(e++[n]).isEmpty=Gx:=by cases e<;>rfl
  rw[aF];refine Yw ?_;have(h,xl,ex,k1,(Z,u,v,ea,e2,e3,e4)):=Qfv g2;subst ex ea;have ag:Z3 (e++[n])=Z3 e+Jf n:=by rw[Wv];simp[Z3]
  rw[ag]at g5;have aV:=AA n;rw[O7]at g3;simp only[Gz,Df,Lw]at g3;have(ak,af):=g3;have al:∀d∈e,d.depth<=60:=λd B=>g4 d (Gv _ B);have ay:n.depth<=60:=g4 n ⋯;have aB:(h++[V.ref Z])[⇑(h++[V.ref Z]) - 1]?/↑Z:=by simp
  have t5:Q8 r (zj (zj r N (.lst [])) c (.lst h)):=(Q8.of s4).trans (Z1 λp g=>by rw[s4 _ _ T]at g;cases g);have ab:Q5 j (zj (zj r N (.lst [])) c (.lst h)):=λH aG g=>by rw[Qh (Qd g am)];exact s4 _ _ (ae _ _ g)
  have l5:(zj (zj r N (.lst [])) c (.lst h)) c/.lst h:=Qb;have k1:iH j r h e:=k1;have p5:iH j (zj (zj r N (.lst [])) c (.lst h)) h e:=k1.Qv t5;exists λQ z=>∃Y,Y<Z3 (e++[n])/\iZ λ(p:List V)(b:List DN)(L M m:Option V)=>iu (Q=[Ga x,Ga y,Ga ↑c,L,M,m]) (Q5 j z) (z c/.lst p) (iH j z p b) (Y=Z3 b) (Gz b=Gk) (∀d∈b,d.depth<=60) (Z3 b<=1000000),λQ z X=>X;exists 0,.inl {13,Qi (s4 _ _ T)},c,301,s4 _ _ T,aB,Z,0,Qk (by rw[SM];exact t5 _ _ e2),1,u,0,v,01;rw[SM];generalize zj (zj r N (.lst [])) c (.lst h)=H5 at*;have aa:∀{Q:St}{z:Hp}{m:Option V},Q=[Ga x,Ga y,Ga ↑c,Ga u,Ga v,m]->Q5 H5 z->∃Y,Y<Z3 (e++[n])/\iZ λ(p:List V)(b:List DN)(L M m:Option V)=>iu (Q=[Ga x,Ga y,Ga ↑c,L,M,m]) (Q5 j z) (z c/.lst p) (iH j z p b) (Y=Z3 b) (Gz b=Gk) (∀d∈b,d.depth<=60) (Z3 b<=1000000):=λ{Q z m}g gs=>{Z3 e,by rw[ag];ext,h,e,32,g,ab.trans gs,gs _ _ l5,p5.Qv (Q8.of gs),1,ak,al,by ext}
  have S:Dt H5 v n:=e4.same ab;have R:Dt H5 u n:=e3.same ab;refine{0,Yz,λH hc=>?_};have D:=Qf hc (.tup [.ty "list",.ty "tuple"]);rcases Q70 n af with⟨l,o,rfl⟩|rfl|⟨bb,rfl⟩|⟨i,rfl⟩|⟨xx,rfl⟩
  .obtain⟨pu,G,rfl,ap,ai⟩:=tj (K:=K) e3;have(pw,A,rfl,ah,aj):=tj (K:=K) e4;have tu:=FB (K:=K) (R.same D);have tv:=FB (K:=K) (S.same D);have lu:=⇑ai;have lw:=⇑aj;have ar:Jf (iU l o)=Z3 o+1:=Qrn l o;have aW:=Jr o;have aw:Gz o=Gk:=by rw[Q1q]at af;exact af
   have ax:∀d∈o,d.depth<=60:=λd B=>by have I:=Ki B;rw[Pw]at ay;ext
   refine{_,H,2,TT l,Gk,1,Qb,tv,Pi l,Gk,1,Yw ?_};refine{032,l,1,tu,Kg l,032,l,1,tv,Kg l,10,jY rfl ?_};refine{032,!l,1,tu,tG l,032,!l,1,tv,tG l,10,jY rfl ?_};have ac:=ab.trans D;refine{0,pu,G,1,ma ac ap,0,pw,A,1,ma ac ah,10,jY (by rw[lu,lw]) ?_};have ao:((⇑A:Int)).toNat=⇑A:=by simp
   let aH:Nat->St->Hp->Prop:=λk O E=>jT λ(m:Option V)(C:List V)=>jR (O=[Ga x,Ga y,Ga ↑c,Ga ↑pu,Ga ↑pw,m]) (Q5 j E) (E c/.lst (h++C)) (iH j E (h++C) (e++o.take k))
   refine⟨_,Xb,pw,A,Xb,ma ac ah,_,Xb,by ext,by ext,V0 (lo:=0) (n:=((⇑A:Int)).toNat) aH
    {_,[],1,ac,by rw[D2];exact D _ _ l5,by rw[D2,NJ,D2];exact p5.Qv (Q8.of D)} ?_ ?_⟩
   .rintro k O E hk ⟨m,C,rfl,U,J,W⟩;rw[ao]at hk;have aA:k<⇑G:=by ext
    have eu:G[k]?/G[k]:=Gf aA;have ew:A[k]?/A[k]:=Gf hk;have(d1,f1,f2):=ai.get eu;have(d2,f3,f4):=aj.get ew;rw[f1]at f3;cases f3;have lg:⇑(h++C)=⇑(e++o.take k):=GJ W;have ln:=Jr (e++o.take k);rw[Wv]at ln;have lt:=Ay o k;refine{0,.inl {13,Qi J},00,wV (ma U ap) (by rw[EV];exact Zi eu) ?_};refine{00,wV (ma U ah) (by rw[EV];exact Zi ew) ?_};refine{Yz,λI an=>?_};have s8:=Qf an (.tup [G[k],A[k]]);have aD:c≠I:=Qd J an;exists c,h++C,↑I,11,s8 _ _ J,(by rw[TD];ext);have t8:Q8 E (zj (zj E I (.tup [G[k],A[k]])) c (.lst (h++C++[↑I]))):=(Q8.of s8).trans (Z1 λp g=>by rw[s8 _ _ J]at g;cases g);exists _,C++[↑I],1,λl aG g=>?_,(by rw[Qb,DF])
    .rw[Qh (Qd g am)];exact s8 _ _ (U _ _ g)
    .rw[Tt,f1,<-DF,<-DF];refine E5 (W.Qv t8) {I,G[k],A[k],1,?_,f2,f4};rw[Qh (GQ aD)];exact Qb
   .rintro O E ⟨m,C,rfl,U,J,W⟩;rw[ao,lw,Tu]at W;exists Z3 (e++o),?_,h++C,e++o,20,U,J,W,1,?_,?_
    .rw[ag,Wv,ar];ext
    .rw[O7,ak,aw];rfl
    .intro d B;rcases Gi.mp B with B|B
     .exact al d B
     .exact ax d B
    .rw[Wv];rw[ar]at g5;ext
  .cases S;cases R;refine{_,H,32,Gx,1,Qb,.non,oy Q35 UQ,Gx,1,Q6 ?_};refine{032,Gx,1,.non,WE,Gx,1,Q6 ?_};refine{032,Gx,1,.non,OW,Gx,1,Q6 ?_};refine{00,Yw ?_};refine{00,Q6 ?_};exact aa rfl D
  .cases S;cases R;refine{_,H,32,Gx,1,Qb,.bl _,oy Q5i Q5k,Gx,1,Q6 ?_};refine{032,Gx,1,.bl _,Q34,Gx,1,Q6 ?_};refine{032,Gk,1,.bl _,se,Gk,1,Yw ?_};refine{032,Gk,1,.bl _,se,Gk,1,Q6 ?_};refine{0010,jY rfl ?_};exact aa rfl D
  .cases S;cases R;refine{_,H,32,Gx,1,Qb,.int _,oy PZ Q1,Gx,1,Q6 ?_};refine{032,Gx,1,.int _,Q4z,Gx,1,Q6 ?_};refine{032,Gx,1,.int _,Jq,Gx,1,Q6 ?_};refine{00,Q6 ?_};refine{032,Gk,1,.int _,Ij,Gk,1,Q6 ?_};refine{032,Gx,1,.int _,Jq,Gx,1,Q6 ?_};refine{0010,jY rfl ?_};exact aa rfl D
  .cases S;cases R;refine{_,H,32,Gx,1,Qb,.str _,oy YS WH,Gx,1,Q6 ?_};refine{032,Gk,1,.str _,Rz,Gk,1,Yw ?_};refine{032,Gk,1,.str _,Rz,Gk,1,Q6 ?_};refine{0010,jY rfl ?_};exact aa rfl D
theorem Iv{w:TQ}{a:List V}(b:H p=Gp)(h:Zq H a ps):Z8 (zj H p (.tup (.str w::a))) ↑p (.mk w ps):=.mk Qb (h.same (Qf b _))
structure ke(t u:Th)(r:Th):Prop where
 ok:t.ok=Gk->u.ok=Gk->r.ok=Gk
 dep:r.depth<=max t.depth u.depth+1
 siz:r.size<=t.size+u.size+2
 sh:t.short=Gk->u.short=Gk->r.short=Gk
 Ol:∀p∈r.parts,p=t\/p=u\/p=.mk "tab" []
theorem xZ{w:TQ}(hw:Oi w=Gk):ke t u (.mk w [t]):={λa _=>by simp[Th.ok,okL,Oi.str hw,a],by simp only[Th.depth,Vs];lia,by simp only[Th.size,Za];lia,λa _=>by simp[Th.short,jW,Oi.len hw,a],λp b=>by simp only[Th.parts,Td,Ek,LW]at b;exact .inl b}
theorem qO{w:TQ}(hw:Oi w=Gk):ke t u (.mk w [t,u]):={λa b=>by simp[Th.ok,okL,Oi.str hw,a,b],by simp only[Th.depth,Vs];lia,by simp only[Th.size,Za];lia,λa b=>by simp[Th.short,jW,Oi.len hw,a,b],λp c=>by simp only[Th.parts,Td,Ek,LW]at c;exact c.elim .inl (λh=>.inr (.inl h))}
theorem Q7h{w:TQ}(hw:Oi w=Gk)(d:Oi "tab"=Gk):ke t u (.mk w [t,u,.mk "tab" []]):={λa b=>by simp[Th.ok,okL,Oi.str hw,Oi.str d,a,b],by have:=qB t;simp only[Th.depth,Vs];lia,by simp only[Th.size,Za];lia,λa b=>by simp[Th.short,jW,Oi.len hw,Oi.len d,a,b],λp c=>by simp only[Th.parts,Td,Ek,LW]at c;exact c}
theorem wz{w:TQ}(hw:Oi w=Gk):ke t u (.mk w []):={λa b=>by simp[Th.ok,okL,Oi.str hw],by simp only[Th.depth,Vs];ext,by simp only[Th.size,Za];ext,λa b=>by simp[Th.short,jW,Oi.len hw],λp c=>by simp[Th.parts]at c}
inductive pX(H:Hp)(l:Ge)(t u:Th):Prop
 |mk (vs:List V) (h0:H l/.lst vs) (h1:⇑vs=4) (h2:∀v∈vs,∃r,Z8 H v r/\ke t u r):pX H l t u
theorem Ax{r:Th}(D:Drawn ts m)(c:ts[a]?/t)(d:ts[b]?/u)(e:b<5)(R:ke t u r):Drawn (ts++[r]) (m+1):=by
 have o:a<⇑ts:=(Gg.mp c).1;have q:b<⇑ts:=(Gg.mp d).1;have n:=D.len;have cases:∀(j:Nat)s,(ts++[r])[j]?/s->ts[j]?/s\/(j=⇑ts/\s=r):=λj s e=>by
  rcases Dn j ⇑ts with h|h
  .left;rw[Tz h]at e;exact e
  .right;rw[Dc h]at e;have f:j - ⇑ts=0:=by have:=(Gg.mp e).1;simp at this;lia
   rw[f]at e;simp at e;exact{by lia,e.symm}
 have i:=D.dep a t c;have k:=D.dep b u d;have l:=R.dep;have v:=D.any a t c;have w:=D.tri b u d (by lia);have x:=R.siz;refine⟨by rw[Gs,Tg];lia,λs hs=>?_,λj s e=>?_,λj s e f=>?_,λj s e f=>?_,λj s e f=>?_,λj s e=>?_,λs hs=>by
   rcases Gi.mp hs with h|h
   .exact D.sh s h
   .rw[Tf]at h;subst h;exact R.sh (D.sh t (Gc c)) (D.sh u (Gc d)),by rw[Tz (by lia)];exact D.tab,λs hs p g=>?_⟩
 .rcases Gi.mp hs with h|h
  .exact D.ok s h
  .rw[Tf]at h;subst h;exact R.ok (D.ok t (Gc c)) (D.ok u (Gc d))
 .rcases cases j s e with h|⟨rfl,rfl⟩
  .exact D.dep j s h
  .lia
 .rcases cases j s e with h|⟨rfl,rfl⟩
  .exact D.one j s h f
  .lia
 .rcases cases j s e with h|⟨rfl,rfl⟩
  .exact D.two j s h f
  .have:=D.one a t c (by lia);have:=D.one b u d (by lia);lia
 .rcases cases j s e with h|⟨rfl,rfl⟩
  .exact D.tri j s h f
  .have:=D.two a t c (by lia);have:=D.two b u d (by lia);lia
 .rcases cases j s e with h|⟨rfl,rfl⟩
  .exact D.any j s h
  .lia
 .rcases Gi.mp hs with h|h
  .exact Gv _ (D.cl s h p g)
  .rw[Tf]at h;subst h;refine Gv _ ?_;rcases R.Ol p g with h|h|h
   .rw[h];exact Gc c
   .rw[h];exact Gc d
   .rw[h];exact Gc D.tab
theorem Ik(a:List α)(i:Int)(b:0<=i)(b:i<⇑a):∃v,Rt a i/v/\a[i.toNat]?/v:=by
 have hi:i.toNat<⇑a:=by lia
 have e:i=((i.toNat:Nat):Int):=by lia
 have q:=Zi (Gf hi);rw[<-e]at q;exact{_,q,Gf hi}
theorem zU:Q4 ["_law_cells","_law_things","_law_cell","_law_rest","_law_one","_law_other","_law_made","_law_word","_law_three"] ["_law_cells"] (Qm mI):=by eq_refl
theorem Qx9{k:Ge}{gd:Du}(F:Wc K "_law_drawn_things" "_law_drawn_things" mI f fd)(ac:hJ mg)(aA:Qz P w K mg base Z4 1 k gd ["_law_cell"] y0)(kG:KI K k)(bG:zk K gd ["_law_cell"] [])(mG:MG mg "_law_any_word" k):
  Qz P w K mg base Z4 2 f fd ["_law_cells"] (ze K):=by
 refine F.ok zU (λg H e d ad=>?_) (λn h v s H g e d hr ad=>?_)
 .obtain⟨a,ns,rfl,_⟩:=ad;rfl
 have(a,ns,rfl,hS,aO,q):=ad;have l:=zU.nd;show∃t,Wf ?my _ t/\_;let w3:Vr ?my mI 2:={_,Qg (Qu {1})}
 let w2:Vr ?my mI 1:=⟨_,Qc (Z9 To rfl (Z6 {0}) (Zv 2 l)
   (Qc (Q3 3 l (Zy Vq {2} Qj))
   (Qc (Q3 4 l (Qn Q9 {1} (Zy W9 {3} (Qp Zm rfl ac.len Tp (Qa {1} Qe)))))
   (Qc (Q3 5 l (Qn Q9 {1} (Zy W9 (Zy Vq {3} Qj) (Qp (Qrt Xb) rfl ac.min Hu (Qa Qj (Qa (Qp Zm rfl ac.len Tp (Qa {1} Qe)) Qe))))))
   (Qc (Q3 6 l (Zz (Qa (Zg (Qa Zo (Qa {4} Qe))) (Qa (Zg (Qa Zo (Qa {4} (Qa {5} Qe)))) (Qa (Zg (Qa Zo (Qa {4} (Qa {5} Qe)))) (Qa (Zg (Qa Zo Qe)) Qe))))))
   (Qc (Zc (Qo Xy (Zy W9 {2} Qj) Qj (Qs _))
    (Qc (Q3 7 l (Qn Q9 (Zz (Qa (Ze aA hr rfl mG kG bG .nil Q7 (Qa (Zy Vq {2} Qj) Qe)) (Qa Zo Qe))) (Zy W9 (Zy Vq {2} Qj) Qj)))
    (Qc (Q3 8 l (Zg (Qa {7} (Qa {4} (Qa {5} (Qa (Zg (Qa Zo Qe)) Qe))))))
    (Qg (Q3 6 l (Zz (Qa (Zg (Qa {7} (Qa {4} Qe))) (Qa (Zg (Qa {7} (Qa {4} (Qa {5} Qe)))) (Qa {8} (Qa (Zg (Qa {7} Qe)) Qe)))))))))
    Qw)
   (Qg (Zl (Xx Te Tx TB Z0 {1} (Qa (Qn Q9 {6} (Zy W9 {2} Qj)) Qe)))))))))) w3.2⟩
 exists _,Qc (Q3 1 l (Zz (Qa (Zg (Qa Zo Qe)) (Qa (Zg (Qa Zo Qe)) (Qa (Zg (Qa Zo Qe)) Qe))))) w2.2;have aL:Oi ("sab":TQ)=Gk:=by decide+kernel
 have az:Oi ("tab":TQ)=Gk:=by decide+kernel
 have aN:Oi ("sob":TQ)=Gk:=by decide+kernel
 have aM:Oi ("sat":TQ)=Gk:=by decide+kernel
 have ak:Oi ("fig":TQ)=Gk:=by decide+kernel
 have aC:Oi ("fog":TQ)=Gk:=by decide+kernel
 have aI:Oi ("hog":TQ)=Gk:=by decide+kernel
 refine{Uu,λp1 h1=>{Uu,λp2 h2=>{Uu,λp3 h3=>{Vb,λp hp=>?_}}}};have s1:=Qf h1 (.tup [.str "sab"]);have s2:=Qf h2 (.tup [.str "tab"]);have W:=Qf h3 (.tup [.str "sob"]);have s4:=Qf hp (.lst [↑p1,↑p2,↑p3]);have ae:H p=Gp:=((s1.trans s2).trans W).free hp;have i1:Z8 _ ↑p1 (.mk "sab" []):=(Iv (w:="sab") h1 .nil).same ((s2.trans W).trans s4);have i2:Z8 _ ↑p2 (.mk "tab" []):=(Iv (w:="tab") h2 .nil).same (W.trans s4);have i3:Z8 _ ↑p3 (.mk "sob" []):=(Iv (w:="sob") h3 .nil).same s4;let aK:Nat->St->Hp->Prop:=λi ab m=>rX λ(b:List V)(z:List Th)(x2 x3 x4 x5 x6 x7 x8:Option V)=>ju (ab=[Ga ↑a,Ga ↑p,x2,x3,x4,x5,x6,x7,x8]) (Q5 H m) (m p/.lst b) (Zq m b z) (Drawn z i)
 refine⟨_,Xb,a,Xb,{_,(((s1.trans s2).trans W).trans s4).seq hS},Yv (K:=K) (a:=a) (xs:=ns.map V.int) aK
  {22220,((s1.trans s2).trans W).trans s4,Qb,.cons i1 (.cons i2 (.cons i3 .nil)),?_} (by rintro i ab m _ ⟨_,_,_,_,_,_,_,_,_,_,k,_⟩;exact k.seq hS) ?_ ?_⟩
 .refine{1,λt ht=>?_,λj t c=>?_,λj t c _=>?_,λj t c _=>?_,λj t c _=>?_,λj t c=>?_,λt ht=>by simp at ht;rcases ht with rfl|rfl|rfl<;>decide+kernel,rfl,λt ht p hp=>?_}
  .simp at ht;rcases ht with rfl|rfl|rfl
   .simp[Th.ok,okL,Oi.str aL]
   .simp[Th.ok,okL,Oi.str az]
   .simp[Th.ok,okL,Oi.str aN]
  rotate_right
  .simp at ht;rcases ht with rfl|rfl|rfl<;>simp[Th.parts]at hp
  all_goals
   have M:=Gc c;simp at M;rcases M with rfl|rfl|rfl<;>simp[Th.depth,Vs,Th.size,Za]
 .rintro i y ab m hi ⟨b,z,x2,x3,x4,x5,x6,x7,x8,rfl,k,r,u,A⟩;obtain⟨n,rfl⟩:∃aj,y=V.int aj:=by
   rw[Ta]at hi;cases c:ns[i]? with
   |none=>rw[c]at hi;cases hi
   |some aj=>rw[c]at hi;exact{aj,(T1 hi).symm}
  have aF:i<⇑(ns.map V.int):=(Gg.mp hi).1;rw[Gq]at aF;have lu:=⇑u;have ld:=A.len;have hL:(⇑b:Int)=3+i:=by ext
  exists 0301,{by decide,by decide};have(e,a1,b1):=Ik b (n / 4 % (⇑b:Int)) (Ei _ ∅) (DT _ ∅);exists 000,p,b,1,.inl (Qi r),301,(by show(0:Int)<⇑b;ext),p,b,_,e,11,Qi r,a1;have D:(if(⇑b:Int)<5 then(⇑b:Int)else 5)<=⇑b/\0<(if(⇑b:Int)<5 then(⇑b:Int)else 5)/\(if(⇑b:Int)<5 then(⇑b:Int)else 5)<=5:=by split<;>ext
  have(h,a2,b2):=Ik b (n / 4 / 5 % (if(⇑b:Int)<5 then(⇑b:Int)else 5)) (Ei _ ∅) (Int.lt_of_lt_of_le (DT _ D.2.1) D.1);have ay:(n / 4 / 5 % (if(⇑b:Int)<5 then(⇑b:Int)else 5)).toNat<5:=by have h1:=DT (n / 4 / 5) D.2.1;have h2:=Ei (n / 4 / 5) (Int.ne_of_gt D.2.1);have h3:=D.2.2;ext
  exists 00301,{by decide,by decide},0,p,b,1,.inl (Qi r),(5),0301,D.2.1,p,b,_,h,11,Qi r,a2;have(t1,c1,E):=u.get b1;have(t2,c2,k2):=u.get b2;refine{0,Yz,λq1 am=>{00,Vb,λq2 an=>{00,Vb,λq3 ao=>{Uu,λq4 ap=>{oO,λah hl=>?_}}}}};have B:=Qf am (.tup [.str "fig",e]);have I:=Qf an (.tup [.str "fog",e,h]);have e3:=Qf ao (.tup [.str "fig",e,h]);have J:=Qf ap (.tup [.str "sat"]);have C:=Qf hl (.lst [↑q1,↑q2,↑q3,↑q4]);have Z:=(((B.trans I).trans e3).trans J).trans C;have m1:=(Iv (w:="fig") am (.one E)).same (((I.trans e3).trans J).trans C);have m2:=(Iv (w:="fog") an (.cons (E.same B) (.one (k2.same B)))).same ((e3.trans J).trans C);have m3:=(Iv (w:="fig") ao (.cons (E.same (B.trans I)) (.one (k2.same (B.trans I))))).same (J.trans C);have m4:=(Iv (w:="sat") ap .nil).same C;generalize al:zj (zj (zj (zj (zj m q1 (.tup [.str "fig",e])) q2 (.tup [.str "fog",e,h])) q3 (.tup [.str "fig",e,h])) q4 (.tup [.str "sat"])) ah (.lst [↑q1,↑q2,↑q3,↑q4])=X at*;have aD:pX X ah t1 t2:=by
   refine{_,by rw[<-al];exact Qb,1,λg N=>?_};simp at N;rcases N with rfl|rfl|rfl|rfl
   .exact{_,m1,xZ ak}
   .exact{_,m2,qO aC}
   .exact{_,m3,qO ak}
   .exact{_,m4,wz aM}
  clear m1 m2 m3 m4 al B I e3 J C;exists 0301,(by show(0:Int)<9;decide),10;refine Uv (λ_=>?_) (λ_=>?_)
  .refine{0301,{by decide,by decide},0,λx hx=>{Yz,λl2 aG=>?_}};have d1:=Qf aG (.lst [.str x,.str "hog"]);have(wv,a3,b3):=Ik [V.str x,V.str "hog"] (n / 36 % 2) (Ei _ (by decide)) (DT _ (by decide));have aJ:∃d,wv=.str d/\Oi d=Gk:=by
    have M:=Gc b3;simp at M;rcases M with rfl|rfl
    .exact{0,hx}
    .exact{0,aI}
   have(d,rfl,aa):=aJ;exists 0301,{by decide,by decide},301,(by show(0:Int)<2;decide),l2,201,Qi Qb,a3;refine{000,Uu,λT aw=>{oO,λU ax=>?_}};have d2:=Qf aw (.tup [.str "tab"]);have d3:=Qf ax (.tup [.str d,e,h,↑T]);refine{00,Yz,λO aq=>{000,Vb,λQ ar=>{00,Uu,λS au=>{oO,λl3 aH=>?_}}}};have d4:=Qf aq (.tup [.str d,e]);have d5:=Qf ar (.tup [.str d,e,h]);have Y:=Qf au (.tup [.str d]);have G:=Qf aH (.lst [↑O,↑Q,↑U,↑S]);have aP:=d1;have z2:=Z.trans d1;have z3:=z2.trans d2;have z4:=z3.trans d3;have z5:=z4.trans d4;have z6:=z5.trans d5;have tb:=(Iv (w:="tab") aw .nil);have n1:=(Iv (w:=d) ax (.cons (E.same z3) (.cons (k2.same z3) (.one tb)))).same (((d4.trans d5).trans Y).trans G);have n2:=(Iv (w:=d) aq (.one (E.same z4))).same ((d5.trans Y).trans G);have n3:=(Iv (w:=d) ar (.cons (E.same z5) (.one (k2.same z5)))).same (Y.trans G);have n4:=(Iv (w:=d) au .nil).same G;have zz:=(z6.trans Y).trans G;have up:=@Qb (zj (zj (zj (zj (zj (zj X l2 (.lst [.str x,.str "hog"])) T (.tup [.str "tab"])) U (.tup [.str d,e,h,↑T])) O (.tup [.str d,e])) Q (.tup [.str d,e,h])) S (.tup [.str d])) l3 (.lst [↑O,↑Q,↑U,↑S]);generalize zj (zj (zj (zj (zj (zj (zj X l2 (.lst [.str x,.str "hog"])) T (.tup [.str "tab"])) U (.tup [.str d,e,h,↑T])) O (.tup [.str d,e])) Q (.tup [.str d,e,h])) S (.tup [.str d])) l3 (.lst [↑O,↑Q,↑U,↑S])=H4 at*;have aE:pX H4 l3 t1 t2:=by
    refine{_,up,1,λg N=>?_};simp at N;rcases N with rfl|rfl|rfl|rfl
    .exact{_,n2,xZ aa}
    .exact{_,n3,qO aa}
    .exact{_,n1,Q7h aa az}
    .exact{_,n4,wz aa}
   have(L,hf,lf,af):=aE;have(g,av,bv):=Ik L (n % 4) (Ei _ (by decide)) (by rw[lf];exact DT _ (by decide));have(ai,ag,R):=af g (Gc bv);have v:=zz _ _ r;exists 0,.inl {13,Qi v},00301,(by show(0:Int)<4;decide),l3,L,_,g,11,Qi hf,av,p,b,g,11,v,(by rw[TD];ext);have tu:=Z1 (H:=H4) (a:=p) (o:=.lst (b++[g])) λxs c=>by rw[v]at c;cases c
   refine{b++[g],z++[ai],2220,λaB o c=>?_,Qb,((u.same zz).append (.one ag)).Qv tu,Ax A c1 c2 ay R};rw[Qh (Qd c ae)];exact zz _ _ (k _ _ c)
  .skip
   have(L,hf,lf,af):=aD;have(g,av,bv):=Ik L (n % 4) (Ei _ (by decide)) (by rw[lf];exact DT _ (by decide));have(ai,ag,R):=af g (Gc bv);have v:=Z _ _ r;exists 0,.inl {13,Qi v},00301,(by show(0:Int)<4;decide),ah,L,_,g,11,Qi hf,av,p,b,g,11,v,(by rw[TD];ext);have tu:=Z1 (H:=X) (a:=p) (o:=.lst (b++[g])) λxs c=>by rw[v]at c;cases c
   refine{b++[g],z++[ai],2220,λaB o c=>?_,Qb,((u.same Z).append (.one ag)).Qv tu,Ax A c1 c2 ay R};rw[Qh (Qd c ae)];exact Z _ _ (k _ _ c)
 .rintro ab m ⟨b,z,x2,x3,x4,x5,x6,x7,x8,rfl,k,r,u,A⟩;rw[Gq]at A;exact{0,q p b z m k ae r u A}
theorem UN(b:Bool):(tw b==("unlike":TQ))= !b:=by cases b<;>decide+kernel
theorem AS:Q4 ["_law_cell","_law_size"] ["_law_cell"] (Qm rz):=by eq_refl
theorem Q41(F:Wc K "_law_any" "_law_any" rz f fd):Qz P w K mg base Z4 1 f fd ["_law_cell"] tX:=by
 refine F.ok AS (λj H Q E h=>?_) (λd A a s H j Q E k h=>?_)
 .obtain⟨n,rfl,_⟩:=h;rfl
 have(n,rfl,q):=h;have i:=AS.nd;exists _,(Qc (Q3 1 i (Zy W9 (Zy Vq {0} Qj) (Zy xi Qj Qj)))
  (Qg (Qu (Zy AW {1} (Qn Q9 (Zz (Qa Qj (Qa (Jo Vl Qj) Qe))) (Zy W9 {0} Qj))))))
 exists 0301,{by decide,by decide},301,{by decide,by decide,by decide},301,(by show(0:Int)<10^DZ 59;decide);refine{00,Yz,λl b=>?_};have(v,e,g):=Ik [V.int 1,V.int (-1)] (n % 2) (Ei _ (by decide)) (DT _ (by decide));have c:=Gc g;simp only[Td,Ek,LW]at c;exists 0301,(by show(0:Int)<2;decide),l,2,v,11,Qi Qb,e;rcases c with rfl|rfl
 .exact{301,.inr {by decide,by decide},q _ _ (Qf b _)}
 .exact{301,.inr {by decide,by decide},q _ _ (Qf b _)}
theorem yk:Q4 ["_law_script","_law_most","_law_bound"] ["_law_script","_law_most","_law_bound"] (Qm pU):=by eq_refl
theorem Q0n(F:Wc K "_law_room" "_law_room" pU f fd)(B:hJ mg):Qz P w K mg base Z4 1 f fd ["_law_script","_law_most","_law_bound"] (yP K):=by
 refine F.ok yk (λj H Q E h=>?_) (λe A d s H j Q E l h=>?_)
 .obtain⟨a,i,m,b,rfl,_⟩:=h;rfl
 have(a,i,m,b,rfl,g,k,q):=h;have n:=yk.nd;exists _,(Qc (Zc (Qo kP (Qp Zs rfl B.len Tp (Qa {0} Qe)) Qj (Qs _))
  (Qg (Qu {2})) Qw)
  (Qg (Qu {1})))
 exists 030,.inl {_,g,1},3010;refine Uv (λc=>?_) (λc=>?_)
 .exfalso;have c:=Dp c;rw[Gq]at c;lia
 .exact{0,q}
theorem uy:Q4 ["_law_cells","_law_things","_law_deeds","_law_k","_law_rest","_law_one","_law_other","_law_way","_law_odd"] ["_law_cells","_law_things"] (Qm sk):=by eq_refl
theorem Qtn{dA:Du}(F:Wc K "_law_drawn_deeds" "_law_drawn_deeds" sk f fd)(S:hJ mg)
  (GA:Qz P w K mg base Z4 1 fA dA ["_law_cell"] tX)(kA:KI K fA)(bA:zk K dA ["_law_cell"] [])(mA:MG mg "_law_any" fA):
  Qz P w K mg base Z4 2 f fd ["_law_cells","_law_things"] (xg K):=by
 refine F.ok uy (λe T b a h=>?_) (λn m o s T e b a hr h=>?_)
 .obtain⟨u,z,E,l,J,rfl,_⟩:=h;rfl
 have(u,z,E,l,J,rfl,X,am,hb,ab,ao,an,q):=h;have v:=uy.nd;have aq:=⇑ab;exists _,(Qc (Q3 2 v (Zz Qe))
  (Qc (Z9 To rfl (Vy rfl S.range (Qa (Qp Zs rfl S.len Tp (Qa {0} Qe)) Qe)) (Zv 3 v)
  (Qc (Q3 4 v (Zy Vq (Qn Q9 {0} {3}) Qj))
  (Qc (Q3 5 v (Qn Q9 {1} (Zy W9 (Zy jN {4} {3}) (Qp Zs rfl S.len Tp (Qa {1} Qe)))))
  (Qc (Q3 6 v (Qn Q9 {1} (Zy W9 (Zy jN (Zy jN (Zy Vq {4} Qj) (Zy AW Qj {3})) Qj) (Qp Zs rfl S.len Tp (Qa {1} Qe)))))
  (Qc (Q3 7 v (Zy W9 (Qn Q9 {0} {3}) Qj))
  (Qg (Zc (Qo Ud {7} Qj (Qs _))
  (Qg (Zl (Xx Te Tx TB Z0 {2} (Qa (Zg (Qa Zo (Qa {5} (Qa {6} Qe)))) Qe)))) (Qg (Zc (Qo Ud {7} Qj (Qs _))
  (Qg (Zl (Xx Te Tx TB Z0 {2} (Qa (Zg (Qa Zo (Qa {5} (Qa {6} Qe)))) Qe)))) (Qg (Zc (Qo Ud {7} Qj (Qs _))
  (Qg (Zl (Xx Te Tx TB Z0 {2} (Qa (Zg (Qa Zo (Qa {5} (Qa {6} Qe)))) Qe)))) (Qc (Q3 8 v (Ze GA hr rfl mA kA bA .nil Q7 (Qa (Qn Q9 {0} {3}) Qe)))
  (Qg (Zl (Xx Te Tx TB Z0 {2} (Qa (Zg (Qa Zo (Qa (Qn Q9 (Zz (Qa (Zy W9 {4} Qj) (Qa Qj (Qa (Jo Vl Qj) (Qa {8} Qe))))) (Zy W9 (Zy Vq {4} Qj) Qj)) Qe))) Qe))))))))))))))))
  (Qg (Qu {2}))))
 refine{Tw _,λp hp=>?_};have s1:=Qf hp (.lst []);let al:Nat->St->Hp->Prop:=λi ae j=>sq λ(c:List V)(k:List Dd)(L M N O Q R:Option V)=>mw (ae=[Ga ↑u,Ga ↑z,Ga ↑p,L,M,N,O,Q,R]) (Q5 T j) (j p/.lst c) (Ur j c k) (⇑k=i) (∀d∈k,d.fits J)
 refine⟨_,Xb,_,_,Xb,.inl {_,s1.seq X,1},_,Xb,by lia,by rw[Gq];lia,V0 (lo:=0) (n:=((⇑(E.map V.int):Int)).toNat) al
  {[],[],3220,s1,Qb,.nil,1,λd D=>nomatch D} ?_ ?_⟩
 .rintro i ae j hi ⟨c,k,L,M,N,O,Q,R,rfl,t,g,W,g3,g4⟩;have hi:i<⇑E:=by rw[Gq]at hi;lia
  have ap:⇑c=⇑k:=GJ W;generalize hc:E[i]=r;have ec:Rt (E.map V.int) (0+(i:Int))/.int r:=by rw[EV];refine Zi ?_;rw[Ta,Gf hi,hc];rfl
  have Z:(0:Int)<⇑l:=by lia
  ac_nf;have(m,a1,f1):=Ik l ((r / 10+(0+(i:Int))) % ⇑l) (Ei _ (by lia)) (DT _ Z);have(n,a2,f2):=Ik l ((r / 10 / 7+2*(0+(i:Int))+1) % ⇑l) (Ei _ (by lia)) (DT _ Z);have(H,e1,i1):=ab.get f1;have(I,e2,i2):=ab.get f2;intros;have A:=Gc e1;have B:=Gc e2;have Y:=t _ _ hb;exists 00,u,201,t.seq X,ec,301,{by decide,by decide};exists 000301030,.inl {l,Qi Y,1},301,Z,z,l,_,m,11,Qi Y,a1;exists 00301,{by decide,by decide},0301,.inl {by decide,by decide},301301030,.inl {l,Qi Y,1},301,Z,z,l,_,n,11,Qi Y,a2;exists 00,u,201,t.seq X,ec,301,(by show(0:Int)<10;decide);have U:∀{o:Hp}{a:Ge}{y:List V}{d:Dd}{ai:Option V},Q5 j o->o a=Gp->d.fits J->jo (zj (zj o a (.tup y)) p (.lst (c++[↑a]))) ↑a d->
    sq λ(ag:List V)(k:List Dd)(L M N O Q R:Option V)=>mw ([Ga (V.ref u),Ga ↑z,Ga ↑p,Ga (.int (0+(i:Int))),Ga (.int (r / 10)),Ga m,Ga n,Ga (.int (r % 10)),ai]=[Ga ↑u,Ga ↑z,Ga ↑p,L,M,N,O,Q,R]) (Q5 T (zj (zj o a (.tup y)) p (.lst (c++[↑a])))) ((zj (zj o a (.tup y)) p (.lst (c++[↑a]))) p/.lst ag) (Ur (zj (zj o a (.tup y)) p (.lst (c++[↑a]))) ag k) (⇑k=i+1) (∀d∈k,d.fits J):=by
   intro o a y d ai G b hf D;have s4:=Qf b (.tup y);have p4:=s4 _ _ (G _ _ g);have C:Q8 j (zj (zj o a (.tup y)) p (.lst (c++[↑a]))):=((Q8.of G).trans (Q8.of s4)).trans (Z1 λys e=>by rw[p4]at e;cases e);refine{c++[↑a],k++[d],3220,λq ar hq=>?_,Qb,Yx (W.Qv C) (.cons D .nil),by rw[Gs,Tg,g3],λd' aj=>?_}
   .rw[Qh (Qd hq hp)];exact s4 _ _ (G _ _ (t _ _ hq))
   .rcases Gi.mp aj with e|e
    .exact g4 d' e
    .rw[Tf]at e;rw[e];exact hf
  have ad:∀{x:TQ}{a:Ge}{d:Dd},j a=Gp->d.fits J->(d=.ask H I/\x="ask"\/∃bb,d=.tell bb H I/\x=tw bb)->jo (zj (zj j a (.tup [.str x,m,n])) p (.lst (c++[↑a]))) ↑a d:=by
   intro x a d b hf D;have s4:=Qf b (.tup [.str x,m,n]);have p4:=s4 _ _ g;have aa:a≠p:=λe=>by rw[e,g]at b;cases b
   have C:Q8 T (zj (zj j a (.tup [.str x,m,n])) p (.lst (c++[↑a]))):=((Q8.of t).trans (Q8.of s4)).trans (Z1 λys e=>by rw[p4]at e;cases e);have af:(zj (zj j a (.tup [.str x,m,n])) p (.lst (c++[↑a]))) a/.tup [.str x,m,n]:=by rw[Qh aa];exact Qb
   rcases D with⟨rfl,rfl⟩|⟨bb,rfl,rfl⟩
   .exact{a,m,n,1,af,i1.Qv C,i2.Qv C}
   .exact{a,m,n,1,af,i1.Qv C,i2.Qv C}
  exists 403010;refine Uv (λc1=>?_) (λc1=>?_)
  .refine{0,.inl {13,Qi g},00,Vb,λa b=>?_};exists p,c,↑a,11,Qf b _ _ _ g,(by rw[TD];lia);exact U (d:=.tell Gk H I) (λ_ _ h=>h) b ⟨A,B⟩ (ad b ⟨A,B⟩ (.inr ⟨Gk,Xb,Xb⟩))
  exists 403010;refine Uv (λc2=>?_) (λc2=>?_)
  .refine{0,.inl {13,Qi g},00,Vb,λa b=>?_};exists p,c,↑a,11,Qf b _ _ _ g,(by rw[TD];lia);exact U (d:=.tell Gx H I) (λ_ _ h=>h) b ⟨A,B⟩ (ad b ⟨A,B⟩ (.inr ⟨Gx,Xb,Xb⟩))
  exists 403010;refine Uv (λc3=>?_) (λc3=>?_)
  .refine{0,.inl {13,Qi g},00,Vb,λa b=>?_};exists p,c,↑a,11,Qf b _ _ _ g,(by rw[TD];lia);exact U (d:=.ask H I) (λ_ _ h=>h) b ⟨A,B⟩ (ad b ⟨A,B⟩ (.inl ⟨Xb,Xb⟩))
  refine{00,u,201,t.seq X,ec,0,λah H2 s2=>?_};refine{0,.inl {13,Qi (s2 _ _ g)},0301,(by show(0:Int)<4;decide),00,oO,λak hl=>?_};have G:=Qf hl (.lst [.int (r / 10 % 4),.int 0,.int (-1),.int ah]);have(v3,a3,f3):=Ik [V.int (r / 10 % 4),.int 0,.int (-1),.int ah] (r / 10 / 4 % 4) (Ei _ (by decide)) (DT _ (by decide));have hv:=Gc f3;obtain⟨e,rfl⟩:∃e,v3=V.int e:=by simp only[Td,Ek,LW]at hv;rcases hv with h|h|h|h<;>exact⟨_,h⟩
  refine{0301,{by decide,by decide},301,(by show(0:Int)<4;decide),ak,2,.int e,11,Qi Qb,a3,Yz,λa b=>?_};have ac:=s2.trans G;have aa:a≠p:=λe=>by rw[e,ac _ _ g]at b;cases b
  exists p,c,↑a,11,Qf b _ _ _ (ac _ _ g),(by rw[TD];lia);exact U (d:=.back e) ac b Es {a,1,by rw[Qh aa];exact Qb}
 .rintro ae j ⟨c,k,L,M,N,O,Q,R,rfl,t,g,W,g3,g4⟩;refine{0,q p c k j t hp g W ?_ g4};rw[g3,Gq];lia
inductive yw(K:Gd)(vs:List V)(H:Hp)(Q:VK):Prop
 |mk (v:V) (t:Gh) (b1:Bool) (b2:Bool) (h0:vs=[v]) (h1:R3 K H v t) (h2:TX K t (.type "int")/b1) (h3:TX K t (.type "bool")/b2) (h4:Q (.bl (b1&&!b2)) H):yw K vs H Q
def lj(K:Gd):Sp:=λa H Q _=>yw K a H Q
theorem vK(b:Bool):(tw b==("ask":TQ))=Gx:=by cases b<;>decide+kernel
theorem UB(b:Bool):(tw b==("back":TQ))=Gx:=by cases b<;>decide+kernel
theorem wm:(("ask":TQ)=="ask")=Gk:=by decide+kernel
theorem Qx3:(("ask":TQ)=="back")=Gx:=by decide+kernel
theorem VA:(("back":TQ)=="back")=Gk:=by decide+kernel
theorem vw(a:List V)(i:Int)(b:0<=i):U8 a Gp (Ga i)=a.take i.toNat:=by obtain⟨k,rfl⟩:∃k:Nat,i=(k:Int):={i.toNat,by lia};unfold U8;rw[HT.R0,HT.Ib];simp
theorem Qre(n:Nat)(h:J0 H xs tl):J0 H (xs.take n) (tl.take n):=by
 unfold J0 at h⊢;induction h generalizing n with
 |nil=>cases n<;>exact .nil
 |cons h r a=>
  cases n with
  |zero=>exact .nil
  |succ n=>exact .cons h (a n)
theorem yd:Q4 ["_law_found"] ["_law_found"] (Qm r9):=by eq_refl
theorem KS(F:Wc K "_law_whole" "_law_whole" r9 f fd)(B:hJ mg):Qz P w K mg base Z4 1 f fd ["_law_found"] (lj K):=by
 refine F.ok yd (λi H Q E h=>?_) (λd A c s H i Q E j h=>?_)
 .obtain⟨v,t,a,b,rfl,_⟩:=h;rfl
 have(v,t,a,b,rfl,ht,e,g,q):=h;have k:=yd.nd;exists _,(Qg (Qu (qw (Qp Zu rfl B.isinstance GX (Qa {0} (Qa (Ya (v:=.ty "int") rfl B.int Fs Xb) Qe))) (nU (Q38 (Qp Zu rfl B.isinstance GX (Qa {0} (Qa (Ya (v:=.ty "bool") rfl B.bool Sj Xb) Qe))))))));exists 032,a,1,ht,e,a,1;cases a with
 |false=>exact Q6 q
 |true=>exact Yw {032,b,1,ht,g,b,1,q}
inductive uA(vs:List V)(H:Hp)(Q:VK):Prop
 |mk (v:V) (t:Th) (h0:vs=[v]) (h1:Z8 H v t) (h2:t.good) (h3:∀H':Hp,Q5 H H'->Q (.bl Gk) H'):uA vs H Q
def AO:Sp:=λa H Q _=>uA a H Q
theorem Qq4{w:TQ}(h:(Th.mk w ps).good):∀p∈ps,p.good:=λp a=>by have(c,d,e):=h;simp only[Th.ok,Th.depth,Th.size,Df]at c d e;have b:=c.2;rw[Ux,E2]at b;have:=Wp a;have:=xr a;exact{b p a,by ext,by ext}
theorem wA:Q4 ["_law_found","_law_todo","_law_part"] ["_law_found"] (Qm Rf):=by eq_refl
theorem PD(F:Wc K "_law_is_thing" "_law_is_thing" Rf f fd)(j:hJ mg):Qz P w K mg base Z4 1 f fd ["_law_found"] AO:=by
 refine F.ok wA (λvs k af ae e=>?_) (λaq ap az s k vs af ae hr e=>?_)
 .obtain⟨v,t,rfl,_⟩:=e;rfl
 have(v,t,rfl,hv,O,q):=e;have I:=wA.nd;have m:=hr.units;show∃t,Wf ?my _ t/\_;let an:Subtype (Wf ?my (sub [1,0,1] (Zd Rf))):={_,Qc (Zc (PW.pt (Yy (Yi (Z2 (Qp Zu rfl j.isinstance GX (Qa {2} (Qa (Ya (v:=.ty "tuple") rfl j.tuple Di Xb) Qe))))) (Yy (Qo Xy (Qp Zs rfl j.len Tp (Qa {2} Qe)) Qj (Qs _)) (Xj (Yi (Z2 (Qp Zu rfl j.isinstance GX (Qa (Qn Qt {2} Qj) (Qa (Ya (v:=.ty "str") rfl j.str EI Xb) Qe))))))))) (Qg (Qu Z7)) Qw) (Qg (Q3 1 I (Zy Jg {1} (Yq Xv rfl j.list TY (Qa (Yg Um {2} (Yn Qj) Xl) Qe)))))}
 let ao:Vr ?my Rf 1:={_,Qc (Ww To (Qo (Os m) {1} (Zz Qe) (Qs _)) (Qc (Q3 2 I (O2 Te EG EH Oz {1})) an.2)) (Qg (Qu Z7))}
 exists _,Qc (Q3 1 I (Zz (Qa {0} Qe))) ao.2;have am:=O.2.2;refine{0,Uu,λb o=>?_};have J:=Qf o (.lst [v]);exists λU ac c=>iE λ(b:Ge)(h:List V)(a:List Th)(B:Option V)=>iu (ac=[Ga v,Ga ↑b,B]) (Q5 k c) (k b=Gp) (c b/.lst h) (Zq c h a) (∀u∈a,u.good) (U=Za a) (Za a<=100),
  {_,b,[v],[t],Gp,1,J,o,Qb,.one (hv.same J),λu m=>by rw[Tf]at m;subst m;exact O,1,by simp[Za];exact am}
 clear J o;rintro U ac c ⟨b,h,a,B,rfl,sm,o,y,C,G,rfl,sz⟩;have lx:=⇑C;have lT:=Zn a;refine{0,Tw _,λi hz=>?_};have s4:=Qf hz (.lst []);exists .list (Wd a),.list [],.lst (s4 _ _ y) (C.same s4).dts,.lst Qb .nil,by simp only[TJ];exact lF a (by rw[Ux,E2];exactλu m=>(G u m).1),by simp[TJ,Gz],?_,_,Xb
 .simp only[DV,Db];ext
 have ev:T5 (.list (Wd a)) (.list [])=a.isEmpty:=by
  simp only[T5];rw[Je];cases a with
  |nil=>simp[Wd]
  |cons t Y=>simp[Wd]
 rw[ev];rcases Sx a with rfl|⟨Tr,u,E⟩
 .exact Q6 (q _ (sm.trans s4))
 .have E:a=Tr++[u]:=by simpa using E
  subst E;have ai:(Tr++[u]).isEmpty=Gx:=by cases Tr<;>rfl
  rw[ai];refine Yw ?_;ac_nf;have(d,x,rfl,A,H):=Ih C;intros;have S:Za (Tr++[u])=Za Tr+u.size:=by rw[Xu];simp[Za]
  rw[S]at sz;have ar:=Ry u;have al:=G u ⋯;exists λad r=>∃W,W<Za (Tr++[u])/\iE λ(b:Ge)(h:List V)(a:List Th)(B:Option V)=>iu (ad=[Ga v,Ga ↑b,B]) (Q5 k r) (k b=Gp) (r b/.lst h) (Zq r h a) (∀u∈a,u.good) (W=Za a) (Za a<=100),λad r e=>e;have ah:(d++[x])[⇑(d++[x]) - 1]?/x:=by simp
  exists 0,.inl {13,Qi (s4 _ _ y)},b,301,s4 _ _ y,ah;rw[SM];have D:Rb b c (zj (zj c i (.lst [])) b (.lst d)):=λN X l e=>by rw[Qh e];exact s4 _ _ l
  have T:(zj (zj c i (.lst [])) b (.lst d)) b/.lst d:=Qb;generalize zj (zj c i (.lst [])) b (.lst d)=L at D T⊢;have t5:Q8 c L:=D.Qv y (λh l=>by cases l);have ab:Q5 k L:=λN X l=>D N X (sm _ _ l) (Qd l o);have A:=A.Qv t5;have H:=H.Qv t5;ac_nf;have(M,wd,g,p,rfl,rfl,z,R):=H.inv;intros;have ax:=⇑R;have aw:=Zn p;have ay:=⇑A;have av:=Zn Tr;have au:(Th.mk wd p).size=Za p+1:=by simp only[Th.size]
  refine{032,Gk,1,.tup z,kj,Gk,1,Q6 ?_};exists 030,.inr {_,Qk z,1},10;rw[Uw];rw[show(((⇑(V.str wd::g):Nat):Int)==0)=Gx by simp;ext];refine Q6 ?_;refine{0,M,201,Qk z,Yo,32,Gk,1,.str _,Rz,Gk,1,Q6 ?_};refine{000,M,0,Qk z,Wr _ _,λY aj=>?_};rw[iG];have s7:=Qf aj (.tup g);refine{Y,g,1,.inr (Qk Qb),λl2 ag=>?_};have s8:=Qf ag (.lst g);refine{b,l2,d,g,11,s8 _ _ (s7 _ _ T),Qb,small ∅,λn Q=>?_};have s9:=Qf Q (.lst (d++g));have Z:=s7.trans s8;have aa:=Z.trans s9;refine{Za (Tr++p),by rw[S,Xu];ext,n,d++g,Tr++p,0,ab.trans aa,(ab.trans Z).free Q,Qb,(A.append R).same aa,λu' ak=>?_,1,by rw[Xu];ext};rcases Gi.mp ak with i|i
  .exact G u' (Gv _ i)
  .exact Qq4 al u' i
end
end K04
namespace Sb
open PySem PySem.Spec PyProof.Rows L2
noncomputable def rn(w:TQ):TQ:=if w="sab"then"tab"else if w="tab"then"x"else if w="sob"then"sab"else if w="sat"then"sob"else if w="fig"then"fog"else if w="fog"then"hog"else("q":TQ)++w++"q"
def unq(w:TQ):TQ:=⟨w.cps.extract 1 (w.cps.size - 1)⟩
noncomputable def un(w:TQ):TQ:=if w="tab"then"sab"else if w="x"then"tab"else if w="sab"then"sob"else if w="sob"then"sat"else if w="fog"then"fig"else if w="hog"then"fog"else unq w
end Sb
namespace L2
open PySem PySem.Spec PyProof.Rows
theorem Q08(a:List V)(k:Nat):U8 a Gp (Ga (k:Int))=a.take k:=by unfold U8;rw[HT.R0,HT.Ib];simp
theorem VP(a:List V)(k:Nat)(h:k<⇑a):¬(HT.Vf ⇑a 0 Gp=0/\HT.Vf ⇑a ⇑a (Ga (k:Int))=⇑a):=by rw[HT.Ib];rintro⟨_,b⟩;ext
theorem xw{c:Type}{a:List c}{v:c}(h:a[⇑a - 1]?/v):Rt a (-1)/v:=by
 rcases Sx a with rfl|⟨b,u,e⟩
 .simp at h
 .have e:a=b++[u]:=by simpa using e
  subst e;have:u=v:=by simpa using h
  rw[this];exact XU b v
end L2
namespace Sb
open PySem PySem.Spec PyProof.Rows L2
theorem XG{a:List Th}{e:Tl}{d:Dd}(h:∀p∈e,p.2.1∈a/\p.2.2∈a)(g:d.fits a):∀p∈(Jt e d).1,p.2.1∈a/\p.2.2∈a:=by
 cases d with
 |ask x y=>exact h
 |back i=>
  simp only[Jt];split
  .exactλp c=>h p (DL c)
  .exact h
 |tell b x y=>
  simp only[Jt];split
  .exact h
  .intro p c;rcases Gi.mp c with z|z
   .exact h p z
   .rw[Tf]at z;subst z;exact g
theorem Kk{a:List Th}:∀{ds:List Dd}{tl:Tl},(∀p∈tl,p.2.1∈a/\p.2.2∈a)->(∀d∈ds,d.fits a)->∀p∈after tl ds,p.2.1∈a/\p.2.2∈a
 |[],_,h,_=>h
 |d::ds,tl,h,g=>by have:=Kk (ds:=ds) (tl:=(Jt tl d).1) (XG h (g d G8)) λe b=>g e (Gr _ b);simp only[after];exact this
end Sb
namespace K04
open PySem L2 Sb
variable{H:Hp}{v1 v2:V}{t:Th}{Q:VK}
def i8:Ge->Prop:=λ_=>False
theorem qT(a:Z8 H v1 t)(c:Z8 H v2 t)(g:t.good)(q:Q (.bl Gk) H):ko (λb=>b) v1 v2 H Q:=
 {t.toD,t.toD,a.dt,c.dt,Wj t g.1,Wj t g.1,by rw[Xi];have:=g.2.1;ext,by rw[m8,Tk rfl];exact q}
theorem qC(a:Z8 H v1 t)(c:Z8 H v2 t)(g:t.good)(q:Q (.bl Gx) H):ko (λb=>!b) v1 v2 H Q:=
 {t.toD,t.toD,a.dt,c.dt,Wj t g.1,Wj t g.1,by rw[Xi];have:=g.2.1;ext,by rw[m8,Tk rfl];exact q}
theorem wG(t:Th):T5 t.toD t.toD=Gk:=by rw[m8];exact Tk rfl
theorem uB{c d:Ge}{i j:V}{s:Th}(o:H c/.tup [v1,v2])(p:H d/.tup [i,j])(k:Z8 H v1 s)(l:Z8 H v2 t)(m:Z8 H i s)(n:Z8 H j t)(a:s.good)(f:t.good)(q:Q (.bl Gk) H):ko (λb=>b) ↑c ↑d H Q:=by
 have g:=Wj s a.1;have h:=Wj t f.1;have r:=Xi s;have u:=Xi t;have:=a.2.1;have:=f.2.1;exists .tuple [s.toD,t.toD],.tuple [s.toD,t.toD],.tup o (.cons k.dt (.cons l.dt .nil)),.tup p (.cons m.dt (.cons n.dt .nil)),by simp[TJ,Gz,g,h],by simp[TJ,Gz,g,h],?_
 .simp only[DV,Db];ext
 .have e:T5 (.tuple [s.toD,t.toD]) (.tuple [s.toD,t.toD])=Gk:=by simp[T5,DB,wG]
  rw[e];exact q
theorem Q5h{c d:Ge}{x:TQ}{j k:V}{s:Th}(g:DK x=Gk)(p:H c/.tup [.str x,v1,v2])(r:H d/.tup [.str x,j,k])(l:Z8 H v1 s)(m:Z8 H v2 t)(n:Z8 H j s)(o:Z8 H k t)(a:s.good)(f:t.good)(q:Q (.bl Gk) H):ko (λb=>b) ↑c ↑d H Q:=by
 have h:=Wj s a.1;have i:=Wj t f.1;have u:=Xi s;have v:=Xi t;have:=a.2.1;have:=f.2.1;exists .tuple [.str x,s.toD,t.toD],.tuple [.str x,s.toD,t.toD],.tup p (.cons (.str _) (.cons l.dt (.cons m.dt .nil))),.tup r (.cons (.str _) (.cons n.dt (.cons o.dt .nil))),by simp[TJ,Gz,h,i,g],by simp[TJ,Gz,h,i,g],?_
 .simp only[DV,Db];ext
 .have e:T5 (.tuple [.str x,s.toD,t.toD]) (.tuple [.str x,s.toD,t.toD])=Gk:=by simp[T5,DB,wG]
  rw[e];exact q
def lZ(H:Hp)(v:V):Option (Th×Th)->Prop
 |none=>v=.non
 |some p=>∃c a b,v=.ref c/\H c/.tup [a,b]/\Z8 H a p.1/\Z8 H b p.2/\p.1.good/\p.2.good
theorem lZ.same{H b:Hp}(e:Q5 H b){v:V}{a:Option (Th×Th)}(h:lZ H v a):lZ b v a:=by
 cases a with
 |none=>exact h
 |some=>have(c,k,l,d,f,g,i,j):=h;exact{c,k,l,d,e _ _ f,g.same e,i.same e,j}
structure jw(H:Hp)(L:Ge)(lv:List V)(ls:List Lt):Prop where
 at_:H L/.lst lv
 pr:Dm (qQ H i8) lv ls
 good:∀l∈ls,l.1.good/\l.2.1.good
 len:⇑ls<=900000
theorem jw.same{H a:Hp}(e:Q5 H a){L:Ge}{d:List V}{b:List Lt}(h:jw H L d b):jw a L d b:=
 {e _ _ h.at_,Qr h.pr (by rintro _ _ ⟨c,n,o,m,f,g,i,j,k,l⟩;exact{c,n,o,m,f,e _ _ g,i.same e,j.same e,k.kp (λh=>e _ _ h) (λh _=>e _ _ h),l}),h.good,h.len}
inductive zg(vs:List V)(H:Hp)(Q:VK):Prop
 |mk (a:Ge) (L:Ge) (us:List V) (lv:List V) (pq:V) (tl:Tl) (pr:Option (Th×Th)) (ls:List Lt) (k:Nat) (x:Th) (y:Th) (r:Lr) (h0:vs=[↑a,↑L,.int (k:Int),pq]) (h1:H a/.lst us) (h2:J0 H us tl) (h3:iy tl) (h4:⇑tl<=1000) (h5:jw H L lv ls) (h6:lZ H pq pr) (h7:ls[k]?/(x,y,r)) (h8:zo tl pr (ls.take k) x y r) (h9:∀H':Hp,Q5 H H'->Q (.bl Gk) H'):zg vs H Q
def uN:Sp:=λa H Q _=>zg a H Q
theorem sj{b:Type}{l:List b}{k n:Nat}{x:b}(h:(l.take k)[n]?/x):n<k/\l[n]?/x:=by
 have c:=(Gg.mp h).1;rw[Dq]at c;have a:n<k:=by ext
 rw[Dx a]at h;exact⟨a,h⟩
theorem yn{c:List Lt}:∀{e:List Nat}{a b:Th},je c a e b->∀k∈e,∃l,c[k]?/l
 |[],_,_,_,k,d=>nomatch d
 |j::e,a,b,⟨m,r,f,g⟩,k,d=>by
  rcases Td.mp d with z|z
  .exact{_,by rw[z];exact f}
  .exact yn g k z
theorem P5{c:List Lt}:∀{d:List Nat}{a b:Th}{i k:Nat},je c a d b->d[i]?/k->∀t,je c t (d.drop i) b->∃m r,c[k]?/(t,m,r)/\je c m (d.drop (i+1)) b:=by intro d a b i k _ f t ht;have e:d.drop i=k::d.drop (i+1):=Sm.trans (by rw[f];rfl);rw[e]at ht;exact ht
noncomputable def rowsOf(b:List V)(a:List Nat):List V:=a.map λk=>b.getD k .non
theorem getD_at{a:List V}{k:Nat}(h:k<⇑a):a[k]?/a.getD k .non:=by rw[DR,Gf h];rfl
theorem Q3t:(("told":TQ)=="told")=Gk:=by decide+kernel
theorem Q3p:(("asked":TQ)=="told")=Gx:=by decide+kernel
theorem Q5g:(("asked":TQ)=="asked")=Gk:=by decide+kernel
theorem XJ:(("turn":TQ)=="told")=Gx:=by decide+kernel
theorem Q1a:(("turn":TQ)=="asked")=Gx:=by decide+kernel
theorem KN:(("turn":TQ)=="turn")=Gk:=by decide+kernel
theorem Zaw:(("chain":TQ)=="told")=Gx:=by decide+kernel
theorem Zar:(("chain":TQ)=="asked")=Gx:=by decide+kernel
theorem Zaj:(("chain":TQ)=="turn")=Gx:=by decide+kernel
theorem Q77:(("chain":TQ)=="chain")=Gk:=by decide+kernel
theorem Za0:(("like":TQ)=="told")=Gx:=by decide+kernel
theorem Za3:(("like":TQ)=="asked")=Gx:=by decide+kernel
theorem Zas:(("like":TQ)=="turn")=Gx:=by decide+kernel
theorem Q50:(("like":TQ)=="chain")=Gx:=by decide+kernel
theorem Pk:(("like":TQ)=="like")=Gk:=by decide+kernel
theorem Po:(["_law_number","_law_lines"]:List TQ).Nodup:=by decide+kernel
section
variable{P:Gn}{w:Ti}{K:Gd}{mg:TQ->Option Gh}{base:Heap}
theorem yB:Q4 ["_law_told","_law_lines","_law_k","_law_pair","_law_one","_law_other","_law_reason","_law_number","_law_rows","_law_here","_law_row","_law_j"] ["_law_told","_law_lines","_law_k","_law_pair"] (Qm oI):=by eq_refl
theorem WO{aC fH:Ge}{fd dH:Du}(F:Wc K "_law_line_follows" "_law_line_follows" oI aC fd)(J:hJ mg)
  (GH:Qz P w K mg base Z4 1 fH dH ["_law_found"] (lj K))(kH:KI K fH)(bH:zk K dH ["_law_found"] [])(mH:MG mg "_law_whole" fH):
  Qz P w K mg base Z4 2 aC fd ["_law_told","_law_lines","_law_k","_law_pair"] uN:=by
 refine F.ok yB (λm X g f Y=>?_) (λG v H s X m g f hr Y=>?_)
 .obtain⟨a,S,us,l,pq,tl,pr,ls,k,x,y,r,rfl,_⟩:=Y;rfl
 have(a,S,us,l,pq,tl,pr,ls,k,x,y,r,rfl,ha,aD,aM,aL,D,aJ,hk,ok,q):=Y;have A:=yB.nd;have hu:=hr.units;exists _,(Qc (Il (Qn Q9 {1} {2}) (Wi rfl (Zb (Zv 4 A) (Zb (Zv 5 A) (Zb (Zv 6 A) Xt)))))
  (Qc (Zc (Qo Xy (Qn Qt {6} Qj) Zo (Qs _))
  (Qc (Q3 7 A (Qn Qt {6} Qj))
  (Qc (Zc (PW.pt (Yy (Yi (Z2 (Ze GH hr rfl mH kH bH .nil Q7 (Qa {7} Qe)))) (Yy (Qo Ud {7} Qj (Qs _)) (Xj (Qo md {7} (Qp Zs rfl J.len Tp (Qa {0} Qe)) (Qs _))))))
  (Qg (Qu Z7)) Qw)
  (Qg (Qu (Wz (U3 hu) (Qn Q9 {0} {7}) (Zg (Qa Zo (Qa {4} (Qa {5} Qe)))) (Qs _)))))) Qw)
  (Qc (Zc (Qo Xy (Qn Qt {6} Qj) Zo (Qs _))
  (Qg (Qu (Wz (U3 hu) {3} (Zg (Qa {4} (Qa {5} Qe))) (Qs _)))) Qw)
  (Qc (Zc (Qo Xy (Qn Qt {6} Qj) Zo (Qs _))
  (Qc (Q3 7 A (Qn Qt {6} Qj))
  (Qc (Zc (PW.pt (Yy (Yi (Z2 (Ze GH hr rfl mH kH bH .nil Q7 (Qa {7} Qe)))) (Yy (Qo Ud {7} Qj (Qs _)) (Xj (Qo md {7} {2} (Qs _))))))
  (Qg (Qu Z7)) Qw)
  (Qg (Qu (Wz (U3 hu) (Yg Um (Qn Q9 {1} {7}) Xl (Yn Qj)) (Zg (Qa {5} (Qa {4} Qe))) (Qs _)))))) Qw)
  (Qc (Zc (Yi (Z2 (Qp Zu rfl J.isinstance GX (Qa (Qn Qt {6} Qj) (Qa (Ya (v:=.ty "list") rfl J.list TY Xb) Qe)))))
  (Qg (Qu Z7)) Qw)
  (Qc (Z9 To rfl (Z6 (Qn Qt {6} Qj)) (Zv 7 A)
  (Qg (Zc (PW.pt (Yy (Yi (Z2 (Ze GH hr rfl mH kH bH .nil Q7 (Qa {7} Qe)))) (Yy (Qo Ud {7} Qj (Qs _)) (Xj (Qo md {7} {2} (Qs _))))))
  (Qg (Qu Z7)) Qw)))
  (Qc (V8 (i:=8) (own:=["_law_number"]) (fv:=[(1,"_law_lines")]) A rfl rfl rfl (S:=(by eq_refl:Xm (Qm oI) _)) (.cons rfl (DG Xb) rfl .nil) (Z6 (Qn Qt {6} Qj))
   (λ_ _ _ _ _=>Z5 (i:=0) Po rfl (DG Xb) (Ez Xb)) (λ_ _ _ _ _=>Xk) (λ_ _ _ _ _=>(Qn (r:=m9 K) Q9 {1} {0})))
  (Qc (Zc (Qo Xy (Qn Qt {6} Qj) Zo (Qs _))
  (Qc (Q3 9 A {4})
  (Qc (Z9 To rfl (Z6 {8}) (Zv 10 A)
  (Qc (Zc (Qo (Os hu) (Qn Qt {10} Qj) {9} (Qs _))
  (Qg (Qu Z7)) Qw)
  (Qg (Q3 9 A (Qn Qt {10} Qj)))))
  (Qg (Qu (Wz (U3 hu) {9} {5} (Qs _)))))) Qw)
  (Qc (Zc (PW.pt (Yy (Qo X7 (Qn Qt {6} Qj) Zo (Qs _)) (Yy (Qo X7 (Qn Qt {4} Qj) (Qn Qt {5} Qj) (Qs _)) (Xj (Qo X7 (Qp Zs rfl J.len Tp (Qa {4} Qe)) (Qp Zs rfl J.len Tp (Qa {5} Qe)) (Qs _))))))
  (Qg (Qu Z7)) Qw)
  (Qc (Zc (Qo X7 (Qp Zs rfl J.len Tp (Qa {8} Qe)) (Zy jQ (Qp Zs rfl J.len Tp (Qa {4} Qe)) Qj) (Qs _))
  (Qg (Qu Z7)) Qw)
  (Qc (Z9 To rfl (Vy rfl J.range (Qa (Qp Zs rfl J.len Tp (Qa {8} Qe)) Qe)) (Zv 11 A)
  (Qg (Zc (PW.pt (Yy (Qo (Os hu) (Qn Qt (Qn Q9 {8} {11}) Qj) (Qn Qt {4} (Zy jN {11} Qj)) (Qs _)) (Xj (Qo (Os hu) (Qn Qt (Qn Q9 {8} {11}) Qj) (Qn Qt {5} (Zy jN {11} Qj)) (Qs _)))))
  (Qg (Qu Z7)) Qw)))
  (Qg (Qu Z7)))))))))))))
 have aN:⇑l=⇑ls:=GJ D.pr;have aO:⇑us=⇑tl:=GJ aD;have aK:k<⇑ls:=(Gg.mp hk).1;have l9:=D.len;ac_nf;obtain⟨u,eu⟩:∃u,l[k]?/u:={_,Gf ∅};have(l',e',ac,B,E,rv,rfl,hc,t1,t2,ae,_):=Qy D.pr eu;intros;rw[hk]at e';cases e';have(gx,gy):=D.good _ (Gc hk);have az:∀{n:Nat}{h:Lt},(ls.take k)[n]?/h->n<k/\∃ac B E rv,l[n]?/↑ac/\X ac/.tup [B,E,rv]/\Z8 X B h.1/\Z8 X E h.2.1/\h.1.good/\h.2.1.good:=λ{n h}Y=>by have(g,f):=sj Y;obtain⟨u,eu⟩:∃u,l[n]?/u:={_,Gf ∅};have(l',e',ac,B,E,rv,rfl,hc,t1,t2,_):=Qy D.pr eu;rw[f]at e';cases e';exact{g,ac,B,E,rv,eu,hc,t1,t2,(D.good _ (Gc f)).1,(D.good _ (Gc f)).2}
 exists 00,S,l,301,Qi D.at_,Zi eu,ac,0,Qk hc,13030301;have L:(∃(wd:TQ)(c h:Ge)(b:List Nat),rv=.ref c/\X c/.tup [.str wd,↑h]/\X h/.lst (b.map jv)/\⇑b<=1000000/\(∀n∈b,∃h,(ls.take k)[n]?/h)/\(wd="chain"/\je (ls.take k) x b y\/wd="like"/\r=.like b))\/((∃n,r=.told n)\/r=.asked\/∃n,r=.turn n):=by
  cases r with
  |told n=>exact .inr (.inl ⟨n,Xb⟩)
  |asked=>exact .inr (.inr (.inl Xb))
  |turn n=>exact .inr (.inr (.inr ⟨n,Xb⟩))
  |chain b=>have(c,h,rfl,e,M,_,ao):=ae;exact .inl {_,c,h,b,1,e,M,ao,yn ok,.inl ⟨Xb,ok⟩}
  |like b=>have(c,h,rfl,e,M,_,ao):=ae;have(o1,o2,o3,o4):=(show x.word=y.word/\⇑x.parts=⇑y.parts/\⇑b=⇑x.parts/\_ from ok);refine .inl {_,c,h,b,1,e,M,ao,λn Z=>?_,.inr ⟨Xb,Xb⟩};have(j,hj):=Dh.mp Z;have f:=(Gg.mp hj).1;have(r,Y):=o4 j n _ _ hj (Gf ∅) (Gf ∅);exact{_,Y}
 rcases L with⟨wd,c,h,b,rfl,e,M,ao,lt,L⟩|L
 .have I:(wd=="told")=Gx:=by rcases L with⟨rfl,_⟩|⟨rfl,_⟩<;>decide+kernel
  have R:(wd=="asked")=Gx:=by rcases L with⟨rfl,_⟩|⟨rfl,_⟩<;>decide+kernel
  have w3:(wd=="turn")=Gx:=by rcases L with⟨rfl,_⟩|⟨rfl,_⟩<;>decide+kernel
  exists 0,c,201,Qk e,Yo,10;rw[Zp,I];refine Q6 ?_;exists 0,c,201,Qk e,Yo,10;rw[Zp,R];refine Q6 ?_;exists 0,c,201,Qk e,Yo,10;rw[Zp,w3];refine Q6 ?_;refine{0,c,201,Qk e,X8,32,Gk,1,.lst M,j9,Gk,1,Q6 ?_};let aI:Nat->St->Hp->Prop:=λi f W=>jK λ(x7:Option V)=>kU (f=[Ga ↑a,Ga ↑S,Ga (.int (k:Int)),Ga pq,Ga B,Ga E,Ga ↑c,x7,Gp,Gp,Gp,Gp]) (W=X)
  refine⟨_,Xb,c,_,_,_,Xb,Xb,Qk e,X8,h,Xb,{_,Qi M},Yv (K:=K) (a:=h) (xs:=b.map jv) aI
   {401} (λi f W _⟨_,_,m⟩=>Qi (by rw[m];exact M)) ?_ ?_⟩
  .rintro i u f W hi ⟨x7,rfl,rfl⟩;obtain⟨n,v,rfl⟩:∃n,n∈b/\jv n=u:=by
    rw[Ta]at hi;cases m:b[i]? with
    |none=>rw[m]at hi;cases hi
    |some n=>rw[m]at hi;exact{n,Gc m,T1 hi}
   have(ll,el):=lt n v;have Z:=(sj el).1;refine{02,Gk,Gx,1,.int _,Ij,Jq,Gk,1,Q6 ?_};exists 403010;rw[Tj (show¬((n:Int)<0) by ext)];refine Q6 ?_;exists 4003010;rw[Tj (show¬((n:Int)>=(k:Int)) by ext)];exact Q6 {401}
  rintro f W ⟨x7,rfl,rfl⟩;refine{0,c,201,Qk e,X8,h,1,{_,Qi M},λp hp=>?_};have sp:=Qf hp (.lst []);refine Ve (K:=K) (a:=h) (xs:=b.map jv) (small (by rw[Gq];ext)) (λi ys f G=>(∃x0,f=[x0,Ga ↑S])/\ys=rowsOf l (b.take i)/\G=zj W p (.lst ys)) {{40},11} (λi ys f G _⟨_,_,m⟩=>Qi (by rw[m];exact Qf hp _ _ _ M)) ?_ ?_
  .rintro i u ys f G hi aA ⟨⟨x0,rfl⟩,rfl,rfl⟩ T;obtain⟨n,v,rfl⟩:∃n,b[i]?/n/\jv n=u:=by
    rw[Ta]at hi;cases m:b[i]? with
    |none=>rw[m]at hi;cases hi
    |some n=>rw[m]at hi;exact{n,1,T1 hi}
   have(ll,el):=lt n (Gc v);have Z:=(sj el).1;refine{00,S,l,301,Qi (Qf hp _ _ _ D.at_),Zi (getD_at ∅),T,{40},?_,by rw[X9]};unfold rowsOf;rw[Tt,v,T3];rfl
  rintro ys f G aA ⟨_,rfl,rfl⟩ Q;rw[Gq,Tu]at Q aA⊢;have g:=Qf hp (.lst (rowsOf l b));generalize zj W p (.lst (rowsOf l b))=G at*;rcases L with⟨rfl,ok⟩|⟨rfl,rfl⟩
  .exists 0,c,201,Qk (g _ _ e),Yo,10;rw[Zp,Q77];refine Yw ?_;exists 40;let aB:Nat->St->Hp->Prop:=λi f H=>jc λ(U:V)(t:Th)(ab:Option V)=>ju (f=[Ga ↑a,Ga ↑S,Ga (.int (k:Int)),Ga pq,Ga B,Ga E,Ga ↑c,x7,Ga ↑p,Ga U,ab,Gp]) (H=G) (Z8 G U t) (t.good) (je (ls.take k) t (b.drop i) y)
   refine⟨_,Xb,p,Xb,{_,Qi Q},Yv (K:=K) (a:=p) (xs:=rowsOf l b) aB
    {B,x,01,t1.same g,gx,by rw[List.drop_zero];exact ok} (by rintro i f H _ ⟨_,_,_,_,m,_⟩;exact Qi (by rw[m];exact Q)) ?_ ?_⟩
   .rintro i u f H hi ⟨U,t,ab,rfl,rfl,th,tg,T⟩;ac_nf;obtain⟨n,v,ax⟩:∃n,b[i]?/n/\l.getD n .non=u:=by
     unfold rowsOf at hi;rw[Ta]at hi;cases m:b[i]? with
     |none=>rw[m]at hi;cases hi
     |some n=>rw[m]at hi;exact{n,1,T1 hi}
    have(ay,r3,e3,aw):=P5 ok v t T;have(Z,d,u1,u2,aE,ed,z,N,O,g3,g4):=az e3;intros;have:u=.ref d:=by rw[<-ax,DR,ed];rfl
    subst this;refine{0,d,201,Qk (g _ _ z),Yo,0,qC (N.same g) th tg {0,Q6 ?_}};exists 0,d,201,Qk (g _ _ z),X8;exact{u2,ay,01,O.same g,g4,aw}
   .rintro f H ⟨U,t,ab,rfl,rfl,th,tg,T⟩;rw[show ⇑(rowsOf l b)=⇑b from Gq _,List.drop_length]at T;have:t=y:=T;subst this;exact{00,qT th (t2.same g) tg (q _ g)}
  .obtain⟨o1,o2,o3,o4⟩:=(show x.word=y.word/\⇑x.parts=⇑y.parts/\⇑b=⇑x.parts/\_ from ok);exists 0,c,201,Qk (g _ _ e),Yo,10;rw[Zp,Q50];refine Q6 ?_;have(b1,I,T,ag,rfl,rfl,U,ap):=(t1.same g).inv;have(b2,R,aa,av,rfl,rfl,af,aq):=(t2.same g).inv;have o1:I=R:=o1;have o2:⇑ag=⇑av:=o2;have o3:⇑b=⇑ag:=o3;have au:=⇑ap;have aG:=⇑aq;exists 0,c,201,Qk (g _ _ e),Yo,10;rw[Zp,Pk];refine Q6 ?_;exists 0,b1,201,Qk U,Yo,0,b2,201,Qk af,Yo,10;rw[Tk (show V.str I=V.str R by rw[o1])];refine Q6 ?_;exists 030,.inr {_,Qk U,1},030,.inr {_,Qk af,1},10;rw[Tk (show V.int ((⇑(V.str I::T):Nat):Int)=V.int ((⇑(V.str R::aa):Nat):Int) by rw[TW,TW,au,aG,o2])];refine Q6 ?_;have aF:⇑(rowsOf l b)=⇑b:=Gq _;exists 030,.inl {_,Qi Q,1},030,.inr {_,Qk U,1},30110;rw[Tk (show V.int ((⇑(rowsOf l b):Nat):Int)=V.int (((⇑(V.str I::T):Nat):Int) - 1) by rw[TW,aF,au,o3];congr 1;ext)];refine Q6 ?_;let aH:Nat->St->Hp->Prop:=λj f H=>jK λ(ah:Option V)=>kU (f=[Ga ↑a,Ga ↑S,Ga (.int (k:Int)),Ga pq,Ga ↑b1,Ga ↑b2,Ga ↑c,x7,Ga ↑p,Gp,Gp,ah]) (H=G)
   refine⟨_,Xb,_,_,Xb,.inl {_,Qi Q,1},_,Xb,by ext,by ext,V0 (lo:=0) (n:=((⇑(rowsOf l b):Int)).toNat) aH
    {401} ?_ ?_⟩
   .rintro j f H hj ⟨ah,rfl,rfl⟩;have hj:j<⇑b:=by ext
    have v:b[j]?/b[j]:=Gf hj;ac_nf;obtain⟨p1,ai⟩:∃p1,ag[j]?/p1:={_,Gf ∅};obtain⟨p2,aj⟩:∃p2,av[j]?/p2:={_,Gf ∅};have(r3,e3):=o4 j _ p1 p2 v ai aj;have(Z,d,u1,u2,aE,ed,z,N,O,g3,g4):=az e3;obtain⟨z1,am⟩:∃C,T[j]?/C:={_,Gf ∅};obtain⟨z2,an⟩:∃C,aa[j]?/C:={_,Gf ∅};have(y1,ak,i1):=ap.get am;have(y2,al,i2):=aq.get an;intros;rw[ai]at ak;cases ak;rw[aj]at al;cases al;have er:(rowsOf l b)[j]?/↑d:=by unfold rowsOf;rw[Ta,v];show Ga (l.getD b[j] .non)=_;rw[DR,ed];rfl
    have ar:Rt (rowsOf l b) (0+(j:Int))/↑d:=by rw[EV];exact Zi er
    have a1:Rt (V.str I::T) (0+(j:Int)+1)/z1:=by rw[EV];exact Zi (xs:=V.str I::T) (j:=j+1) (by rw[La];exact am)
    have a2:Rt (V.str R::aa) (0+(j:Int)+1)/z2:=by rw[EV];exact Zi (xs:=V.str R::aa) (j:=j+1) (by rw[La];exact an)
    refine{00,p,201,Qi Q,ar,d,201,Qk (g _ _ z),Yo,00301,b1,201,Qk U,a1,qC (N.same g) i1 g3 {0,Q6 ?_}};refine{00,p,201,Qi Q,ar,d,201,Qk (g _ _ z),X8,00301,b2,201,Qk af,a2,qC (O.same g) i2 g4 {0,Q6 ?_}};exact{401}
   .rintro f H ⟨ah,rfl,rfl⟩;exact q _ g
 cases r with
 |told n=>have(c,rfl,e):=ae;have ok:tl[n]?/(Gk,x,y):=ok;have Z:=(Gg.mp ok).1;obtain⟨m,g⟩:∃m,us[n]?/m:={_,Gf ∅};have(p,f,d,u1,u2,rfl,z,N,O):=Qy aD g;rw[ok]at f;cases f;exists 0,c,201,Qk e,Yo,10;rw[Zp,Q3t];refine Yw ?_;exists 0,c,201,Qk e,X8;refine{02,Gk,Gx,1,.int _,Ij,Jq,Gk,1,Q6 ?_};exists 403010;rw[Tj (show¬((n:Int)<0) by ext)];refine Q6 ?_;exists 0030,.inl {_,Qi ha,1},3010;rw[Tj (show¬((n:Int)>=((⇑us:Nat):Int)) by ext)];refine Q6 ?_;refine{00,a,us,301,Qi ha,Zi g,00,Vb,λc3 ad=>?_};have o:=Qf ad (.tup [.str "same",B,E]);exact Q5h (uw Gk) (o _ _ z) Qb (N.same o) (O.same o) (t1.same o) (t2.same o) gx gy (q _ o)
 |asked=>have(c,rfl,e):=ae;have ok:pr/(x,y):=ok;subst ok;have(d,u1,u2,rfl,z,N,O,_,_):=aJ;exists 0,c,201,Qk e,Yo,10;rw[Zp,Q3p];refine Q6 ?_;exists 0,c,201,Qk e,Yo,10;rw[Zp,Q5g];refine Yw ?_;refine{000,Yz,λc3 ad=>?_};have o:=Qf ad (.tup [B,E]);exact uB (o _ _ z) Qb (N.same o) (O.same o) (t1.same o) (t2.same o) gx gy (q _ o)
 |turn n=>have(c,rfl,e):=ae;have(v,ok):=ok;have(Z,d,u1,u2,aE,ed,z,N,O,_,_):=az ok;exists 0,c,201,Qk e,Yo,10;rw[Zp,XJ];refine Q6 ?_;exists 0,c,201,Qk e,Yo,10;rw[Zp,Q1a];refine Q6 ?_;exists 0,c,201,Qk e,Yo,10;rw[Zp,KN];refine Yw ?_;exists 0,c,201,Qk e,X8;refine{02,Gk,Gx,1,.int _,Ij,Jq,Gk,1,Q6 ?_};exists 403010;rw[Tj (show¬((n:Int)<0) by ext)];refine Q6 ?_;exists 4003010;rw[Tj (show¬((n:Int)>=(k:Int)) by ext)];refine Q6 ?_;refine{00,S,l,301,Qi D.at_,Zi ed,0,d,0,Qk z,VP _ 2 (by show 2<3;decide),λm g=>?_};have s4:=Qf g (.tup [u1,u2]);refine{00,Yz,λc3 ad=>?_};have o:=Qf ad (.tup [E,B]);have f:=s4.trans o;exact uB (o _ _ Qb) Qb (N.same f) (O.same f) (t2.same f) (t1.same f) gy gx (q _ f)
 |chain b=>rcases L with⟨_,C⟩|C|⟨_,C⟩<;>cases C
 |like b=>rcases L with⟨_,C⟩|C|⟨_,C⟩<;>cases C
theorem Rc.KP{X:Ge->Prop}{v:V}{r:Lr}(h:Rc H X v r):∃e d Wa,v=.ref e/\H e/.tup (.str d::Wa)/\((⇑(V.str d::Wa):Nat):Int)=2 - (if decide (V.str d=V.str "asked")=Gk then 1 else 0):=by
 cases r with
 |told=>have(c,a,b):=h;exact{c,2,a,b,by rw[Zp,show(("told":TQ)=="asked")=Gx by decide+kernel];rfl}
 |asked=>have(c,a,b):=h;exact{c,2,a,b,by rw[Zp,show(("asked":TQ)=="asked")=Gk by decide+kernel];rfl}
 |turn=>have(c,a,b):=h;exact{c,2,a,b,by rw[Zp,show(("turn":TQ)=="asked")=Gx by decide+kernel];rfl}
 |chain=>have(c,l,a,b,_):=h;exact{c,2,a,b,by rw[Zp,show(("chain":TQ)=="asked")=Gx by decide+kernel];rfl}
 |like=>have(c,l,a,b,_):=h;exact{c,2,a,b,by rw[Zp,show(("like":TQ)=="asked")=Gx by decide+kernel];rfl}
noncomputable def lrD:Lr->DN
 |.told n=>.tuple [.str "told",.int n]
 |.asked=>.tuple [.str "asked"]
 |.turn n=>.tuple [.str "turn",.int n]
 |.chain a=>.tuple [.str "chain",.list ((a.map λn:Nat=>(n:Int)).map Eu)]
 |.like a=>.tuple [.str "like",.list ((a.map λn:Nat=>(n:Int)).map Eu)]
theorem Qv2(a:List Nat):a.map jv=(a.map λn:Nat=>(n:Int)).map V.int:=by rw[Ds];rfl
theorem VJ{X:Ge->Prop}{v:V}{r:Lr}(h:Rc H X v r):Dt H v (lrD r):=by
 cases r with
 |asked=>have(c,a,b):=h;subst a;exact .tup b (.cons (.str _) .nil)
 |told|turn=>have(c,a,b):=h;subst a;exact .tup b (.cons (.str _) (.cons (.int _) .nil))
 |_=>have(c,l,a,b,d,_):=h;subst a;exact .tup b (.cons (.str _) (.cons (.lst d (by rw[Qv2];exact Ue _)) .nil))
theorem OJ:∀r:Lr,(lrD r).canLay0=Gk
 |.told n=>by simp[lrD,TJ,Gz];decide+kernel
 |.asked=>by simp[lrD,TJ,Gz];decide+kernel
 |.turn n=>by simp[lrD,TJ,Gz];decide+kernel
 |.chain b=>by
  have h:=Uc (b.map λn:Nat=>(n:Int));have a:DK ("chain":TQ)=Gk:=by decide+kernel
  simp only[lrD,TJ,Gz,h,a,Lw,LX]
 |.like b=>by
  have h:=Uc (b.map λn:Nat=>(n:Int));have a:DK ("like":TQ)=Gk:=by decide+kernel
  simp only[lrD,TJ,Gz,h,a,Lw,LX]
noncomputable def ltD(l:Lt):DN:=.tuple [l.1.toD,l.2.1.toD,lrD l.2.2]
theorem jw.dts{L:Ge}{d:List V}{b:List Lt}(h:jw H L d b):hF H d (b.map ltD)/\Gz (b.map ltD)=Gk:=by
 have o:=h.pr;have a:=h.good;clear h;induction o with
 |nil=>exact{.nil,1}
 |@cons v l w b h r n=>have(k,m):=n λl i=>a l (Gr _ i);have(c,t,u,s,rfl,g,p,q,j,_):=h;have(e,f):=a l G8;exists .cons (.tup g (.cons p.dt (.cons q.dt (.cons (VJ j) .nil)))) k;rw[TC];simp only[Gz,ltD,TJ,Wj _ e.1,Wj _ f.1,OJ,m,Lw,LX]
inductive v5(vs:List V)(H:Hp)(Q:VK):Prop
 |mk (a:Ge) (L:Ge) (us:List V) (lv:List V) (o1:V) (o2:V) (pq:V) (tl:Tl) (pr:Option (Th×Th)) (ls:List Lt) (x:Th) (y:Th) (r:Lr) (h0:vs=[↑a,↑L,o1,o2,pq]) (h1:H a/.lst us) (h2:J0 H us tl) (h3:iy tl) (h4:⇑tl<=1000) (h5:jw H L lv ls) (h6:kg tl pr ls) (h7:lZ H pq pr) (h8:Z8 H o1 x) (h9:Z8 H o2 y) (h10:ls.getLast?/(x,y,r)) (h11:∀H':Hp,Q5 H H'->Q (.bl Gk) H'):v5 vs H Q
def tz:Sp:=λa H Q _=>v5 a H Q
theorem Am:Q4 ["_law_told","_law_lines","_law_one","_law_other","_law_pair","_law_k","_law_line"] ["_law_told","_law_lines","_law_one","_law_other","_law_pair"] (Qm jh):=by eq_refl
theorem SZ{aa C B:Ge}{fd dT dF:Du}(F:Wc K "_law_lines_show" "_law_lines_show" jh aa fd)(a:hJ mg)
  (Y:Qz P w K mg base Z4 1 C dT ["_law_found"] AO)(kT:KI K C)(Z:zk K dT ["_law_found"] [])(mT:MG mg "_law_is_thing" C)
  (GF:Qz P w K mg base Z4 2 B dF ["_law_told","_law_lines","_law_k","_law_pair"] uN)(kF:KI K B)(bF:zk K dF ["_law_told","_law_lines","_law_k","_law_pair"] [])(mF:MG mg "_law_line_follows" B):
  Qz P w K mg base Z4 3 aa fd ["_law_told","_law_lines","_law_one","_law_other","_law_pair"] tz:=by
 refine F.ok Am (λr v p o G=>?_) (λO N S s v r p o I G=>?_)
 .obtain⟨A,h,us,e,o1,o2,L,tl,pr,c,x,y,M,rfl,_⟩:=G;rfl
 have(A,h,us,e,o1,o2,L,tl,pr,c,x,y,M,rfl,ha,aj,ai,af,b,hg,ag,hx,hy,H,q):=G;have nd:=Am.nd;have J:=I.units;have ac:Yd 1 _:=I.mono ∅;show∃t,Wf ?my _ t/\_;let an:Vr ?my jh 2:={_,Qg (Qu (qw (Wz (U3 J) (Qn Qt (Qn Q9 {1} (Jo Vl Qj)) Qj) {2} (Qs _)) (nU (Wz (U3 J) (Qn Qt (Qn Q9 {1} (Jo Vl Qj)) Qj) {3} (Qs _)))))}
 let ao:Subtype (Wf ?my (sub [1,0,4] (Zd jh))):={_,Qc (Zc (Qo X7 (Qp Zs rfl a.len Tp (Qa (Qn Qt {6} Qj) Qe)) (Zy jQ Qj (Yq Qsk rfl a.int Fs (Qa (Wz Xy (Qn Qt (Qn Qt {6} Qj) Qj) Zo (Qs _)) Qe))) (Qs _)) (Qg (Qu Z7)) Qw) (Qg (Zc (Yi (Z2 (Ze GF I rfl mF kF bF .nil Q7 (Qa {0} (Qa {1} (Qa {5} (Qa {4} Qe))))))) (Qg (Qu Z7)) Qw))}
 let ap:Subtype (Wf ?my (sub [1,0,3] (Zd jh))):={_,Qc (Zc (Yi (Z2 (Qp Zu rfl a.isinstance GX (Qa (Qn Qt (Qn Qt {6} Qj) Qj) (Qa (Ya (v:=.ty "str") rfl a.str EI Xb) Qe))))) (Qg (Qu Z7)) Qw) ao.2}
 let aq:Subtype (Wf ?my (sub [1,0,2] (Zd jh))):={_,Qc (Zc (PW.pt (Yy (Yi (Z2 (Ze Y ac rfl mT kT Z .nil Q7 (Qa (Qn Qt {6} Qj) Qe)))) (Yy (Yi (Z2 (Ze Y ac rfl mT kT Z .nil Q7 (Qa (Qn Qt {6} Qj) Qe)))) (Xj (Qo Xy (Qp Zs rfl a.len Tp (Qa (Qn Qt {6} Qj) Qe)) Qj (Qs _)))))) (Qg (Qu Z7)) Qw) ap.2}
 let ar:Subtype (Wf ?my (sub [1,0,1] (Zd jh))):={_,Qc (Zc (PW.pt (Yy (Yi (Z2 (Qp Zu rfl a.isinstance GX (Qa {6} (Qa (Ya (v:=.ty "tuple") rfl a.tuple Di Xb) Qe))))) (Yy (Qo X7 (Qp Zs rfl a.len Tp (Qa {6} Qe)) Qj (Qs _)) (Xj (Yi (Z2 (Qp Zu rfl a.isinstance GX (Qa (Qn Qt {6} Qj) (Qa (Ya (v:=.ty "tuple") rfl a.tuple Di Xb) Qe))))))))) (Qg (Qu Z7)) Qw) aq.2}
 let au:Vr ?my jh 1:={_,Qc (Z9 To rfl (Vy rfl a.range (Qa (Qp Zs rfl a.len Tp (Qa {1} Qe)) Qe)) (Zv 5 nd) (Qc (Q3 6 nd (Qn Q9 {1} {5})) ar.2)) an.2}
 exists _,Qc (Zc (PW.pt (Yy (Yi (Z2 (Qp Zu rfl a.isinstance GX (Qa {1} (Qa (Ya (v:=.ty "list") rfl a.list TY Xb) Qe))))) (Xj (Qo (U3 J) {1} (Zz Qe) (Qs _))))) (Qg (Qu Z7)) Qw) au.2;have am:⇑e=⇑c:=GJ b.pr;have l9:=b.len;have ab:c≠[]:=λl=>by rw[l]at H;cases H
 have aw:0<⇑c:=LN.mpr ab;have(av,ak):=b.dts;refine{032,Gk,1,.lst b.at_,j9,Gk,1,Q6 ?_};refine{0,Tw _,λl hz=>?_};have n:=Qf hz (.lst []);exists .list (c.map ltD),.list [],.lst (n _ _ b.at_) (b.same n).dts.1,.lst Qb .nil,by simp only[TJ];exact ak,by simp[TJ,Gz],?_,_,Xb
 .simp only[DV,Db];ext
 have ev:T5 (.list (c.map ltD)) (.list [])=Gx:=by
  simp only[T5];rw[Je];cases c with
  |nil=>exact absurd rfl ab
  |cons t M=>simp
 rw[ev];refine Q6 ?_;generalize zj v l (.lst [])=H1 at n;refine⟨_,Xb,_,_,Xb,.inl {_,Qi (n _ _ b.at_),1},_,Xb,by ext,by ext,V0 (lo:=0) (n:=((⇑e:Int)).toNat) (λi X z=>∃T U:Option V,X=[Ga ↑A,Ga ↑h,Ga o1,Ga o2,Ga L,T,U]/\Q5 v z)
  {30,n} ?_ ?_⟩
 .rintro i X z hi ⟨T,U,rfl,g⟩;have hi:i<⇑c:=by ext
  have k:=b.same g;ac_nf;obtain⟨u,m⟩:∃u,e[i]?/u:={_,Gf ∅};have((S,W,r'),j,d,v1,v2,rv,rfl,f,Q,R,ae,_):=Qy k.pr m;have(D,E):=b.good _ (Gc j);have(rc,wd,Wa,rfl,ad,ah):=ae.KP;intros;exists 00,h,e,301,Qi k.at_,(by rw[EV];exact Zi m);refine{032,Gk,1,.tup f,kj,Gk,1,Q6 ?_};exists 030,.inr {_,Qk f,1},10;rw[Tk (by rfl)];refine Q6 ?_;refine{0,d,201,Qk f,jf,32,Gk,1,.tup ad,kj,Gk,1,Q6 ?_};refine{0,d,201,Qk f,Yo,v1,S,1,Q,D,λH3 N=>{Gk,1,Q6 ?_}};refine{0,d,201,Qk (N _ _ f),X8,v2,W,1,R.same N,E,λH4 s4=>{Gk,1,Q6 ?_}};have O:=N.trans s4;have p:=O _ _ f;have r:=O _ _ ad;exists 0,d,201,Qk p,jf,30,.inr {_,Qk r,1},10;rw[Tj (show¬V.int ((⇑(V.str wd::Wa):Nat):Int)=V.int 0 by rw[TW];intro l;injection l with l;ext)];refine Q6 ?_;refine{0,d,201,Qk p,jf,rc,201,Qk r,Yo,32,Gk,1,.str _,Rz,Gk,1,Q6 ?_};refine{0,d,201,Qk p,jf,30,.inr {_,Qk r,1},0,d,201,Qk p,jf,rc,201,Qk r,Yo,1,.inr {030110,?_}};rw[Tk (by rw[ah])];refine Q6 ?_;have o:=g.trans O;refine{0000,A,h,us,e,L,tl,pr,c,i,S,W,r',(by rw[EV];rfl),o _ _ ha,aj.Qv (Q8.of o),ai,af,b.same o,ag.same o,j,hg i S W r' j,λH5 s5=>{Gk,1,Q6 ?_}};exact{30,o.trans s5}
 .rintro X z ⟨T,U,rfl,g⟩;have k:=b.same g;have j:c[⇑c - 1]?/(x,y,M):=by rw[<-List.getLast?_eq_getElem?];exact H
  ac_nf;obtain⟨u,m⟩:∃u,e[⇑c - 1]?/u:={_,Gf ∅};have(r,p,d,v1,v2,rv,rfl,f,Q,R,ae,_):=Qy k.pr m;intros;rw[j]at p;cases p;have(D,E):=b.good _ (Gc j);have o:Rt e (-1)/↑d:=xw (by rw[am];exact m);refine{00,h,e,301,Qi k.at_,o,d,201,Qk f,Yo,0,qT Q (hx.same g) D {Gk,1,Yw ?_}};exact{00,h,e,301,Qi k.at_,o,d,201,Qk f,X8,0,qT R (hy.same g) E (q _ g)}
end
end K04
namespace L2
open PySem PySem.Spec PyProof.Rows
inductive A7(P:Gn)(w:Ti)(x:V)(vs:List V)(H:Hp)(Q:VK):Prop
 |mk (d:_) (b:_) (dv:_) (zw:_) (k:_) (h0:x=↑d) (h1:vs=[↑b,dv]) (h2:DH P w H d zw) (h3:iw H b k) (h4:Q ((Yp zw k).getD dv) H):A7 P w x vs H Q
def zN(P:Gn)(w:Ti):V->List V->Hp->VK->Prop:=λx a H Q=>A7 P w x a H Q
theorem tR{X:Cx}(a:X.A.units+64<E3):i4 X "dict.get" (zN X.prog X.w):=by
 intro i s C H x B v A Q I t r h;have(d,b,j,c,k,rfl,rfl,D,m,q):=h;cases(show v=Tq d from t);have(u,w,rfl,n,o):=vals2 r;cases(show u=Tq b from n);have(z,l,f,e,g):=kI I D.at_ D.keys;refine Nj F.slot_dict_get g.typeIs F.entry_dict_get (F.args_dict_get_3 _ _ _) (meetsH_dict_get_default (V6 X.prog X.w) d b l w) {by first|(show X.A.units+1+10<E3;ext)|(show X.A.units+1+1+10<E3;ext),k,f,m.is I,g,?_};have a:=e.val k;cases q1:Yp c k with
 |some y=>
  rw[q1]at a q;cases q2:atKey f k with
  |none=>rw[q2]at a;exact(show False from a).elim
  |some p=>rw[q2]at a;exact{y,H,I.tok _,a,q}
 |none=>
  rw[q1]at a q;cases q2:atKey f k with
  |some p=>rw[q2]at a;exact(show False from a).elim
  |none=>exact{j,H,I.tok _,o,q}
end L2
namespace K04
open PySem L2 Sb
variable{H H':Hp}{rs:List Row}{P:Gn}{w:Ti}{d f:Ge}{n:Nat}{fd:Du}{v:V}{r:Row}
structure iN(H:Hp)(R:Ge)(es:List V)(rs:List Row):Prop where
 at_:H R/.lst es
 pr:Dm (Jc H i8) es rs
 len:⇑rs<=100000
 ok:∀r∈rs,DK r.1=Gk
 few:∀r∈rs,⇑r.2.1<=1000
 nd:(rs.map λr=>(r.1,r.2.1)).Nodup
theorem iN.same(e:Q5 H H'){R:Ge}{a:List V}(h:iN H R a rs):iN H' R a rs:=
 {e _ _ h.at_,Qr h.pr λ_ _ h=>h.kp (λh=>e _ _ h) (λh _=>e _ _ h),h.len,h.ok,h.few,h.nd}
structure mo(S:List Th)(L:Th->Nat)(rs:List Row):Prop where
 cl:∀t∈S,∀p∈t.parts,p∈S
 good:∀t∈S,t.good
 mem:∀t∈S,(t.word,t.parts.map L,L t)∈rs
inductive wX(vs:List V)(H:Hp)(Q:VK):Prop
 |mk (R:Ge) (v:V) (es:List V) (rs:List Row) (S:List Th) (L:Th->Nat) (t:Th) (h0:vs=[↑R,v]) (h1:iN H R es rs) (h2:mo S L rs) (h3:t∈S) (h4:Z8 H v t) (h5:∀H':Hp,Q5 H H'->Q (jv (L t)) H'):wX vs H Q
def yC:Sp:=λa H Q _=>wX a H Q
inductive jt(P:Gn)(w:Ti)(H:Hp)(d:Ge)(n:Nat)(S:Th->Prop)(L:Th->Nat):Prop
 |mk (zw:List KE) (h0:⇑zw<=n) (h1:H d/Ut P w d zw) (h2:Jd H zw) (h3:∀t,S t->Yp zw (kd t)/jv (L t)):jt P w H d n S L
theorem jt.same(e:Q5 H H'){S:Th->Prop}{L:Th->Nat}(h:jt P w H d n S L):jt P w H' d n S L:=by have(a,b,c,f,g):=h;exact{a,b,e _ _ c,Zf (Q8.of e) f,g}
theorem jt.set{b:Ge}{S:Th->Prop}{L:Th->Nat}{t:Th}{Q:Hp->Prop}(N:jt P w H d n S L)(c:n<=1000000)(ok:t.ok=Gk)(j:t.depth<=8)(h:Z8 H ↑b t)
  (q:∀c,(∀e o,H e/o->e≠d->c e/o)->jt P w c d (n+1) (λu=>S u\/u=t) L->Q c):nZ P w ↑d ↑b (jv (L t)) H Q:=by
 have(a,c,f,g,k):=N;have i:=O0 h ok j;refine{d,b,kd t,a,11,⟨f,g⟩,i,by rw[TD];ext,q _ (λe o h c=>by rw[Qh c];exact h) ?_};have m:Q8 H (zj H d (Ut P w d (Vg a (kd t) b (jv (L t))))):=Z1 λp e=>by rw[f]at e;cases e
 refine{_,Dj (Rg _ _ _ _) ∅,Qb,Zf m (g.put i),λu l=>?_};rw[U7];by_cases e:u=t
 .subst e;exact GY rfl
 .rw[Gu (λz=>e (lr z))];exact k u (l.resolve_right e)
theorem Q1b{w:TQ}{ns:List Nat}(nd:(rs.map λr=>(r.1,r.2.1)).Nodup)(h:(w,ns,n)∈rs):(rs.filter λr=>decide (r.1=w)).filter (λr=>decide (r.2.1=ns))=[(w,ns,n)]:=by
 induction rs with
 |nil=>cases h
 |cons r rs a=>
  rw[TC,Dw]at nd;have(c,d):=nd;rcases Td.mp h with z|z
  .subst z;have Gp:(rs.filter λr=>decide (r.1=w)).filter (λr=>decide (r.2.1=ns))=[]:=by rw[List.filter_filter,List.filter_eq_nil_iff];intro r b e;simp only[Df,decide_eq_true_eq]at e;exact c (Tv.mpr {r,b,by rw[<-e.1,<-e.2]})
   rw[Sc ⋯,Sc ⋯,Gp]
  .have a:=a d z;by_cases e:r.1=w
   .rw[Sc (by simp[e])];rw[Lb,a];intro b;have b:r.2.1=ns:=Dp b;exact c (Tv.mpr {(w,ns,n),z,by rw[<-e,<-b]})
   .rw[Lb (by simp[e])];exact a
theorem Q6l:(["_law_inner","_law_values"]:List TQ).Nodup:=by decide+kernel
theorem WR:(["_law_row","_law_part"]:List TQ).Nodup:=by decide+kernel
theorem XY:(["_law_row","_law_numbers"]:List TQ).Nodup:=by decide+kernel
theorem Od(a:List Nat):a.map jv=(a.map λn:Nat=>(n:Int)).map V.int:=by rw[Ds];rfl
theorem tF{a b:List Nat}:(a.map λn:Nat=>(n:Int))=(b.map λn:Nat=>(n:Int))↔a=b:=by
 constructor
 .intro h;have back:∀l:List Nat,(l.map λn:Nat=>(n:Int)).map DZ=l:=λl=>by rw[Ds];exact(De (λn _=>EE n)).trans (FH l)
  rw[<-back a,h,back b]
 .rintro rfl;rfl
section
variable{P:Gn}{w:Ti}{K:Gd}{mg:TQ->Option Gh}{base:Heap}
theorem uH:Q4 ["_law_rows","_law_thing","_law_order","_law_todo","_law_part","_law_values","_law_numbers","_law_near","_law_found"] ["_law_rows","_law_thing"] (Qm V3):=by eq_refl
theorem YD(F:Wc K "_law_number_in" "_law_number_in" V3 f fd)(aD:hJ mg):Qz P w K mg base Z4 1 f fd ["_law_rows","_law_thing"] yC:=by
 refine F.ok uH (λvs Q bd bc v=>?_) (λbz bx bB s Q vs bd bc hr v=>?_)
 .obtain⟨R,aj,es,I,S,z,t,rfl,_⟩:=v;rfl
 have(R,aj,es,I,S,z,t,rfl,hR,W,tS,hv,q):=v;have U:=uH.nd;have H:=hr.units;have gt:=W.good t tS;have bC:=gt.2.2;have be:⇑es=⇑I:=GJ hR.pr;have bA:=hR.len;show∃t,Wf ?my _ t/\_;let bg:Subtype (Wf ?my (sub [4,0,3] (Zd V3))):={_,Qg (Zc (PW.pt (U6 (Qo Xy (Qp Zs rfl aD.len Tp (Qa {8} Qe)) Qj (Qs _)) (Ua (Qo (WB H) (Jo Vl Qj) {6} rfl)))) (Qg (Il (Qn Q9 {8} Qj) (Oy {5} {4} (O8 H)))) Qw)}
 let bh:Subtype (Wf ?my (sub [4,0,2] (Zd V3))):=⟨_,Qc (V8 (i:=8) (own:=["_law_row"]) (fv:=[(6,"_law_numbers")]) U rfl rfl rfl (S:=(by eq_refl:Xm (Qm V3) _)) (.cons rfl (DG Xb) rfl .nil) (Z6 {7})
   (λ_ _ _ _ _=>Z5 (i:=0) XY rfl (DG Xb) (Ez Xb)) (λ_ _ _ _ _=>oU (Qo (U3 H) (Qn (r:=jx K) Qt {0} Qj) {1} (Qs _))) (λ_ _ _ _ _=>(Qn (r:=jx K) Qt {0} Qj))) bg.2⟩
 let bi:Subtype (Wf ?my (sub [4,0,1] (Zd V3))):=⟨_,Qc (V8 (i:=7) (own:=["_law_row"]) (fv:=[(4,"_law_part")]) U rfl rfl rfl (S:=(by eq_refl:Xm (Qm V3) _)) (.cons rfl (DG Xb) rfl .nil) (Z6 {0})
   (λ_ _ _ _ _=>Z5 (i:=0) WR rfl (DG Xb) (Ez Xb)) (λ_ _ _ _ _=>oU (Qo Xy (Qn (r:=jx K) Qt {0} Qj) (Qn (r:=jx K) Qt {1} Qj) (Qs _))) (λ_ _ _ _ _=>{0})) bh.2⟩
 let bj:Subtype (Wf ?my (sub [4,0] (Zd V3))):=⟨_,Qc (W8 (i:=6) U rfl (Ez Xb) (Wm (te:=xq P w (zN P w) (Vi 1) (jb (Vi 0) (jb (tUn (rU λi=>.int (-i)) (tC (.int 1))) jB))) (own:=["_law_inner"]) (fv:=[(5,"_law_values")]) rfl (S:=(by eq_refl:Xm (Qm V3) _)) (.cons rfl (DG Xb) rfl .nil) (Ui (Yg Um {4} (Yn Qj) Xl))
   (λ_ _ _ _ _=>Z5 (i:=0) Q6l rfl (DG Xb) (Ez Xb)) (λ_ _ _ _ _=>Xk) (λ_ _ _ _ _=>(qx Nz NA (tR H) {1} (Qa {0} (Qa (Jo Vl Qj) Qe)))))) bi.2⟩
 let bk:Vr ?my V3 4:={_,Qc (Z9 To rfl (xP rfl aD.reversed (Qa {2} Qe)) (Z5 (i:=4) U rfl (Ez Xb)) bj.2) (Qg (Qu (qx Nz NA (tR H) {5} (Qa {1} (Qa (Jo Vl Qj) Qe)))))}
 let bl:Subtype (Wf ?my (sub [2,0,1] (Zd V3))):={_,Qc (Zl (Xx Te Tx TB Z0 {2} (Qa {4} Qe))) (Qg (Q3 3 U (Zy Jg {3} (Yq Xv rfl aD.list TY (Qa (Yg Um {4} (Yn Qj) Xl) Qe)))))}
 let bm:Vr ?my V3 2:={_,Qc (Ww To (Qo (Os H) {3} (Zz Qe) (Qs _)) (Qc (W8 (i:=4) U rfl (Ez Xb) (O2 Te EG EH Oz {3})) bl.2)) (Qc (W8 (i:=5) U rfl (Ez Xb) Ju) bk.2)}
 exists _,Qc (Q3 2 U (Zz Qe)) (Qc (Q3 3 U (Zz (Qa {1} Qe))) bm.2);refine{Tw _,λA ho=>?_};have s2:=Qf ho (.lst []);refine{0,Uu,λm hl=>?_};have s3:=Qf hl (.lst [aj]);have aC:=s2.trans s3;have am:A≠m:=Qd Qb hl;have aN:Q m=Gp:=s2.free hl;exists λaP o J=>jk λ(m:Ge)(ov xs:List V)(e l:List Th)(x4:Option V)=>lG (o=[Ga ↑R,Ga aj,Ga ↑A,Ga ↑m,x4,Gp,Gp,Gp,Gp]) (Q5 Q J) (Q m=Gp) (A≠m) (J A/.lst ov) (J m/.lst xs) (Zq J ov e) (Zq J xs l) (∀u∈e,u∈S) (∀u∈l,u∈S) (t∈e\/t∈l) (∀(i:Nat)w a,e[i]?/Th.mk w a->∀p∈a,(∃j:Nat,i<j/\e[j]?/p)\/p∈l) (aP=Za l) (⇑e+Za l<=1000),
  {_,m,[],[aj],[],[t],Gp,1,aC,aN,am,s3 _ _ Qb,Qb,.nil,.one (hv.same aC),(λu H=>nomatch H),λu H=>by rw[Tf]at H;subst H;exact tS,.inr G8,λi w a b=>by simp at b,1,by simp[Za];ext}
 clear s3 aC am aN hl;rintro aP o J ⟨m,ov,xs,e,l,x4,rfl,sm,hl,am,go,gl,aO,aT,fO,fT,aQ,Xs,rfl,sz⟩;have lx:=⇑aT;have lo:=⇑aO;have lT:=Zn l;refine{0,Tw _,λc hz=>?_};have s4:=Qf hz (.lst []);exists .list (Wd l),.list [],.lst (s4 _ _ gl) (aT.same s4).dts,.lst Qb .nil,by simp only[TJ];exact lF l (by rw[Ux,E2];exactλu H=>(W.good u (fT u H)).1),by simp[TJ,Gz],?_,_,Xb
 .simp only[DV,Db];ext
 have ev:T5 (.list (Wd l)) (.list [])=l.isEmpty:=by
  simp only[T5];rw[Je];cases l with
  |nil=>simp[Wd]
  |cons t r=>simp[Wd]
 rw[ev];rcases Sx l with rfl|⟨Tr,u,eT⟩
 .refine Q6 ?_;have tO:t∈e:=aQ.resolve_right ⋯;have Xs:∀(i:Nat)w a,e[i]?/Th.mk w a->∀p∈a,∃j:Nat,i<j/\e[j]?/p:=λi w a b p L=>(Xs i w a b p L).resolve_right ⋯;have ah:=sm.trans s4;have ay:=s4 _ _ go;have aK:=aO.same s4;generalize zj J c (.lst [])=H3 at ah ay aK⊢;intro d hd;have s5:=Qf hd (Ut P w d []);have aM:Q d=Gp:=ah.free hd;have aL:=s5 _ _ ay;have a9:=aK.same s5;have ba:A≠d:=Qd ay hd;have bw:⇑e<=1000:=by ext
  let bb:Nat->St->Hp->Prop:=λk o B=>iE λ(x4 x6 x7 x8:Option V)=>j8 (o=[Ga ↑R,Ga aj,Ga ↑A,Ga ↑m,x4,Ga ↑d,x6,x7,x8]) (Rb d (zj H3 d (Ut P w d [])) B) (jt P w B d k (λu=>u∈e.reverse.take k) z)
  refine⟨_,Xb,A,ov,Xb,Qi aL,za (K:=K) (a:=A) (xs:=ov) bb
   {320,Rb.refl,[],Gy _,Qb,(λp L=>nomatch L),by simp} (by rintro k o B _ ⟨_,_,_,_,_,T,_⟩;exact Qi (T _ _ aL ba)) ?_ ?_⟩
  .rintro k x o B hk ⟨x4,x6,x7,x8,rfl,T,N5⟩;have a1:k<ov.length:=by have:=(Gg.mp hk).1;simpa using this
   have hx:∃u,e.reverse[k]?/u/\Z8 (zj H3 d (Ut P w d [])) x u:=by rw[EY a1]at hk;have(u,e1,e2):=a9.get hk;refine{u,?_,e2};rw[EY ∅,<-lo];exact e1
   ac_nf;have(u,eu,hx):=hx;have tu:Q8 (zj H3 d (Ut P w d [])) B:=T.Qv Qb (λxs c=>by cases c);have aH:=hx.Qv tu;have fu:=fO u (S8.mp (Gc eu));have(ag,h,us,a,rfl,rfl,hb,an):=aH.inv;intros;have aZ:∀p∈a,p∈S:=W.cl _ fu;have gu:=W.good _ fu;have a7:∀p∈a,p∈e.reverse.take k:=λp L=>by
    have e1:e[⇑e - 1 - k]?/Th.mk h a:=by rw[EY ∅]at eu;exact eu
    have(j,hj,ej):=Xs _ _ _ e1 p L;have aY:j<⇑e:=(Gg.mp ej).1;have e2:e.reverse[⇑e - 1 - j]?/p:=by rw[EY ∅];rw[show ⇑e - 1 - (⇑e - 1 - j)=j by ext];exact ej
    have D:(e.reverse.take k)[⇑e - 1 - j]?/p:=by rw[Dx ∅];exact e2
    exact Gc D
   have bf:⇑a<=3000:=by have M:=Zn a;have N:=gu.2.2;simp only[Th.size]at N;ext
   have a4:=⇑an;refine{00,ag,0,Qk hb,Wr _ _,λr hr=>?_};rw[iG];have s6:=Qf hr (.tup us);refine{r,1,{_,Qk Qb},λp L=>?_};refine Ja (K:=K) (a:=r) (xs:=us) (small ∅) (λi g o E=>(∃O,o=[O,Ga ↑d])/\g=((a.take i).map z).map jv/\E=zj (zj B r (.tup us)) p (.lst g)) {{40},by simp,1} (by rintro i g o E _ ⟨_,_,b⟩;exact Qk (by rw[b];exact Qf L _ _ _ Qb)) ?_ ?_
   .rintro i y g o E hi a3 ⟨⟨O,rfl⟩,rfl,rfl⟩ aw;ac_nf;have(D,aa,hy):=an.get hi;have(b',_,_,_,rfl,_,_,_):=hy.inv;have s7:=s6.trans (Qf L (.lst (((a.take i).map z).map jv)));have(ab,h0,M,N,h3):=N5.same s7;intros;have af:=W.good D (aZ D (Gc aa));exists 0,⟨d,ab,Xb,M⟩,00,d,b',_,ab,kd D,11,⟨M,N⟩,O0 (hy.same s7) af.1 af.2.1;rw[h3 D (a7 D (Gc aa))];refine{aw,{40},?_,by rw[X9]};rw[Tt,aa];simp
   rintro g o E a3 ⟨_,rfl,rfl⟩ aF;rw[a4,Tu]at aF⊢;have ak:=s6.trans (Qf L (.lst ((a.map z).map jv)));generalize zj (zj B r (.tup us)) p (.lst ((a.map z).map jv))=E at*;have a8:Q5 Q E:=λG o' v=>ak _ _ (T _ _ ((ah.trans s5) _ _ v) (Qd v aM));have aq:=hR.same a8;have aE:=ak _ _ hb;have N6:=N5.same ak;have bu:(⇑es<=100000):=by ext
   refine{0,R,1,{_,Qi aq.at_},λp2 au=>?_};refine Rl (K:=K) (a:=R) (xs:=es) (small ∅) (λi g o X=>(∃O,o=[O,Ga ↑ag])/\Dm (Jc E i8) g ((I.take i).filter λr=>decide (r.1=h))/\X=zj E p2 (.lst g)) {{40},by simp;exact .nil,1} (by rintro i g o X _ ⟨_,_,b⟩;exact Qi (by rw[b];exact Qf au _ _ _ aq.at_)) ?_ ?_
   .rintro i y g o X hi ⟨⟨O,rfl⟩,py,rfl⟩ ae;ac_nf;have(C,er,G,l',rfl,hc,ar,_):=Qy aq.pr hi;intros;have Y:=Qf au (.lst g);exists 0,G,201,Qk (Y _ _ hc),Yo,0,ag,201,Qk (Y _ _ aE),Yo,10;have et:I.take (i+1)=I.take i++[C]:=by rw[Tt,er];rfl
    by_cases b:C.1=h
    .rw[Tk (show V.str C.1=V.str h by rw[b])];refine Yw {0,ae,{40},?_,by rw[X9]};rw[et,Lm,Sc (by simp[b])];exact Yx py (.cons ⟨G,l',Xb,hc,ar,id⟩ .nil)
    .rw[Tj (show¬V.str C.1=V.str h fromλc=>b (by injection c))];refine Q6 {ae,{40},?_,1};rw[et,Lm,Lb (by simp[b])];simpa using py
   rintro g o X ⟨_,py,rfl⟩ ae;rw[be,Tu]at py;have ad:=Qf au (.lst g);have aI:Dm (Jc (zj E p2 (.lst g)) i8) g (I.filter λr=>decide (r.1=h)):=Qr py λ_ _ v=>v.kp (λv=>ad _ _ v) (λv _=>ad _ _ v);have aG:=ad _ _ aF;have a0:=ad _ _ aE;have N7:=N6.same ad;generalize zj E p2 (.lst g)=X at*;have a5:⇑g=⇑(I.filter λr=>decide (r.1=h)):=GJ aI;have bv:=Ny (λr:Row=>decide (r.1=h)) I;refine{0,p2,1,{_,Qi ae},λp3 av=>?_};refine Rl (K:=K) (a:=p2) (xs:=g) (small ∅) (λi Z o H8=>(∃O,o=[O,Ga ↑p])/\Z=((((I.filter λr=>decide (r.1=h)).take i).filter λr=>decide (r.2.1=a.map z)).map λr=>jv r.2.2)/\H8=zj X p3 (.lst Z)) {{40},by simp,1} (by rintro i Z o H8 _ ⟨_,_,b⟩;exact Qi (by rw[b];exact Qf av _ _ _ ae)) ?_ ?_
   .rintro i y Z o H8 hi ⟨⟨O,rfl⟩,rfl,rfl⟩ ac;ac_nf;have(C,er,G,l',rfl,hc,ar,_):=Qy aI hi;intros;generalize D:((((I.filter λr=>decide (r.1=h)).take i).filter λr=>decide (r.2.1=a.map z)).map λr=>jv r.2.2)=Z at*;have Y:=Qf av (.lst Z);exists 0,G,201,Qk (Y _ _ hc),X8,0,.list ((C.2.1.map λn:Nat=>(n:Int)).map Eu),.list (((a.map z).map λn:Nat=>(n:Int)).map Eu),.lst (Y _ _ ar) (by rw[Od];exact Ue _),.lst (Y _ _ aG) (by rw[Od];exact Ue _),by simp only[TJ];exact Uc _,by simp only[TJ];exact Uc _,?_,_,Xb
    .have:=O1 (C.2.1.map λn:Nat=>(n:Int));simp only[DV];ext
    have ee:T5 (.list ((C.2.1.map λn:Nat=>(n:Int)).map Eu)) (.list (((a.map z).map λn:Nat=>(n:Int)).map Eu))=decide (C.2.1=a.map z):=by simp only[T5];rw[qi];exact decide_eq_decide.mpr tF
    rw[ee];have et:(I.filter λr=>decide (r.1=h)).take (i+1)=(I.filter λr=>decide (r.1=h)).take i++[C]:=by rw[Tt,er];rfl
    by_cases b:C.2.1=a.map z
    .rw[Tk b];refine Yw {0,G,201,Qk (Y _ _ hc),jf,ac,{40},?_,by rw[X9]};rw[et,Lm,Sc (by simp[b]),T3,D];rfl
    .rw[Tj b];refine Q6 {ac,{40},?_,1};rw[et,Lm,Lb (by simp[b])];simpa using D.symm
   rintro Z o H8 ⟨_,rfl,rfl⟩ ac;have a6:(((((I.filter λr=>decide (r.1=h)).take ⇑g).filter λr=>decide (r.2.1=a.map z)).map λr=>jv r.2.2))=[jv (z (.mk h a))]:=by rw[a5,Tu,Q1b (w:=h) (ns:=a.map z) (n:=z (.mk h a)) hR.nd (W.mem _ fu)];rfl
   rw[a6]at ac⊢;have al:=Qf av (.lst [jv (z (.mk h a))]);have a2:=al _ _ aG;have bs:=al _ _ a0;have N8:=N7.same al;have aJ:=(ak.trans ad).trans al;generalize zj X p3 (.lst [jv (z (.mk h a))])=H8 at*;exists 030,.inl {_,Qi ac,1},10;rw[Tk (by rfl)];refine Yw ?_;exists 00,.int (-1),((a.map z).map λn:Nat=>(n:Int)).map Eu,.int _,.lst a2 (by rw[Od];exact Ue _),by simp[TJ],Uc _,?_,0
   .simp only[DV];ext
   have ni:((((a.map z).map λn:Nat=>(n:Int)).map Eu).any λd=>T5 d (.int (-1)))=Gx:=by rw[My];intro d hd;have(n,hn,rfl):=Tv.mp hd;have(D,_,rfl):=Tv.mp hn;simp[T5]
   rw[ni];refine Yw ?_;refine{0,p3,201,Qi ac,Yo,00,N8.set ∅ gu.1 gu.2.1 (aH.same aJ) λH9 b9 N9=>?_};exists 320,λG o' M N=>b9 _ _ (aJ _ _ (T _ _ M N)) N;ac_nf;have(ab,h0,M,N,h3):=N9;intros;refine{ab,h0,M,N,λu' ai=>h3 u' ?_};rw[Tt,eu]at ai;rcases Gi.mp ai with c|c
   .exact .inl c
   .exact .inr (by simpa using c)
  .rintro o B ⟨x4,x6,x7,x8,rfl,T,N5⟩;have tu:Q8 (zj H3 d (Ut P w d [])) B:=T.Qv Qb (λxs c=>by cases c);ac_nf;have(ag,_,_,_,rfl,_,_,_):=hv.inv;have g:t∈e.reverse.take ov.length:=by rw[lo,<-SW,Tu];exact S8.mpr tO
   have(ab,h0,M,N,h3):=N5;intros;exists 0,⟨d,ab,Xb,M⟩,00,d,ag,_,ab,kd t,11,⟨M,N⟩,O0 ((hv.same (ah.trans s5)).Qv tu) gt.1 gt.2.1;rw[h3 t g];exact q B λb o' v=>T _ _ (s5 _ _ (ah _ _ v)) (Qd v aM)
 .have eT:l=Tr++[u]:=by simpa using eT
  subst eT;have aV:(Tr++[u]).isEmpty=Gx:=by cases Tr<;>rfl
  rw[aV];refine Yw ?_;ac_nf;have(g,x,rfl,O,T):=Ih aT;intros;have az:Za (Tr++[u])=Za Tr+u.size:=by rw[Xu];simp[Za]
  rw[az]at sz;have bn:=Ry u;have uS:=fT u ⋯;exists λaB C=>∃m',m'<Za (Tr++[u])/\jk λ(m:Ge)(ov xs:List V)(e l:List Th)(x4:Option V)=>lG (aB=[Ga ↑R,Ga aj,Ga ↑A,Ga ↑m,x4,Gp,Gp,Gp,Gp]) (Q5 Q C) (Q m=Gp) (A≠m) (C A/.lst ov) (C m/.lst xs) (Zq C ov e) (Zq C xs l) (∀u∈e,u∈S) (∀u∈l,u∈S) (t∈e\/t∈l) (∀(i:Nat)w a,e[i]?/Th.mk w a->∀p∈a,(∃j:Nat,i<j/\e[j]?/p)\/p∈l) (m'=Za l) (⇑e+Za l<=1000),λaB C v=>v;have aU:(g++[x])[⇑(g++[x]) - 1]?/x:=by simp
  exists 0,.inl {13,Qi (s4 _ _ gl)},m,301,s4 _ _ gl,aU;rw[SM];have M:Rb m J (zj (zj J c (.lst [])) m (.lst g)):=λG A b v=>by rw[Qh v];exact s4 _ _ b
  have l5:(zj (zj J c (.lst [])) m (.lst g)) m/.lst g:=Qb;generalize zj (zj J c (.lst [])) m (.lst g)=B at M l5⊢;have t5:Q8 J B:=M.Qv gl (λxs b=>by cases b);have aX:Q5 Q B:=λG A b=>M G A (sm _ _ b) (Qd b hl);have Z:=M _ _ go am;exists 0,.inl {13,Qi Z},0,A,ov,01,Z,(by rw[TD];ext);have N:Rb A B (zj B A (.lst (ov++[x]))):=λG o' b v=>by rw[Qh v];exact b
  have o6:(zj B A (.lst (ov++[x]))) A/.lst (ov++[x]):=Qb;generalize zj B A (.lst (ov++[x]))=E at N o6⊢;have t6:Q8 B E:=N.Qv Z (λxs b=>by cases b);have aA:Q5 Q E:=λG o' b=>N G o' (aX _ _ b) (Qd b ho);have l6:=N _ _ l5 (GQ am);have ap:=t5.trans t6;have O:=O.Qv ap;have T:=T.Qv ap;ac_nf;have(b0,h,D,a,rfl,rfl,aR,an):=T.inv;intros;have bq:=⇑an;have bf:=Zn a;have br:=⇑O;have bp:=Zn Tr;have bo:(Th.mk h a).size=Za a+1:=by simp only[Th.size]
  refine{000,b0,0,Qk aR,Wr _ _,λr aW=>?_};rw[iG];have s7:=Qf aW (.tup D);refine{r,D,1,.inr (Qk Qb),λl2 aS=>?_};have s8:=Qf aS (.lst D);refine{m,l2,g,D,11,s8 _ _ (s7 _ _ l6),Qb,small ∅,λn hn=>?_};have s9:=Qf hn (.lst (g++D));have ao:=s7.trans s8;have X:=ao.trans s9;exists Za (Tr++a),by rw[az,Xu];ext,n,ov++[↑b0],g++D,e++[Th.mk h a],Tr++a,_,Xb,aA.trans X,(aA.trans ao).free hn,?_,X _ _ o6,Qb,((aO.Qv ap).append (.one T)).same X,(O.append an).same X,?_,?_,?_,?_,Xb
  .exact Qd (ao _ _ o6) hn
  .intro u' ai;rcases Gi.mp ai with c|c
   .exact fO u' c
   .rw[Tf]at c;rw[c];exact uS
  .intro u' ai;rcases Gi.mp ai with c|c
   .exact fT u' (Gv _ c)
   .exact W.cl _ uS u' c
  .rcases aQ with c|c
   .exact .inl (Gv _ c)
   .rcases Gi.mp c with c|c
    .exact .inr (Gv _ c)
    .rw[Tf]at c;rw[c];exact .inl (TL _ G8)
  .intro i w' ax b p L;have Y:(e++[Th.mk h a])[⇑e]?/Th.mk h a:=by simp
   rcases Dn i ⇑e with hi|hi
   .rw[Tz hi]at b;rcases Xs i w' ax b p L with⟨j,hj,ej⟩|c
    .exact .inl {j,hj,by rw[Tz (Gg.mp ej).1];exact ej}
    .rcases Gi.mp c with c|c
     .exact .inr (Gv _ c)
     .rw[Tf]at c;exact .inl {⇑e,hi,by rw[c];exact Y}
   .have:i=⇑e:=by have:=(Gg.mp b).1;rw[Gs,Tg]at this;ext
    subst this;rw[Y]at b;cases b;exact .inr (TL _ L)
  .rw[Gs,Tg,Xu];ext
inductive Ak(vs:List V)(H:Hp)(Q:VK):Prop
 |mk (R:Ge) (es:List V) (rs:List Row) (h0:vs=[↑R]) (h1:iN H R es rs) (h2:∀H':Hp,Q5 H H'->Q (.bl Gk) H'):Ak vs H Q
def xp:Sp:=λa H Q _=>Ak a H Q
inductive mf(H:Hp)(l:Ge)(v:V)(r:Row):Prop
 |mk (c:_) (l':_) (h0:v=↑c) (h1:H c/.tup [.str r.1,↑l']) (h2:H l'/.lst (r.2.1.map jv)) (h3:l'≠l):mf H l v r
noncomputable def sgD(r:Row):DN:=.tuple [.str r.1,.list ((r.2.1.map λn:Nat=>(n:Int)).map Eu)]
theorem xk{l:Ge}(h:mf H l v r):Dt H v (sgD r):=by have(c,d,rfl,a,b,_):=h;exact .tup a (.cons (.str _) (.cons (.lst b (by rw[Od];exact Ue _)) .nil))
theorem Kj(h:DK r.1=Gk):(sgD r).canLay0=Gk:=by have a:=Uc (r.2.1.map λn:Nat=>(n:Int));simp only[sgD,TJ,Gz,h,a,Lw,LX]
theorem Qyd(r:Row):(sgD r).depth<=4:=by have:=O1 (r.2.1.map λn:Nat=>(n:Int));simp only[sgD,DV,Db];ext
theorem YT{l:Ge}{a:List V}(h:Dm (mf H l) a rs):hF H a (rs.map sgD):=by
 induction h with
 |nil=>exact .nil
 |cons h r b=>exact .cons (xk h) b
theorem Qzu(h:∀r∈rs,DK r.1=Gk):Gz (rs.map sgD)=Gk:=by
 induction rs with
 |nil=>rfl
 |cons r rs b=>rw[TC];simp only[Gz,Kj (h r G8),b λr a=>h r (Gr _ a),LX]
theorem Q5b{b:Row}(h:T5 (sgD r) (sgD b)=Gk):(r.1,r.2.1)=(b.1,b.2.1):=by
 simp only[sgD,T5,DB,Lw,Df]at h;have(c,a):=h;rw[qi]at a;have a:=tF.mp (Dp a);have c:r.1=b.1:=by simpa using c
 rw[c,a]
theorem zQ:Q4 ["_law_rows","_law_signs","_law_row","_law_number"] ["_law_rows"] (Qm pL):=by eq_refl
theorem Pp{O:Ge}{dH:Du}(F:Wc K "_law_is_world" "_law_is_world" pL f fd)(o:hJ mg)
  (GH:Qz P w K mg base Z4 1 O dH ["_law_found"] (lj K))(kH:KI K O)(bH:zk K dH ["_law_found"] [])(mH:MG mg "_law_whole" O):
  Qz P w K mg base Z4 2 f fd ["_law_rows"] xp:=by
 refine F.ok zQ (λc ab b a g=>?_) (λh e t s ab c b a D g=>?_)
 .obtain⟨R,N,k,rfl,_⟩:=g;rfl
 have(R,N,k,rfl,m,q):=g;have W:=zQ.nd;have hu:=D.units;have al:⇑N=⇑k:=GJ m.pr;have am:=m.len;exists _,(Qc (Zc (Yi (Z2 (Qp Zu rfl o.isinstance GX (Qa {0} (Qa (Ya (v:=.ty "list") rfl o.list TY Xb) Qe)))))
  (Qg (Qu Z7)) Qw)
  (Qc (Q3 1 W (Zz Qe))
  (Qc (Z9 To rfl (Z6 {0}) (Zv 2 W)
  (Qc (Zc (PW.pt (Yy (Yi (Z2 (Qp Zu rfl o.isinstance GX (Qa {2} (Qa (Ya (v:=.ty "tuple") rfl o.tuple Di Xb) Qe))))) (Yy (Qo X7 (Qp Zs rfl o.len Tp (Qa {2} Qe)) Qj (Qs _)) (Xj (Yi (Z2 (Qp Zu rfl o.isinstance GX (Qa (Qn Qt {2} Qj) (Qa (Ya (v:=.ty "str") rfl o.str EI Xb) Qe)))))))))
  (Qg (Qu Z7)) Qw)
  (Qc (Zc (PW.pt (Yy (Yi (Z2 (Qp Zu rfl o.isinstance GX (Qa (Qn Qt {2} Qj) (Qa (Ya (v:=.ty "list") rfl o.list TY Xb) Qe))))) (Yy (Yi (Z2 (Ze GH D rfl mH kH bH .nil Q7 (Qa (Qn Qt {2} Qj) Qe)))) (Xj (Qo Ud (Qn Qt {2} Qj) Qj (Qs _))))))
  (Qg (Qu Z7)) Qw)
  (Qc (Z9 To rfl (Z6 (Qn Qt {2} Qj)) (Zv 3 W)
  (Qg (Zc (PW.pt (Yy (Yi (Z2 (Ze GH D rfl mH kH bH .nil Q7 (Qa {3} Qe)))) (Xj (Qo Ud {3} Qj (Qs _)))))
  (Qg (Qu Z7)) Qw)))
  (Qc (Zc (Qo (SC hu) (Zg (Qa (Qn Qt {2} Qj) (Qa (Qn Qt {2} Qj) Qe))) {1} rfl)
  (Qg (Qu Z7)) Qw)
  (Qg (Zl (Xx Te Tx TB Z0 {1} (Qa (Zg (Qa (Qn Qt {2} Qj) (Qa (Qn Qt {2} Qj) Qe))) Qe)))))))))
  (Qg (Qu Z7)))))
 refine{032,Gk,1,.lst m.at_,j9,Gk,1,Q6 ?_};refine{Tw _,λl L=>?_};have s1:=Qf L (.lst []);let ai:Nat->St->Hp->Prop:=λi r v=>jc λ(p:List V)(x2 z:Option V)=>jR (r=[Ga ↑R,Ga ↑l,x2,z]) (Q5 ab v) (v l/.lst p) (Dm (mf v l) p (k.take i))
 refine⟨_,Xb,R,Xb,{_,Qi (s1 _ _ m.at_)},Yv (K:=K) (a:=R) (xs:=N) ai
  {[],30,s1,Qb,by simp;exact .nil} (by rintro i r v _ ⟨_,_,_,_,y,_⟩;exact Qi (y _ _ m.at_)) ?_ ?_⟩
 .rintro i x r v hi ⟨p,x2,z,rfl,y,Q,M⟩;ac_nf;have(a,H,c,b,rfl,hc,ac,_):=Qy m.pr hi;intros;have h:=y _ _ hc;have C:=y _ _ ac;have X:b≠l:=Qd ac L;have nc:c≠l:=Qd hc L;have ag:⇑p=⇑(k.take i):=GJ M;rw[Dq]at ag;have ak:=m.few a (Gc H);refine{032,Gk,1,.tup h,kj,Gk,1,Q6 ?_};exists 030,.inr {_,Qk h,1},10;rw[Tk (by rfl)];refine Q6 ?_;refine{0,c,201,Qk h,Yo,32,Gk,1,.str _,Rz,Gk,1,Q6 ?_};refine{0,c,201,Qk h,X8,32,Gk,1,.lst C,j9,Gk,1,Q6 ?_};refine{0,c,201,Qk h,jf,2,Gk,Gx,1,.int _,Ij,Jq,Gk,1,Q6 ?_};exists 0,c,201,Qk h,jf,3010;rw[Tj (show¬((a.2.2:Int)<0) by ext)];refine Q6 ?_;refine⟨_,Xb,c,_,_,_,Xb,Xb,Qk h,X8,b,Xb,{_,Qi C},Yv (K:=K) (a:=b) (xs:=a.2.1.map jv) (λj r t=>∃z:Option V,r=[Ga ↑R,Ga ↑l,Ga ↑c,z]/\t=v)
   {401} (by rintro j r t _ ⟨_,_,e⟩;exact Qi (by rw[e];exact C)) ?_ ?_⟩
  .rintro j u r t A ⟨z,rfl,rfl⟩;obtain⟨n,rfl⟩:∃n,jv n=u:=by
    rw[Ta]at A;cases e:a.2.1[j]? with
    |none=>rw[e]at A;cases A
    |some n=>rw[e]at A;exact{n,T1 A}
   refine{02,Gk,Gx,1,.int _,Ij,Jq,Gk,1,Q6 ?_};exists 403010;rw[Tj (show¬((n:Int)<0) by ext)];exact Q6 {401}
  .rintro r t ⟨z,rfl,rfl⟩;refine{0,c,201,Qk h,Yo,0,c,201,Qk h,X8,Yz,λB ad=>?_};have s4:=Qf ad (.tup [.str a.1,↑b]);have aj:Dm (mf (zj t B (.tup [.str a.1,↑b])) l) p (k.take i):=Qr M (by rintro _ _ ⟨c,b,T,I,U,J⟩;exact{c,b,T,s4 _ _ I,s4 _ _ U,J});have ah:=m.ok a (Gc H);exists 0,sgD a,(k.take i).map sgD,xk (l:=l) {B,b,1,Qb,s4 _ _ C,X},.lst (s4 _ _ Q) (YT aj),Kj ah,Qzu λa D=>m.ok a (DL D),?_,0
   .have:=Qyd a;ext
   have ni:(((k.take i).map sgD).any λd=>T5 d (sgD a))=Gx:=by
    rw[My];intro d hd aa;have(r',af,rfl):=Tv.mp hd;have e:=Q5b aa;have n1:=m.nd;have e1:k=k.take i++a::k.drop (i+1):=by
     conv=>lhs;rw[<-NB i k]
     congr 1;exact Sm.trans (by rw[H];rfl)
    rw[e1,T3,TC,DO]at n1;exact n1.2.2 _ (Tv.mpr ⟨r',af,Xb⟩) _ G8 e
   rw[ni];refine Q6 ?_;have S:=s4 _ _ Q;refine{0,.inl {13,Qi S},0,c,201,Qk (s4 _ _ h),Yo,0,c,201,Qk (s4 _ _ h),X8,Yz,λA ae=>?_};have Z:=Qf ae (.tup [.str a.1,↑b]);exists l,p,01,Z _ _ S,(by rw[TD];ext);have E:=s4.trans Z;have G:∀{e:Ge}{Y:HO},(zj (zj t B (.tup [.str a.1,↑b])) A (.tup [.str a.1,↑b])) e/Y->e≠l->(zj (zj (zj t B (.tup [.str a.1,↑b])) A (.tup [.str a.1,↑b])) l (.lst (p++[↑A]))) e/Y:=λg n=>by rw[Qh n];exact g
   have tt:∀{e:Ge}{ys:List V},(zj (zj t B (.tup [.str a.1,↑b])) A (.tup [.str a.1,↑b])) e/.tup ys->e≠l:=λg aa=>by rw[aa,Z _ _ S]at g;cases g
   exists p++[↑A],30,λe Y g=>G (E _ _ (y _ _ g)) (Qd g L),Qb;rw[Tt,H];refine Yx (Qr M (by rintro _ _ ⟨c,b,T,I,U,J⟩;exact{c,b,T,G (E _ _ I) (tt (E _ _ I)),G (E _ _ U) J,J})) (.cons {A,b,1,G Qb (tt Qb),G (E _ _ C) X,X} .nil)
 .rintro r v ⟨p,x2,z,rfl,y,Q,M⟩;exact q _ y
inductive v9(vs:List V)(H:Hp)(Q:VK):Prop
 |mk (R:Ge) (a:Ge) (es:List V) (us:List V) (rs:List Row) (S:List Th) (L:Th->Nat) (tl:Tl) (h0:vs=[↑R,↑a]) (h1:iN H R es rs) (h2:mo S L rs) (h3:H a/.lst us) (h4:J0 H us tl) (h5:(∀p∈tl,p.2.1∈S/\p.2.2∈S/\(L p.2.1=L p.2.2↔p.1=Gk))) (h6:∀H':Hp,Q5 H H'->Q (.bl Gk) H'):v9 vs H Q
def vJ:Sp:=λa H Q _=>v9 a H Q
theorem tQ:Q4 ["_law_rows","_law_told","_law_word","_law_one","_law_other","_law_here","_law_there"] ["_law_rows","_law_told"] (Qm qa):=by eq_refl
theorem VM{r p:Ge}{D C:Du}(F:Wc K "_law_world_fits" "_law_world_fits" qa f fd)
  (GW:Qz P w K mg base Z4 2 r D ["_law_rows"] xp)(kW:KI K r)(bW:zk K D ["_law_rows"] [])(mW:MG mg "_law_is_world" r)
  (z:Qz P w K mg base Z4 1 p C ["_law_rows","_law_thing"] yC)(J:KI K p)(B:zk K C ["_law_rows","_law_thing"] [])(M:MG mg "_law_number_in" p):
  Qz P w K mg base Z4 3 f fd ["_law_rows","_law_told"] vJ:=by
 refine F.ok tQ (λvs H Q E h=>?_) (λaa A e s H vs Q E I h=>?_)
 .obtain⟨R,a,m,O,n,S,L,tl,rfl,_⟩:=h;rfl
 have(R,a,m,O,n,S,L,tl,rfl,u,W,G,v,t,q):=h;have k:=tQ.nd;have j:Yd 1 _:=I.mono ∅;exists _,(Qc (Zc (Yi (Z2 (Ze GW I rfl mW kW bW .nil Q7 (Qa {0} Qe))))
  (Qg (Qu Z7)) Qw)
  (Qc (Z9 To rfl (Z6 {1}) (Wi rfl (Zb (Zv 2 k) (Zb (Zv 3 k) (Zb (Zv 4 k) Xt))))
  (Qc (Q3 5 k (Ze z j rfl M J B .nil Q7 (Qa {0} (Qa {3} Qe))))
  (Qc (Q3 6 k (Ze z j rfl M J B .nil Q7 (Qa {0} (Qa {4} Qe))))
  (Qg (Zc (PW.pt (Yy (Qo Ud {5} Qj (Qs _)) (Yy (Qo Ud {6} Qj (Qs _)) (Xj (Qo X7 (Wz Xy {5} {6} (Qs _)) (Wz Xy {2} Zo (Qs _)) (Qs _))))))
  (Qg (Qu Z7)) Qw)))))
  (Qg (Qu Z7))))
 refine{0,R,m,n,1,u,λH1 N=>{Gk,1,Q6 ?_}};refine⟨_,Xb,a,Xb,{_,Qi (N _ _ G)},Yv (K:=K) (a:=a) (xs:=O) (λi o l=>∃T U X Y Z:Option V,o=[Ga ↑R,Ga ↑a,T,U,X,Y,Z]/\Q5 H l)
  {220,N} (by rintro i o l _ ⟨_,_,_,_,_,_,d⟩;exact Qi (d _ _ G)) ?_ (by rintro o l ⟨_,_,_,_,_,h,d⟩;subst h;exact q _ d)⟩
 rintro i x o l hi ⟨T,U,X,Y,Z,rfl,d⟩;ac_nf;have((b,x,y),ep,c,v1,v2,rfl,hc,t1,t2):=Qy v hi;have(xS,yS,iff):=t _ (Gc ep);intros;exists c,0,Qk (d _ _ hc),13030301;refine{00,R,v1,m,n,S,L,x,1,u.same d,W,xS,t1.same d,λH3 s3=>?_};have g:=d.trans s3;refine{00,R,v2,m,n,S,L,y,1,u.same g,W,yS,t2.same g,λH4 s4=>?_};exists 403010;rw[Tj (show¬((L x:Int)<0) by ext)];refine Q6 ?_;exists 403010;rw[Tj (show¬((L y:Int)<0) by ext)];refine Q6 ?_;exists 40010110;have eq:decide (V.bl (decide (jv (L x)=jv (L y)))=V.bl (decide (V.str (tw b)=V.str "same")))=Gk:=by
  have A:decide (V.str (tw b)=V.str "same")=b:=by rw[Zp,qq]
  have E:decide (jv (L x)=jv (L y))=b:=by
   unfold jv;rw[Uw];by_cases e:L x=L y
   .have Q:b=Gk:=iff.mp e;rw[e,Q];simp
   .have:b=Gx:=by
     cases b
     .rfl
     .exact absurd (iff.mpr Xb) e
    rw[this];simp;ext
  rw[A,E];exact Tk rfl
 rw[eq];exact Q6 {220,g.trans s4}
end
theorem Q3x{d:List Lt}(h:Wk H i8 v d):∃L a,v=.ref L/\jw H L a d:=by have(L,a,k,m,_,b,n):=h;refine{L,a,k,m,b,λl p=>?_,n};have(j,f):=Dh.mp p;have q:⇑a=⇑d:=GJ b;have o:=(Gg.mp f).1;have(r,e,c,t,u,s,_,_,_,_,_,g,i):=Qy b (Gf (show j<⇑a by ext));rw[f]at e;cases e;exact⟨g,i⟩
theorem Q47{f:Tl}{S:List Th}(h:Ul H i8 v rs)(W:lR f S rs):∃(R:Ge)(a:List V)(L:Th->Nat),v=.ref R/\iN H R a rs/\mo S L rs/\∀s∈S,∀t∈S,L s=L t↔Cg f s t:=by
 have(R,a,b,e,_,i):=h;have(L,j,k,g):=W.ex;refine{R,a,L,b,{e,i,by have:=W.len;ext,λr c=>?_,λr c=>?_,W.nd},{W.cl,W.good,k},j}
 .obtain⟨⟨l,d⟩,ht,rfl⟩:=g r c;have:=(W.good _ ht).1;simp only[Th.ok,Df]at this;exact this.1
 .obtain⟨⟨l,d⟩,ht,rfl⟩:=g r c;have b:=(W.good _ ht).2.2;have e:=Zn d;simp only[Th.size]at b;show ⇑(d.map L)<=1000;rw[Gq];ext
open PySem L2 Sb Nt
inductive wR(vs:List V)(H:Hp)(Q:VK):Prop
 |mk (l:Ge) (es:List V) (dl:List Dd) (U:List Th) (h0:vs=[↑l]) (h1:H l/.lst es) (h2:Ur H es dl) (h3:iO U) (h4:(∀d∈dl,d.fits U)) (h5:⇑dl<=800) (h6:∀(v:V)(rs:List Row)(S:List Th)(H':Hp),Q5 H H'->Ul H' i8 v rs->lR (after [] dl) S rs->(∀p∈after [] dl,p.2.1∈S/\p.2.2∈S)->Q v H'):wR vs H Q
def uh:Sp:=λa H Q _=>wR a H Q
section
variable{P:Gn}{w:Ti}{K:Gd}{mg:TQ->Option Gh}{base:Heap}
theorem ur:Q4 ["deeds","book"] ["deeds"] (Qm rH):=by eq_refl
theorem OP{L B C M g v h:Ge}{N O Q:Du}(F:Wc K "world" "world" rH L fd)(k:iK K mg h)(TP:iC K mg v)(TN:Jb K mg g)
  (GB:Qz P w K mg base Z4 64 B N ["deeds"] (Rx P w v h))(kB:KI K B)(bB:zk K N ["deeds"] [])(mB:MG mg "book_after" B)
  (GN:Qz P w K mg base Z4 61 C O ["forms","told"] (oh P w g))(kN:KI K C)(bN:zk K O ["forms","told"] [])(mN:MG mg "net_of" C)
  (mR:Ym K g "rows" M)(GR:Qz P w K mg base Z4 2 M Q ["self"] (rm P w g))(bR:zk K Q ["self"] []):
  Qz P w K mg base Z4 65 L fd ["deeds"] uh:=by
 refine F.ok ur (λu o r m f=>?_) (λab aa ac s o u r m D f=>?_)
 .obtain⟨V,I,e,y,rfl,_⟩:=f;rfl
 have(V,I,e,y,rfl,hl,ai,T,aj,U,q):=f;have al:Yd 61 _:=D.mono ∅;have ak:Yd 2 _:=D.mono ∅;have nd:=ur.nd;exists _,Qc (Q3 1 nd (Ze GB D rfl mB kB bB .nil Q7 (Qa {0} Qe)))
  (Qg (Qu (pK (Ze GN al rfl mN kN bN .nil Q7 (Qa (Qx (Qx {1}) rfl) (Qa (Qx {1}) Qe))) TN.cl mR GR ak bR .nil Q7)))
 refine{0,V,I,e,y,1,hl,ai,T,aj,U,λG p aw ag d t ae c H1 g1 b sub=>?_};have i:iT y c (after [] e):=by have:=pR T sub U ⇑e;rwa[Tu]at this
 generalize after [] e=Y at*;ac_nf;have(H,X):=b.ob;have(dp,o2):=b.pl.ob;have(ws,f1,f2):=b.pl.fo;have(J,af,e1,A,R):=b.en;have l:=b.pl.nd;have z:=b.pl.cl;have Z:=i.le l;have S:∀t∈c,t.good:=λt ht=>i.good t (i.sub t ht);have(TK,ap):=sX l z S Z;intros;have ay:⇑J=⇑Y:=(GJ A).trans (GJ R);have az:=i.tl;refine{0,G,h,H,30,X,k.cl,k.places,Uy _ _ _,p,v,dp,30,o2,TP.cl,TP.nF,ph _ _ _,0,G,h,H,30,X,k.cl,k.entries,V1 _ _ _,ag,ae,ws,J,tfs c,af,0,f1,f2,e1,A,TK,by rw[W0];exact Z,ap,λen ah=>by rw[W0];exact p7 R en ah,by rw[<-GJ A];ext,λn A' tb x H2 a _ E=>?_};have(aq,ar):=rZ R (λp q=>Ag);have EQ:=qc E;have ad:∀p∈x.S,∀q∈x.S,x.zu p=x.zu q↔Cg Y (tg c p) (tg c q):=λp hp q hq=>EQ.cg l z a.inv a.fok aq ar hp hq;have(dn,on):=a.at_.ob;refine{n,dn,0,on,pz _,n,A',_,tb,x,1,a.at_,a.fok,a.inv,by have:=a.len;ext,λav au H3 g3 am W=>?_};refine q av au (x.S.map (tg c)) H3 ((g1.trans a.sam).trans g3) (am.ex λm o _ _ f=>f) (rJ S l z a.fok (by have:=a.len;ext) W ad) λpp hm=>?_;ac_nf;have(ax,a',c'):=pp;have(j,hj):=Dh.mp hm;have(p',q',h1,h2,h3):=Rj R hj;have(an,ao):=E.ins _ (Gc h1);intros;exact{Tv.mpr {p',an,Uq h2},Tv.mpr {q',ao,Uq h3}}
inductive jC(P:Gn)(w:Ti)(H:Hp)(d:Ge)(n:Nat)(rs:List Row):Prop
 |mk (zw:List KE) (h0:⇑zw<=n) (h1:DH P w H d zw) (h2:(∀k:Fm,Yp zw (Y2 k)=(rs.find? λr=>decide ((r.1,r.2.1)=k)).map λr=>jv r.2.2)):jC P w H d n rs
theorem jC.same(e:Q5 H H')(h:jC P w H d n rs):jC P w H' d n rs:=by have(a,c,b,f):=h;exact{a,c,{e _ _ b.at_,Zf (Q8.of e) b.keys},f}
theorem QN(nd:(rs.map λr=>(r.1,r.2.1)).Nodup)(h:r∈rs):(rs.find? λa=>decide ((a.1,a.2.1)=(r.1,r.2.1)))/r:=by
 induction rs with
 |nil=>cases h
 |cons a rs b=>
  rw[TC,Dw]at nd;rcases Td.mp h with z|z
  .subst z;rw[List.find?_cons_of_pos ⋯]
  .rw[List.find?_cons_of_neg]
   .exact b nd.2 z
   .intro e;have e:=Dp e;exact nd.1 (Tv.mpr {r,z,e.symm})
theorem Q7g{X:Cx}{a:DX}:PS X a (λ_ _ _=>False):=λ_ _ _ _ _ _ h=>h.elim
inductive vx(P:Gn)(w:Ti)(vs:List V)(H:Hp)(Q:VK):Prop
 |mk (R:Ge) (es:List V) (rs:List Row) (h0:vs=[↑R]) (h1:iN H R es rs) (h2:∀(d:Ge)(H':Hp),Q5 H H'->H d=Gp->jC P w H' d ⇑rs rs->Q ↑d H'):vx P w vs H Q
def zf(P:Gn)(w:Ti):Sp:=λa H Q _=>vx P w a H Q
inductive A5(P:Gn)(w:Ti)(vs:List V)(H:Hp)(Q:VK):Prop
 |mk (d:Ge) (l:Ge) (wd:TQ) (ks:List Nat) (n:Nat) (rs:List Row) (r:Row) (h0:vs=[↑d,.str wd,↑l]) (h1:jC P w H d n rs) (h2:(rs.map λr=>(r.1,r.2.1)).Nodup) (h3:r∈rs) (h4:r.1=wd) (h5:r.2.1=ks) (h6:DK wd=Gk) (h7:⇑ks<=1000) (h8:H l/.lst (ks.map jv)) (h9:∀H':Hp,Q5 H H'->Q (jv r.2.2) H'):A5 P w vs H Q
def yl(P:Gn)(w:Ti):Sp:=λa H Q _=>A5 P w a H Q
theorem tZ:Q4 ["rows","table","word","numbers","number"] ["rows"] (Qm rP):=by eq_refl
theorem Qky(F:Wc K "row_table" "row_table" rP f fd)(Q:hJ mg):Qz P w K mg base Z4 1 f fd ["rows"] (zf P w):=by
 refine F.ok tZ (λvs H T S A=>?_) (λal aj ao s H vs T S hr A=>?_)
 .obtain⟨R,z,b,rfl,_⟩:=A;rfl
 have(R,z,b,rfl,e,q):=A;have v:=tZ.nd;have hu:=hr.units;have af:⇑z=⇑b:=GJ e.pr;have an:=e.len;exists _,(Qc (Q3 1 v Ju)
  (Qc (Z9 To rfl (Z6 {0}) (Wi rfl (Zb (Zv 2 v) (Zb (Zv 3 v) (Zb (Zv 4 v) Xt))))
  (Qg (Il {4} (Oy {1} (Zg (Qa {2} (Qa (Yq Wh rfl Q.tuple Di (Qa {3} Qe)) Qe))) (O8 hu)))))
  (Qg (Qu {1}))))
 intro d C;have N:=Qf C (Ut P w d []);let ah:Nat->St->Hp->Prop:=λi y c=>jc λ(E G I:Option V)=>j8 (y=[Ga ↑R,Ga ↑d,E,G,I]) (Q5 H c) (jC P w c d i (b.take i))
 refine⟨_,Xb,R,Xb,{_,Qi (N _ _ e.at_)},Yv (K:=K) (a:=R) (xs:=z) ah
  {20,N,[],Gy _,{Qb,(λp a=>nomatch a)},λk=>by simp[Yp]} (by rintro i y c _ ⟨_,_,_,_,h,_⟩;exact Qi (h _ _ e.at_)) ?_ ?_⟩
 .rintro i x y c hi ⟨E,G,I,rfl,h,t⟩;ac_nf;have(a,r,U,ae,rfl,Z,hl,_):=Qy e.pr hi;intros;have am:=e.few a (Gc r);have ag:=e.ok a (Gc r);have aa:=h _ _ Z;have ad:=h _ _ hl;exists U,0,Qk aa,13030301;refine{0000,ae,0,.inl {Qi ad,λl ab=>?_}};have O:=Qf ab (.tup (a.2.1.map jv));refine{Yz,λm ac=>?_};have D:=Qf ac (.tup [.str a.1,↑l]);have(M,h0,B,Y):=t.same (O.trans D);have X:I0 (zj (zj c l (.tup (a.2.1.map jv))) m (.tup [.str a.1,↑l])) ↑m (a.1,a.2.1):={m,l,1,Qb,D _ _ Qb};have L:=X.key ag;have ai:=h.trans (O.trans D);exists d,m,Y2 (a.1,a.2.1),M,11,B,L,(by rw[TD];have:=(Gg.mp r).1;ext);have tu:=Z1 (H:=zj (zj c l (.tup (a.2.1.map jv))) m (.tup [.str a.1,↑l])) (a:=d) (o:=Ut P w d (Vg M (Y2 (a.1,a.2.1)) m (jv a.2.2))) λxs n=>by rw[B.at_]at n;cases n
  refine{20,λak o J=>?_,_,Dj (Rg _ _ _ _) ∅,{Qb,Zf tu (B.keys.put L)},λk=>?_}
  .rw[Qh (Qd J C)];exact ai _ _ J
  .rw[U7,Y k,Tt,r];show _=((b.take i++[a]).find? _).map _;rw[Ba];by_cases n:k=(a.1,a.2.1)
   .subst n;have Gp:(b.take i).find? (λg=>decide ((g.1,g.2.1)=(a.1,a.2.1)))=Gp:=by
     rw[Fa];intro g u j;have j:=Dp j;have n1:=e.nd;have W:b=b.take i++a::b.drop (i+1):=by
      conv=>lhs;rw[<-NB i b]
      congr 1;exact Sm.trans (by rw[r];rfl)
     rw[W,T3,TC,DO]at n1;exact n1.2.2 _ (Tv.mpr ⟨g,u,Xb⟩) _ G8 j
    rw[GY Xb,Gp];simp
   .rw[Gu (λj=>n (Jj j))];have:([a].find? λg=>decide ((g.1,g.2.1)=k))=Gp:=by rw[Fa];intro g u j;rw[Tf]at u;subst u;exact n (Dp j).symm
    rw[this];simp
 .rintro y c ⟨E,G,I,rfl,h,t⟩;rw[af,Tu]at t;exact{0,q d c h C t}
theorem AM:Q4 ["table","word","numbers","key"] ["table","word","numbers"] (Qm rB):=by eq_refl
theorem ZI(F:Wc K "number_in" "number_in" rB f fd)(B:hJ mg):Qz P w K mg base Z4 1 f fd ["table","word","numbers"] (yl P w):=by
 refine F.ok AM (λO H Q E h=>?_) (λz A m s H O Q E J h=>?_)
 .obtain⟨d,l,R,L,n,N,r,rfl,_⟩:=h;rfl
 have(d,l,R,L,n,N,r,rfl,y,j,i,rfl,rfl,k,D,I,q):=h;have M:=AM.nd;have t:=J.units;exists _,(Qc (Q3 3 M (Zg (Qa {1} (Qa (Yq Wh rfl B.tuple Di (Qa {2} Qe)) Qe))))
  (Qc (Zc (Qo (O3 t) {3} {0} rfl)
  (Qg Q7g) Qw)
  (Qg (Qu (Qn (Oh t) {0} {3})))))
 refine{00,l,0,.inl {Qi I,λc e=>?_}};have x:=Qf e (.tup (r.2.1.map jv));refine{Yz,λb g=>?_};have o:=Qf g (.tup [.str r.1,↑c]);have(a,S,p,G):=y.same (x.trans o);have C:I0 (zj (zj H c (.tup (r.2.1.map jv))) b (.tup [.str r.1,↑c])) ↑b (r.1,r.2.1):={b,c,1,Qb,o _ _ Qb};have v:=C.key k;have u:Yp a (Y2 (r.1,r.2.1))/jv r.2.2:=by rw[G,QN j i];rfl
 exists 00,b,d,Y2 (r.1,r.2.1),a,11,p,v,0;rw[u];refine Q6 ?_;exact{00,d,b,Y2 (r.1,r.2.1),a,01,p,v,u,q _ (x.trans o)}
end
end K04
set_option maxHeartbeats 4000000
namespace PySem
theorem F.Qej(a b c:Gh):checkTypeCall "zip" {[a,b,c],[]}=pure ():=by kernel_rfl
theorem F.OS(a b c:Gh):checkBuiltinCall "zip.__new__" {[.type "zip",a,b,c],[]}=pure ():=by kernel_rfl
theorem F.UD(a b c d:Gh):argsOk "object.__init__" {[a,b,c,d],[]}:=by unfold argsOk;rw[signature?_of (id:="object.__init__") (n:=['_','_','t','i','n','i','_','_']) (o:=['t','c','e','j','b','o']) (by kernel_rfl) F.owner_object];kernel_rfl
theorem Heap.SameBut.eb{a c:Nat}{h b:Heap}{o:Lc}(s:Eb a h b)(e:h.get? c/o)(n:c≠a:=by ext):b.get? c/o:=s.extBut _ _ n e
abbrev Iz(h:Heap)(T:Ge)(a b c:Gh):Prop:=h.get? T=Ga {cls:=.type "tuple",data:=.seq #[a,b,c]}
structure iJ(h:Heap)(n:Nat)(l1 l2 l3:Ge)(f0:Gh)(i:Nat):Prop where
 z:Fe h (n+5) (n+3) (n+4) f0
 ti:Iz h (n+3) ↑n (.ref (n+1)) (.ref (n+2))
 to:∃a b c,Iz h (n+4) a b c
 i1:h.IsListIter n l1 i
 i2:h.IsListIter (n+1) l2 i
 i3:h.IsListIter (n+2) l3 i
theorem iJ.keep{h f:Heap}{n:Nat}{g j l:Ge}{d:Gh}{i:Nat}(Z:iJ h n g j l d i)(k:∀b,n<=b->b<=n+5->∀o,h.get? b/o->f.get? b/o):iJ f n g j l d i:=by have(a,b,c,e):=Z.to;exact{k _ ∅ ∅ _ Z.z,k _ ∅ ∅ _ Z.ti,{a,b,c,k _ ∅ ∅ _ e},Z.i1.at λo e=>k _ ∅ ∅ o e,Z.i2.at λo e=>k _ ∅ ∅ o e,Z.i3.at λo e=>k _ ∅ ∅ o e}
section
variable{prog:Gn}{w:Ti}{A:DW}{E:Gh->Gw->Prop}{s:Gw}
theorem sM{T:Ge}{a b c x:Gh}{k:Nat}{Q:Unit->Gw->Prop}(e:Iz s.heap T a b c)
  (h:∀d,d.get? T=Ga {cls:=.type "tuple",data:=.seq ((#[a,b,c]:Array Gh).setIfInBounds k x)}->Eb T s.heap d->Q () {s with heap:=d}):wpAny (TV prog w) A (updateSeq T (·.setIfInBounds k x)) Q E s:=by
 refine L6 e rfl (h _ ?_ (D0 ..));rw[DU _ e rfl];simp[Lh]
variable{n l1 l2 l3 i:Nat}{xs ys zs:Array Gh}{x y v:Gh}
theorem Qsm{u:Gh->Gw->Prop}(d1:l1<n)(d2:l2<n)(d3:l3<n)(Z:iJ s.heap n l1 l2 l3 .none i)(ac:s.heap.IsList l1 xs)(ad:s.heap.IsList l2 ys)(ae:s.heap.IsList l3 zs)(hx:xs[i]?/x)(hy:ys[i]?/y)(hv:zs[i]?/v)
  (hQ:∀d,iJ d n l1 l2 l3 (rawInt s.heap.objs.size) (i+1)->Iz d s.heap.objs.size x y v->(∀a b,a<n\/n+5<a->s.heap.get? a/b->d.get? a/b)->u ↑s.heap.objs.size {s with heap:=d}):
  wpAny (TV prog w) A (Builtin.«zip.__next__» {[.ref (n+5)],[]}) (λfin s'=>∃v,fin=.done (.ret v)/\u v s') E s:=by
 have(m,O,(aa,z,a,ab),h1,h2,l):=Z;show wpAny _ _ (field (.ref (n+5)) 2>>=_) _ _ _;refine Gb (Do m rfl (x:=.bool Gx) rfl ?_);show wpAny _ _ (field (.ref (n+5)) 3>>=_) _ _ _;refine Gb (Do m rfl (x:=.ref (n+3)) rfl ?_);refine Gb (DD O rfl ?_);show wpAny _ _ (TU (.ref (n+5))>>=_) _ _ _;refine Gb ?_;unfold TU;refine Gb (Do m rfl (x:=.none) rfl (Gj ?_));simp -iota only [Fz];refine Gb (LD ?_);refine Gb (Do m rfl (x:=.ref (n+4)) rfl ?_);refine Gb (DS m ⋯ λQ F U=>?_);replace F:Fe Q (n+5) (n+3) (n+4) .ellipsis:=F;have B:∀a b,a≠n+5->s.heap.get? a/b->Q.get? a/b:=λa b f c=>U.extBut _ _ f c;refine Gb ?_;simp -iota only [Fw,FQ,SF,LH];refine Gb (Gb (SQ ?_));show wpAny _ _ (TR ↑n>>=_) _ _ _;refine Gb (Ll (h1.at λb c=>B _ b ∅ c) (ac.at λb c=>B _ b ∅ c) hx λR af G=>Gj ?_);have K:∀a b,a≠n+5->a≠n->s.heap.get? a/b->R.get? a/b:=λa b f d c=>G.extBut _ _ d (B a b f c);have X:Iz R (n+4) aa z a:=K _ _ ∅ ∅ ab;refine Gb (DD X rfl ?_);refine Gb (sM X λS H q=>?_);replace H:Iz S (n+4) x z a:=H;refine Gb (LF (Gj ?_));have C:∀a b,a≠n+5->a≠n->a≠n+4->s.heap.get? a/b->S.get? a/b:=λa b f d g c=>q.extBut _ _ g (K a b f d c);refine Gb (Gb (SQ ?_));show wpAny _ _ (TR (.ref (n+1))>>=_) _ _ _;refine Gb (Ll (h2.at λb c=>C _ b ∅ ∅ ∅ c) (ad.at λb c=>C _ b ∅ ∅ ∅ c) hy λk4 ag s4=>Gj ?_);have Y:Iz k4 (n+4) x z a:=s4.eb H;refine Gb (DD Y rfl ?_);refine Gb (sM Y λT I o=>?_);replace I:Iz T (n+4) x y a:=I;refine Gb (LF (Gj ?_));have D:∀a b,a≠n+5->a≠n->a≠n+4->a≠n+1->s.heap.get? a/b->T.get? a/b:=λa b f d g l c=>o.extBut _ _ g (s4.extBut _ _ l (C a b f d g c));refine Gb (Gb (SQ ?_));show wpAny _ _ (TR (.ref (n+2))>>=_) _ _ _;refine Gb (Ll (l.at λb c=>D _ b ∅ ∅ ∅ ∅ c) (ae.at λb c=>D _ b ∅ ∅ ∅ ∅ c) hv λk6 ah h=>Gj ?_);have t6:Iz k6 (n+4) x y a:=h.eb I;refine Gb (DD t6 rfl ?_);refine Gb (sM t6 λe r j=>?_);replace r:Iz e (n+4) x y v:=r;refine Gb (LF (Gj (Gj ?_)));refine Gb (DD r rfl ?_);refine Gb (NN ?_);have P:e.objs.size=s.heap.objs.size:=by rw[j.1,h.1,o.1,s4.1,q.1,G.1,U.1]
 have L:∀a b,a≠n+5->a≠n->a≠n+4->a≠n+1->a≠n+2->s.heap.get? a/b->e.get? a/b:=λa b f d g l h4 c=>j.extBut _ _ g (h.extBut _ _ h4 (D a b f d g l c));have z7:Fe e (n+5) (n+3) (n+4) .ellipsis:=j.eb (h.eb (o.eb (s4.eb (q.eb (G.eb F)))));have ai:n+5<e.objs.size:=Tn z7;show wpAny _ _ (EC (.ref (n+5)) ↑e.objs.size>>=_) _ _ _;refine Gb ?_;unfold EC;have z8:Fe (e.push {cls:=.type "tuple",data:=.seq #[x,y,v]}) (n+5) (n+3) (n+4) .ellipsis:=Gm _ z7;refine Gb (DS z8 ⋯ λk9 J W=>?_);replace J:Fe k9 (n+5) (n+3) (n+4) (rawInt e.objs.size):=J;refine DS J ⋯ λp t V=>?_;replace t:Fe p (n+5) (n+3) (n+4) (rawInt e.objs.size):=t;have k:∀a b,a≠n+5->e.get? a/b->p.get? a/b:=λa b M c=>V.extBut _ _ M (W.extBut _ _ M (Gm _ c));have N:Iz p e.objs.size x y v:=V.eb (W.eb (Tc _ Xb));rw[P]at t N;refine Gj {0,?_};show u ↑e.objs.size _;rw[P];refine hQ p {t,k _ _ ∅ (L _ _ ∅ ∅ ∅ ∅ ∅ O),{32,k _ _ ∅ r},af.at λb c=>?_,ag.at λb c=>?_,ah.at λb c=>?_} N λa b hc c=>k a b ∅ (L a b ∅ ∅ ∅ ∅ ∅ c)
 .exact k _ b ∅ (j.eb (h.eb (o.eb (s4.eb (q.eb c)))))
 .exact k _ b ∅ (j.eb (h.eb (o.eb c)))
 .exact k _ b ∅ (j.eb c)
theorem PQ{Q:Fin->Gw->Prop}(C:A.handled=Gp)(a:l1<n)(Z:iJ s.heap n l1 l2 l3 .none i)(p:s.heap.IsList l1 xs)(D:xs[i]?=Gp)
  (y:∀a e,(∀c o,c<n\/n+5<c->s.heap.get? c/o->a.get? c/o)->(∃o,a.get? e/o/\o.cls=.type "StopIteration")->E ↑e {s with heap:=a}):
  wpAny (TV prog w) A (Builtin.«zip.__next__» {[.ref (n+5)],[]}) Q E s:=by
 have(j,l,(a,b,c,z),v,J,K):=Z;show wpAny _ _ (field (.ref (n+5)) 2>>=_) _ _ _;refine Gb (Do j rfl (x:=.bool Gx) rfl ?_);show wpAny _ _ (field (.ref (n+5)) 3>>=_) _ _ _;refine Gb (Do j rfl (x:=.ref (n+3)) rfl ?_);refine Gb (DD l rfl ?_);show wpAny _ _ (TU (.ref (n+5))>>=_) _ _ _;refine Gb ?_;unfold TU;refine Gb (Do j rfl (x:=.none) rfl (Gj ?_));simp -iota only [Fz];refine Gb (LD ?_);refine Gb (Do j rfl (x:=.ref (n+4)) rfl ?_);refine Gb (DS j ⋯ λq f I=>?_);replace f:Fe q (n+5) (n+3) (n+4) .ellipsis:=f;have k:∀c o,c≠n+5->s.heap.get? c/o->q.get? c/o:=λc o h e=>I.extBut _ _ h e;refine Gb ?_;simp -iota only [Fw,FQ,SF,LH];refine Gb (Gb (SQ ?_));show wpAny _ _ (TR ↑n>>=_) _ _ _;refine Gb (Nx C (v.at λo e=>k _ o ∅ e) (p.at λo e=>k _ o ∅ e) D λF e r B=>?_);have(H,d,g):=B;have u:Fe F (n+5) (n+3) (n+4) .ellipsis:=r (n+5) _ (show(n+5:Nat)≠n by ext) f;have m:(e:Nat)≠n+5:=λx=>by subst x;rw[u]at d;cases d;simp at g
 refine DS u ⋯ λG _ t=>y G e (λc o a x=>t.eb (r c _ (show(c:Nat)≠n by ext) (k _ _ ∅ x))) {H,t.extBut _ _ m d,g}
theorem QQ{Q:Option Gh->Gw->Prop}(j:l1<n)(k:l2<n)(l:l3<n)(Z:iJ s.heap n l1 l2 l3 .none i)(b:s.heap.IsList l1 xs)(d:s.heap.IsList l2 ys)(e:s.heap.IsList l3 zs)(q:xs[i]?/x)(r:ys[i]?/y)(p:zs[i]?/v)
  (m:∀a,iJ a n l1 l2 l3 (rawInt s.heap.objs.size) (i+1)->Iz a s.heap.objs.size x y v->(∀c o,c<n\/n+5<c->s.heap.get? c/o->a.get? c/o)->Q (Ga ↑s.heap.objs.size) {s with heap:=a}):
  wpAny (TV prog w) A (pyNext (.ref (n+5))) Q E s:=by
 have f:s.TypeIs (.ref (n+5)) "zip":={_,Z.z,1};unfold pyNext;exact Gb (Lv (Dz (name:=Ev "__next__") f F.slot_zip_next
  (Dy F.slot_zip_next f F.entry_zip_next (Qsm j k l Z b d e q r p λa c g h=>Gj (m a c g h)) (F.args_zip_next_1 _))))
theorem K0{Q:Option Gh->Gw->Prop}(k:A.handled=Gp)(f:l1<n)(Z:iJ s.heap n l1 l2 l3 .none i)(b:s.heap.IsList l1 xs)(p:xs[i]?=Gp)
  (g:∀a,(∀c o,c<n\/n+5<c->s.heap.get? c/o->a.get? c/o)->Q Gp {s with heap:=a}):wpAny (TV prog w) A (pyNext (.ref (n+5))) Q E s:=by
 have d:s.TypeIs (.ref (n+5)) "zip":={_,Z.z,1};unfold pyNext;refine Gb (Lv (Dz (name:=Ev "__next__") d F.slot_zip_next
  (Dy F.slot_zip_next d F.entry_zip_next (PQ k f Z b p λa e l j=>?_) (F.args_zip_next_1 _))))
 have(o,m,h):=j;refine Gb (S0 (T:="StopIteration") (b:=Gk) ⟨o,m,h⟩ Mm ?_);exact Gj (g _ l)
end
noncomputable abbrev z3a(h:Heap)(l1:Ge):Heap:=h.push {cls:=.type "list_iterator",data:=.fields #[↑l1,.int 0 0]}
noncomputable abbrev z3b(h:Heap)(l1 l2:Ge):Heap:=(z3a h l1).push {cls:=.type "list_iterator",data:=.fields #[↑l2,.int 0 0]}
noncomputable abbrev z3c(h:Heap)(l1 l2 l3:Ge):Heap:=(z3b h l1 l2).push {cls:=.type "list_iterator",data:=.fields #[↑l3,.int 0 0]}
noncomputable abbrev z3d(h:Heap)(l1 l2 l3:Ge):Heap:=(z3c h l1 l2 l3).push {cls:=.type "tuple",data:=.seq #[↑h.objs.size,.ref (z3a h l1).objs.size,.ref (z3b h l1 l2).objs.size]}
noncomputable abbrev z3e(h:Heap)(l1 l2 l3:Ge):Heap:=(z3d h l1 l2 l3).push {cls:=.type "tuple",data:=.seq #[.none,.none,.none]}
noncomputable abbrev z3f(h:Heap)(l1 l2 l3:Ge):Heap:=(z3e h l1 l2 l3).push {cls:=.type "zip",data:=.fields #[.none,.bool Gx,.bool Gx,.ref (z3c h l1 l2 l3).objs.size,.ref (z3d h l1 l2 l3).objs.size]}
theorem ZO(a b c:Ge)(q r t:Array Gh):
  Meets (Builtin.«zip.__new__» {[.type "zip",↑a,↑b,↑c],[]}) (λ_ R s=>s.heap.IsList a q/\s.heap.IsList b r/\s.heap.IsList c t/\
   R (.ok (.ret (.ref (z3e s.heap a b c).objs.size))) {s with heap:=z3f s.heap a b c}):=
 .of_wp λp w A R s h=>by
  have(m,g,d,n,os):=s;have(j,k,l,h):=h;have o:=sub_zip;have e:BA (ME ⟨m,g,d,n,os⟩) a q:=j;have f:BA (ME {m.push {cls:=.type "list_iterator",data:=.fields #[↑a,.int 0 0]},g,d,n,os}) b r:=M3 k _;have i:BA (ME {(m.push {cls:=.type "list_iterator",data:=.fields #[↑a,.int 0 0]}).push {cls:=.type "list_iterator",data:=.fields #[↑b,.int 0 0]},g,d,n,os}) c t:=M3 (M3 l _) _;wp_walk using Fh e,Fh f,Fh i
  exact{0,h}
theorem Qnc{g:Gn}{w:Ti}{A:DW}{E:Gh->Gw->Prop}{s:Gw}{b d f:Ge}{B C D:Array Gh}{Q:Gh->Gw->Prop}(p:s.heap.IsList b B)(q:s.heap.IsList d C)(r:s.heap.IsList f D)
  (h:∀n,iJ n s.heap.objs.size b d f .none 0->(∀c o,s.heap.get? c/o->n.get? c/o)->Q (.ref (s.heap.objs.size+5)) {s with heap:=n}):
  wpAny (TV g w) A (call (.type "zip") [↑b,↑d,↑f]) Q E s:=by
 refine Ho F.called_zip (by decide) (F.Qej _ _ _) (F.OS _ _ _) (λn=>F.UD n _ _ _) F.entry_zip_new (ZO b d f B C D) {p,q,r,?_};have i:(z3a s.heap b).objs.size=s.heap.objs.size+1:=Ef ..;have j:(z3b s.heap b d).objs.size=s.heap.objs.size+2:=by rw[Ef,i]
 have k:(z3c s.heap b d f).objs.size=s.heap.objs.size+3:=by rw[Ef,j]
 have l:(z3d s.heap b d f).objs.size=s.heap.objs.size+4:=by rw[Ef,k]
 have t:(z3e s.heap b d f).objs.size=s.heap.objs.size+5:=by rw[Ef,l]
 have a:∀{h:Heap}{c:Ge}{o H:Lc},h.get? c/o->(h.push H).get? c/o:=λe=>Gm _ e;have m:(z3f s.heap b d f).get? (z3e s.heap b d f).objs.size/_:=Tc _ rfl;have z:(z3f s.heap b d f).get? (z3d s.heap b d f).objs.size/_:=a (Tc _ Xb);have y:(z3f s.heap b d f).get? (z3c s.heap b d f).objs.size/_:=a (a (Tc _ Xb));have v:(z3f s.heap b d f).get? (z3b s.heap b d).objs.size/_:=a (a (a (Tc _ Xb)));have u:(z3f s.heap b d f).get? (z3a s.heap b).objs.size/_:=a (a (a (a (Tc _ Xb))));have G:(z3f s.heap b d f).get? s.heap.objs.size/_:=a (a (a (a (a (Tc _ Xb)))));show _/\_;rw[k,l,t]at m;rw[i,j,k]at y;rw[l]at z;rw[j]at v;rw[i]at u;rw[t];exact{{_,m,1},h _ {m,y,{32,z},{_,G,11},{_,u,11},{_,v,11}} λc o x=>a (a (a (a (a (a x)))))}
end PySem
namespace L2
open PySem PySem.Spec PyProof.Rows
variable{n b:Nat}
theorem vals3{x y z:V}{d:List Gh}(r:Yh [x,y,z] d):∃c a b,d=[c,a,b]/\zv x c/\zv y a/\zv z b:=by
 cases r with
 |cons e r=>have(a,b,rfl,f,g):=vals2 r;exact{_,a,b,1,e,f,g}
theorem lL:b∈([n,n+1,n+2,n+3,n+4,n+5]:List Nat)↔n<=b/\b<=n+5:=by simp -iota only [Td,Ek,LW];ext
theorem Kt(h:¬b∈([n,n+1,n+2,n+3,n+4,n+5]:List Nat)):b<n\/n+5<b:=by rw[lL]at h;ext
theorem ne6(h:¬b∈([n,n+1,n+2,n+3,n+4,n+5]:List Nat)):b≠n+5:=by rw[lL]at h;ext
def lH(K:Gd)(a b c:Ge):It:=
 {λi H=>∃xs ys zs x y z,Vh K H a xs/\Vh K H b ys/\Vh K H c zs/\xs[i]?/x/\ys[i]?/y/\zs[i]?/z,λi H v H'=>∃t x y z,v=.ref t/\H t=Gp/\(∀xs,Vh K H a xs->xs[i]?/x)/\(∀ys,Vh K H b ys->ys[i]?/y)/\(∀zs,Vh K H c zs->zs[i]?/z)/\H'=zj H t (.tup [x,y,z]),λi H=>∃xs,Vh K H a xs/\⇑xs<=i}
theorem SL{P:Gn}{af:Ti}{K:Gd}{ab:List Ea}{k:Nat}{ae:MQ}(a b B n:Nat)(M:a<n)(d2:b<n)(d3:B<n):i0 P af K (.Tuple ab k ae) (lH K a b B) [n,n+1,n+2,n+3,n+4,n+5] (n+5) (λi h=>iJ h n a b B .none i) where
 mem:=by simp
 obj:=λi h g f d=>by
  have(E,z,(_,_,_,l),(J,m,_,u),(N,r,_,D),(O,t,_,I)):=g;simp -iota only [Td,Ek,LW]at d;rcases d with rfl|rfl|rfl|rfl|rfl|rfl
  .exact{_,m,λv c=>by rw[u]at c;cases c}
  .exact{_,r,λv c=>by rw[D]at c;cases c}
  .exact{_,t,λv c=>by rw[I]at c;cases c}
  .exact{_,z,λv c=>nomatch c}
  .exact{_,l,λv c=>nomatch c}
  .exact{_,E,λv c=>nomatch c}
 keep:=λi h h' g k=>g.keep λb E z o f=>k b (lL.mpr ⟨E,z⟩) o f
 item:=by
  intro X G hw F T i L s Z w aa e A g H;subst G hw F;have(xs,ys,zs,x,y,c,V,W,Y,N,O,Q):=H;have(t1,r1,p1,_):=e.list V;have(t2,r2,p2,_):=e.list W;have(t3,r3,p3,_):=e.list Y;have(r,g1,v1):=r1.get N;have(t,g2,v2):=r2.get O;have(u,g3,v3):=r3.get Q;refine QQ M d2 d3 g p1.isList p2.isList p3.isList (x:=r) (y:=t) (v:=u) (by simpa using g1) (by simpa using g2) (by simpa using g3) λh' l S hk=>{0,?_};refine wpAny_letOwnedTupleGo_zip l.z λD ad J=>?_;have I:n+5<s.heap.objs.size:=Tn g.z;have ag:D.get? s.heap.objs.size=Ga {cls:=.type "tuple",data:=.seq #[r,t,u]}:=(J.2 _ (DC I)).trans S;have ac:w s.heap.objs.size=Gp:=e.Yc.fresh (Gy _);have I1:zx X L Z (zj w s.heap.objs.size (.tup [x,y,c])) {s with heap:=s.heap.push {cls:=.type "tuple",data:=.seq #[r,t,u]},toks:=s.toks}:=
   e.laid (a:=s.heap.objs.size) (o:=.tup [x,y,c]) (t':=s.toks) (λ_ _ q=>Gm _ q) (Gy _) {Vb,[r,t,u],.cons v1 (.cons v2 (.cons v3 .nil)),_,Tc _ Xb,10}
  have R:∀b∈[n,n+1,n+2,n+3,n+4,n+5],iq X L (zj w s.heap.objs.size (.tup [x,y,c])) b:=λb d=>by
   have I:(b:Nat)<s.heap.objs.size:=by have:=lL.mp d;ext
   refine{?_,(A b d).2};rw[Qh (T9 I)];exact(A b d).1
  have I2:=I1.turns (h':=D) (t':=s.toks) (fp:=[n,n+1,n+2,n+3,n+4,n+5]) (λb o d C=>?_) R
  .refine{↑s.heap.objs.size,_,I2,1,{_,x,y,c,1,ac,λU j=>by rw[e.Jv j V];exact N,λU j=>by rw[e.Jv j W];exact O,λU j=>by rw[e.Jv j Y];exact Q,1},?_,λb d=>(R b d).1};have m:∀b,n<=b->b<=n+4->∀o,h'.get? b/o->D.get? b/o:=λb _ z o f=>(J.2 b (show(b:Nat)≠n+5 by ext)).trans f;have(a1,b1,c1,e4):=l.to;exact{ad,m _ ∅ ∅ _ l.ti,{a1,b1,c1,m _ ∅ ∅ _ e4},l.i1.at λo f=>m _ ∅ ∅ o f,l.i2.at λo f=>m _ ∅ ∅ o f,l.i3.at λo f=>m _ ∅ ∅ o f}
  .have U:(b<n\/n+5<b:Prop):=Kt d;refine(J.2 b (ne6 d)).trans ?_;rcases NK (show(s.heap.push {cls:=.type "tuple",data:=.seq #[r,t,u]}).get? b/o from C)with⟨rfl,rfl⟩|m
   .exact S
   .exact hk b o U m
 done:=by intro X G hw F T i L s Z w aa e A g H;subst G hw F;have(xs,l,t):=H;have(D,r,p,u):=e.list l;have j:=⇑r;refine K0 (e.ok.hd T) M g p.isList (Ed (by rw[Ts];ext)) λh' m=>{1,?_};exact e.turns (t':=s.toks) (fp:=[n,n+1,n+2,n+3,n+4,n+5]) (λb o d C=>m b o (Kt d) C) A
 self:=λ_ _ _ _ _ g h=>M1 g.z h
inductive uD(K:Gd)(R:It->Hp->Prop)(vs:List V)(H1:Hp):Prop
 |mk (a:_) (b:_) (c:_) (xs:_) (ys:_) (zs:_) (h0:vs=[↑a,↑b,↑c]) (h1:Vh K H1 a xs) (h2:Vh K H1 b ys) (h3:Vh K H1 c zs) (h4:R (lH K a b c) H1):uD K R vs H1
def XT(K:Gd)(ta:TA):TI:=λσ H R=>ta σ H λa H1=>uD K R a H1
theorem Qzf{X:Cx}{j:List Ea}{k:Nat}{m:MQ}{a b c:Ea}{C:TA}{p g:MQ}(S:Gl X "zip")(U:X.mg "zip"=Gp)(O:PA X [a,b,c] C)(Q:T8 [a,b,c] X.env=(Gx,eval a X.env)::T8 [b,c] X.env:=by rfl)
  (V:(Se g (T8 [b,c] X.env)).any (·.1)=Gx:=by rfl):PI X (.Tuple j k m) (.Call (.Name "zip" p) [a,b,c] [] g) (XT X.K C):=by
 intro d s D H R I h;refine IM (Uk I S U boot_zip (Eo (Xf (O g d s D H _ I h) λus f zz=>?_) Q V));have(vs,x,i,Y,W):=zz;have(n,r,t,xs,ys,zs,e,L,M,N,q):=W;subst e;have(Z,u2,u3,rfl,u,v,w):=vals3 Y;cases(show Z=Tq n from u);cases(show u2=Tq r from v);cases(show u3=Tq t from w);have(_,_,z,_):=i.list L;have(_,_,A,_):=i.list M;have(_,_,B,_):=i.list N;have F:n<f.heap.objs.size:=by have(_,e,_):=z.isList;exact Tn e
 have G:r<f.heap.objs.size:=by have(_,e,_):=A.isList;exact Tn e
 have J:t<f.heap.objs.size:=by have(_,e,_):=B.isList;exact Tn e
 refine Qnc z.isList A.isList B.isList λK y T=>?_;have E:zx X d D x {f with heap:=K,toks:=f.toks}:=i.kept λb o e=>T b o e;refine M1 y.z {f.heap.objs.size+5,32,x,1,E,SL n r t f.heap.objs.size F G J,y,λe P=>?_,q};have l:f.heap.objs.size<=e:=(lL.mp P).1;exact i.jq l (i.Yc.fresh l)
theorem XS{K:Gd}{a b c:Ge}{xs ys zs:List V}{g:TG}{q:TS}{D:Ends}{d:St}{H:Hp}(C:⇑ys=⇑xs)(E:⇑zs=⇑xs)(h:Nat->St->Hp->Prop)(r:h 0 d H)
  (u:∀i d H,i<=⇑xs->h i d H->Vh K H a xs/\Vh K H b ys/\Vh K H c zs)
  (hs:∀i x y z t d H,xs[i]?/x->ys[i]?/y->zs[i]?/z->h i d H->H t=Gp->g ↑t d (zj H t (.tup [x,y,z])) λl H2=>q {D with nx:=h (i+1),ct:=h (i+1),bk:=D.nx} l H2)
  (s:∀d H,h ⇑xs d H->D.nx d H):
  ∃W:Nat->Nat->St->Hp->Prop,(∃m,W 0 m d H)/\∀i m d H,W i m d H->((lH K a b c).stop i H/\D.nx d H)\/((lH K a b c).go i H/\∃N:St->Hp->Prop,(∀k j,N k j->∃e,e<m/\W (i+1) e k j)/\∀x j,(lH K a b c).yld i H x j->g x d j λl H2=>q {D with nx:=N,ct:=N,bk:=D.nx} l H2):=by
 exists λi m d H=>m=⇑xs - i/\i<=⇑xs/\h i d H,{0,Tw _,r};rintro i m d H ⟨rfl,hi,pv⟩;have(n,o,p):=u i d H hi pv;by_cases f:i<⇑xs
 .refine .inr {{xs,ys,zs,xs[i],ys[i],zs[i],n,o,p,by simp -iota [f],by simp -iota [C,f],by simp -iota [E,f]},h (i+1),λk j F=>{⇑xs - (i+1),by ext,1,f,F},λv j y=>?_};have(t,x,y,z,rfl,e,w,A,B,rfl):=y;exact hs i x y z t d H (w xs n) (A ys o) (B zs p) pv e
 .have e:i=⇑xs:=by ext
  subst e;exact .inl {{xs,n,Gy _},s d H pv}
end L2
namespace K04
open PySem L2 Sb Nt
variable{ts:List Th}{f0:Ge}{fd:Du}
def Ord(ts:List Th):Prop:=∀(j:Nat)t,ts[j]?/t->∀p∈t.parts,p∈ts.take j
theorem AJ:Ord []:=λj t e=>by simp at e
theorem um{b c:List Th}(f:Ord b)(g:∀(j:Nat)t,c[j]?/t->∀p∈t.parts,p∈b\/p∈c.take j):Ord (b++c):=λj u e p d=>by
 rw[List.take_append,Gi];rcases Dn j ⇑b with a|a
 .rw[Tz a]at e;exact .inl (f j u e p d)
 .rw[Dc a]at e;rcases g _ u e p d with z|z
  .exact .inl (by rw[List.take_of_length_le a];exact z)
  .exact .inr z
theorem As{t:Th}(h:Ord ts)(b:∀p∈t.parts,p∈ts):Ord (ts++[t]):=um h λj u e p a=>by
 cases j with
 |zero=>cases e;exact .inl (b p a)
 |succ j=>simp at e
theorem qu:∀(d a:List Th),Ord a->(∀(k:Nat)x,d[k]?/x->∀p∈x.parts,p∈a\/p∈d.take k)->Ord (Xe a d)
 |[],a,h,_=>h
 |x::r,a,h,f=>by
  rw[J9];have g:∀p∈x.parts,p∈a:=λp b=>(f 0 x rfl p b).resolve_right ⋯;by_cases c:x∈a
  .rw[GY c];refine qu r a h λk y e p b=>?_;rcases f (k+1) y (by simpa using e) p b with z|z
   .exact .inl z
   .rw[SU]at z;rcases Td.mp z with z|z
    .rw[z];exact .inl c
    .exact .inr z
  .rw[Gu c];refine qu r _ (As h g) λk y e p b=>?_;rcases f (k+1) y (by simpa using e) p b with z|z
   .exact .inl (Gv _ z)
   .rw[SU]at z;rcases Td.mp z with z|z
    .rw[z];exact .inl (TL _ G8)
    .exact .inr z
mutual
theorem wH:∀t:Th,Ord t.inside
 |.mk w b=>by simp only[Th.inside];refine As (uE b) λp a=>?_;simp only[Th.parts]at a;rw[Xw,Ey];exact{p,a,sU p}
theorem uE:∀b:List Th,Ord (Zh b)
 |[]=>by simp only[Zh];exact AJ
 |t::r=>by simp only[Zh];exact um (wH t) λj u e p a=>.inr (uE r j u e p a)
end
theorem UR(t:Th)(h:Ord ts):Ord (Xe ts t.inside):=qu _ _ h λk x e p a=>.inr (wH t k x e p a)
def Q93(a:List Th):List Nat->List Th->Prop:=Dm λ(j:Nat)(t:Th)=>a[j]?/t
inductive A3(vs:List V)(H:Hp)(Q:VK):Prop
 |mk (R:Ge) (l:Ge) (es:List V) (us:List V) (rs:List Row) (S:List Th) (ts:List Th) (U:List Th) (L:Th->Nat) (h0:vs=[↑R,↑l]) (h1:iN H R es rs) (h2:mo S L rs) (h3:H l/.lst us) (h4:Zq H us ts) (h5:(∀t∈ts,t∈S/\t∈U)) (h6:iO U) (h7:⇑ts<=1000) (h8:∀(r:Ge)(H':Hp),Q5 H H'->H' r/.lst (ts.map λt=>jv (L t))->Q ↑r H'):A3 vs H Q
def Kr:Sp:=λa H Q _=>A3 a H Q
theorem Q7z:(["thing","places"]:List TQ).Nodup:=by decide+kernel
theorem Q6u:(["part","numbers"]:List TQ).Nodup:=by decide+kernel
theorem OR:(["place","numbers"]:List TQ).Nodup:=by decide+kernel
section
variable{P:Gn}{w:Ti}{K:Gd}{mg:TQ->Option Gh}{base:Heap}
theorem yQ:Q4 ["rows","things","places","asked","table","numbers","word","parts"] ["rows","things"] (Qm Wq):=by eq_refl
theorem VH{fI fO fR fN l:Ge}{dI dO dR dN:Du}(F:Wc K "numbers_of" "numbers_of" Wq f0 fd)(TP:iC K mg l)(aG:Mk K l fI)(GI:Qz P w K mg base Z4 1 fI dI ["self"] (qI P w l))(bI:zk K dI ["self"] [])
  (mO:Ym K l "place_of" fO)(GO:Qz P w K mg base Z4 52 fO dO ["self","thing"] (Ob P w l))(bO:zk K dO ["self","thing"] [])
  (GR:Qz P w K mg base Z4 1 fR dR ["rows"] (zf P w))(kR:KI K fR)(bR:zk K dR ["rows"] [])(mR:MG mg "row_table" fR)
  (GN:Qz P w K mg base Z4 1 fN dN ["table","word","numbers"] (yl P w))(kN:KI K fN)(bN:zk K dN ["table","word","numbers"] [])(mN:MG mg "number_in" fN):
  Qz P w K mg base Z4 53 f0 fd ["rows","things"] Kr:=by
 refine F.ok yQ (λT C Q n Z=>?_) (λar aq au s C T Q n hr Z=>?_)
 .obtain⟨R,ah,es,us,O,S,ts,av,u,rfl,_⟩:=Z;rfl
 have(R,ah,es,us,O,S,ts,av,u,rfl,hR,W,hl,az,aM,hU,aV,q):=Z;have M:=yQ.nd;have J:Yd 2 _:=hr.mono ∅;have ay:Yd 1 _:=hr.mono ∅;have aP:=⇑az;show∃t,Wf ?my _ t/\_;let w6:Vr ?my Wq 5:=⟨_,Qg (Qu (Wm (own:=["place"]) (fv:=[(5,"numbers")]) rfl (S:=(by eq_refl:Xm (Qm Wq) _)) (.cons rfl (DG Xb) rfl .nil) (Z6 {3})
   (λ_ _ _ _ _=>Z5 (i:=0) OR rfl (DG Xb) (Ez Xb)) (λ_ _ _ _ _=>Xk) (λ_ _ _ _ _=>(Qn (r:=m9 K) Q9 {1} {0}))))⟩
 let w5:Vr ?my Wq 4:=⟨_,Qc (Z9 To rfl (Z6 (Qx {2})) (Wi rfl (Zb (Zv 6 M) (Zb (Zv 7 M) Xt)))
   (Qg (Zl (Xx Te Tx TB Z0 {5} (Qa (Ze GN ay rfl mN kN bN .nil Q7 (Qa {4} (Qa {6} (Qa
    (Wm (own:=["part"]) (fv:=[(5,"numbers")]) rfl (S:=(by eq_refl:Xm (Qm Wq) _)) (.cons rfl (DG Xb) rfl .nil) (Ui {7})
     (λ_ _ _ _ _=>Z5 (i:=0) Q6u rfl (DG Xb) (Ez Xb)) (λ_ _ _ _ _=>Xk) (λ_ _ _ _ _=>(Qn (r:=m9 K) Q9 {1} {0}))) Qe)))) Qe))))) w6.2⟩
 let w4:Vr ?my Wq 3:={_,Qc (W8 (i:=5) M rfl (Ez Xb) (Zz Qe)) w5.2}
 let w3:Vr ?my Wq 2:={_,Qc (Q3 4 M (Ze GR ay rfl mR kR bR .nil Q7 (Qa {0} Qe))) w4.2}
 let w2:Vr ?my Wq 1:=⟨_,Qc (V8 (i:=3) (te:=kY l "place_of" (Ob P w l) [] E0 (Vi 1) (jb (Vi 0) jB)) (own:=["thing"]) (fv:=[(2,"places")]) M rfl rfl rfl (S:=(by eq_refl:Xm (Qm Wq) _)) (.cons rfl (DG Xb) rfl .nil)
   (Z6 {1}) (λ_ _ _ _ _=>Z5 (i:=0) Q7z rfl (DG Xb) (Ez Xb)) (λ_ _ _ _ _=>Xk) (λ_ _ _ _ _=>Zk {1} TP.cl mO GO hr bO .nil Q7 (Qa {0} Qe))) w3.2⟩
 exists _,Qc (W8 (i:=2) M rfl (Ez Xb) (nR aG GI J rfl TP.mgC bI .nil Q7)) w2.2;intro v dx ag aK al;have s0:Q5 C (zj (zj C dx (.own v)) v (.ins l dx [])):=λaw N G=>Ql (Ql G (Qd G aK)) (Qd G ag);refine{v,dx,1,Qb,λa H d H1 P1 k1 ha hf hd=>{1,?_}};have g1:Q5 C H1:=λX N h=>k1 X N (s0 _ _ h) (Qd h ag);have aI:=s0.free ha;have aL:=s0.free hf;have aJ:=s0.free hd;refine{0,ah,1,{_,Qi (g1 _ _ hl)},λr ac=>?_};have s2:=Qf ac (.lst []);ac_nf;have(ua,u1,_):=P1.th;have(wa,w1,_):=P1.fo;have(aX,d1,_):=P1.kn;intros;have ra:r≠a:=GQ (Qd u1 ac);have rf:r≠H:=GQ (Qd w1 ac);have rd:r≠d:=GQ (Qd d1.at_ ac);refine Ve (K:=K) (a:=ah) (xs:=us) (small ∅) (λi f c U=>jc λ(z:Option V)(e:List Th)(E:List Nat)=>jD (c=[z,Ga ↑v]) (Pl P w l U v a H d e) (Ord e) (∀t∈e,t∈S/\t∈av) (Q5 C U) (f=E.map jv) (Q93 e E (ts.take i)))
  {_,[],[],1,P1.same s2,AJ,(λt ht=>nomatch ht),g1.trans s2,1,by simp;exact .nil} (by rintro i f c U _ ⟨_,_,_,_,_,_,_,n,_⟩;exact Qi (n _ _ hl)) ?_ ?_
 .rintro i y f c U hi ad ⟨z,e,E,rfl,D,o2,ae,Y,rfl,pj⟩ J;ac_nf;have(t,B,hy):=az.get hi;have(ao,ap):=D.ob;have(tS,tU):=aM t (Gc B);intros;have n:=hU.good t tU;have lp:⇑e<=60:=Dj (sr D.nd λp b=>(ae p b).2) hU.len;refine{0,v,ao,0,ap,UU _ _ _,0,v,y,t,a,H,d,e,1,D,hy.same Y,n.1,by have:=n.2.1;ext,by have:=n.2.2;ext,λj H3 P3 e3 Q=>?_};have T:=Q.keep _ _ J ra rf rd;have an:Uo S:=AQ W.cl;exists T,2,E++[j],1,P3.but T ra rf,UR t o2,λp b=>?_,λX N h=>Ql (Q.keep X N (Y _ _ h) (Qd h aI) (Qd h aL) (Qd h aJ)) (Qd h (g1.free ac)),⋯
  .rw[oe]at b;rcases b with b|b
   .exact ae p b
   .exact{an t tS p b,hU.cl t tU p b}
  .rw[Tt,B];exact Yx (Qr pj λ_ _ Z=>pk Z) (.cons e3 .nil)
 rintro f c U ad ⟨z,e,E,rfl,D,o2,ae,Y,rfl,pj⟩ J;rw[aP,Tu]at pj;refine{0,R,es,O,1,hR.same Y,λtb H3 g3 aW Tb=>?_};have ax:=Y.trans g3;have P3:=D.same g3;refine{Tw _,λg aa=>?_};have s4:=Qf aa (.lst []);have P4:=P3.same s4;have T4:=Tb.same s4;have r4:=s4 _ _ (g3 _ _ J);have g4:=ax.trans s4;have(aH,aS):=P4.ob;have(ws,f4,fw):=P4.fo;have nf:H≠g:=λaf=>by have(Q,n,_):=P3.fo;rw[af,aa]at n;cases n
 have nr:r≠g:=Qd (g3 _ _ J) aa;have aR:tb≠g:=λaf=>by have(aA,_,h1,_):=Tb;have:=h1.at_;rw[af,aa]at this;cases this
 have aQ:⇑ws=⇑e:=by have:⇑ws=⇑(e.map (fm e)):=GJ fw;rwa[Gq]at this
 have lp:⇑e<=60:=Dj (sr D.nd λp b=>(ae p b).2) hU.len;have aB:(zj H3 g (.lst [])) g/.lst []:=Qb;generalize zj H3 g (.lst [])=H4 at*;have aN:C g=Gp:=ax.free aa;let aT:Nat->St->Hp->Prop:=λk c m=>jT λ(x6 x7:Option V)=>j8 (c=[Ga ↑R,Ga ↑ah,Ga ↑v,Ga ↑r,Ga ↑tb,Ga ↑g,x6,x7]) (Rb g H4 m) (m g/.lst (((e.take k).map u).map jv))
 refine⟨_,Xb,v,l,aH,_,_,Xb,aS,TP.cl,TP.nF,ph _ _ _,H,Xb,{_,Qi f4},Yv (K:=K) (a:=H) (xs:=ws) aT
  {30,Rb.refl,by simpa using aB} (by rintro k c m _ ⟨_,_,_,A,_⟩;exact Qi (A _ _ f4 nf)) ?_ ?_⟩
 .rintro k x c m hk ⟨x6,x7,rfl,A,L⟩;ac_nf;have(fk,ek,aw,G,rfl,hc,he):=Qy fw hk;intros;rw[Ta]at ek;have(t,B,rfl):=Ew.mp ek;have tu:Q8 H4 m:=A.Qv aB (λxs af=>by cases af);have aD:=tu _ _ hc;have ai:=tu _ _ he;have(tS,tU):=ae t (Gc B);have aF:=o2 k t B;have ag:∀p∈t.parts,e.idxOf p<k/\(e.take k)[e.idxOf p]?/p:=λp b=>by
   have(j,I):=Dh.mp (aF p b);have n:j<k:=by have:=(Gg.mp I).1;rw[Dq]at this;ext
   rw[Dx n]at I;have ix:=Rq D.nd I;rw[ix,Dx n];exact⟨n,I⟩
  have aC:=hU.good t tU;have aU:=Aw aC;exists aw,0,Qk aD,130301;refine{0,.inl {13,Qi L},000,G,1,{_,Qk ai},λp b=>?_};refine Ja (K:=K) (a:=G) (xs:=(fm e t).2.map jv) (small (by simp only[fm,Gq];ext)) (λi f c o=>(∃z,c=[z,Ga ↑g])/\f=((t.parts.take i).map u).map jv/\o=zj m p (.lst f)) {{40},by simp,1} (by rintro i f c o _ ⟨_,_,e'⟩;exact Qk (by rw[e'];exact Qf b _ _ _ ai)) ?_ ?_
  .rintro i y f c o hi ad ⟨⟨z,rfl⟩,rfl,rfl⟩ am;rw[Ta,Ew]at hi;have(ix,n,rfl):=hi;simp only[fm,Ta,Ew]at n;have(pp,Q,rfl):=n;have(_,e2):=ag pp (Gc Q);refine{00,g,201,Qi (Qf b _ _ _ L),Zi (by rw[Ta,Ta,e2];rfl),am,{40},?_,by rw[X9]};rw[Tt,Q];simp
  rintro f c o ad ⟨_,rfl,rfl⟩ ab;have aE:⇑((fm e t).2.map jv)=⇑t.parts:=by simp only[fm,Gq]
  rw[aE,Tu]at ab⊢;have T:=Qf b (.lst ((t.parts.map u).map jv));have T6:jC P w (zj m p (.lst ((t.parts.map u).map jv))) tb ⇑O O:=by have(aA,n,h1,Q):=T4;exact{aA,n,{T _ _ (A _ _ h1.at_ aR),Zf (tu.trans (Q8.of T)) h1.keys},Q}
  have aj:=W.mem t tS;refine{tb,p,t.word,t.parts.map u,⇑O,O,(t.word,t.parts.map u,u t),1,T6,hR.nd,aj,11,hR.ok _ aj,by rw[Gq];ext,ab,λH7 s7=>?_};have ak:=T.trans s7;have n7:=ak _ _ L;exists g,301,n7,(by rw[TD,Gq,Gq,Dq];ext);exists 30,λX N hb al=>?_
  .rw[Qh al];exact ak _ _ (A _ _ hb al)
  .rw[Qb,Tt,B];simp
 rintro c m ⟨x6,x7,rfl,A,L⟩;rw[aQ,Tu]at L;have g5:Q5 C m:=λX N h=>A _ _ (g4 _ _ h) (Qd h aN);have r5:=A _ _ r4 nr;have aO:⇑E=⇑ts:=GJ pj;refine{0,r,1,{_,Qi r5},λp b=>?_};refine Ve (K:=K) (a:=r) (xs:=E.map jv) (small (by rw[Gq];ext)) (λi f c o=>(∃z,c=[z,Ga ↑g])/\f=(ts.take i).map (λt=>jv (u t))/\o=zj m p (.lst f)) {{40},by simp,1} (by rintro i f c o _ ⟨_,_,e'⟩;exact Qi (by rw[e'];exact Qf b _ _ _ r5)) ?_ ?_
 .rintro i y f c o hi ad ⟨⟨z,rfl⟩,rfl,rfl⟩ am;rw[Ta,Ew]at hi;ac_nf;have(j,I,rfl):=hi;have(t,B,n):=Qy pj I;intros;refine{00,g,201,Qi (Qf b _ _ _ L),Zi (by rw[Ta,Ta,n];rfl),am,{40},?_,by rw[X9]};rw[Tt,B];simp
 rintro f c o ad ⟨_,rfl,rfl⟩ ab;rw[Gq,aO,Tu]at ab⊢;exact q p _ (g5.trans (Qf b _)) ab
inductive vP(vs:List V)(H:Hp)(Q:VK):Prop
 |mk (R:Ge) (a:Ge) (es:List V) (us:List V) (rs:List Row) (S:List Th) (U:List Th) (L:Th->Nat) (tl:Tl) (h0:vs=[↑R,↑a]) (h1:iN H R es rs) (h2:mo S L rs) (h3:H a/.lst us) (h4:J0 H us tl) (h5:(∀p∈tl,p.2.1∈S/\p.2.2∈S/\(L p.2.1=L p.2.2↔p.1=Gk))) (h6:(∀p∈tl,p.2.1∈U/\p.2.2∈U)) (h7:iO U) (h8:⇑tl<=1000) (h9:∀H':Hp,Q5 H H'->Q (.bl Gk) H'):vP vs H Q
def yR:Sp:=λa H Q _=>vP a H Q
theorem kX:(["kind","one","other"]:List TQ).Nodup:=by decide+kernel
theorem Ke:Q4 ["rows","told","ones","others","entry","first","second"] ["rows","told"] (Qm Rk):=by eq_refl
theorem OM{X:Ge}{dN:Du}(F:Wc K "holds" "holds" Rk f0 fd)(ap:Ie mg)
  (GN:Qz P w K mg base Z4 53 X dN ["rows","things"] Kr)(kN:KI K X)(bN:zk K dN ["rows","things"] [])(mN:MG mg "numbers_of" X):
  Qz P w K mg base Z4 54 f0 fd ["rows","told"] yR:=by
 refine F.ok Ke (λG r E o Z=>?_) (λan am ao s r G E o hr Z=>?_)
 .obtain⟨R,a,U,n,rs,S,Q,b,h,rfl,_⟩:=Z;rfl
 have(R,a,U,n,rs,S,Q,b,h,rfl,hR,W,m,L,Y,aj,hU,ag,q):=Z;have z:=Ke.nd;have M:⇑n=⇑h:=GJ L;show∃t,Wf ?my _ t/\_;let w4:Vr ?my Rk 3:={_,Qg (Qu Z7)}
 let w3:Vr ?my Rk 2:=⟨_,Qc (Z9 To rfl (Qzf rfl ap.zip (Qa {1} (Qa {2} (Qa {3} Qe)))) (Wi rfl (Zb (Zv 4 z) (Zb (Zv 5 z) (Zb (Zv 6 z) Xt))))
   (Qg (Zc (Qo X7 (Wz Xy {5} {6} (Qs _)) (Wz Xy (Qn Qt {4} Qj) Zo (Qs _)) (Qs _)) (Qg (Qu Z7)) Qw))) w4.2⟩
 let w2:Vr ?my Rk 1:=⟨_,Qc (Q3 3 z (Ze GN hr rfl mN kN bN .nil Q7 (Qa {0} (Qa (Wm (te:=Vi 2) (g:=mz K 3 (R5 (Wt 0) (R5 (Wt 1) (R5 (Wt 2) lO)))) (own:=["kind","one","other"]) (fv:=[]) rfl (S:=(by eq_refl:Xm (Qm Rk) _)) .nil (Z6 {1})
   (λ_ _ _ _ _=>Wi rfl (Zb (Z5 (i:=0) kX rfl (DG Xb) (Ez Xb)) (Zb (Z5 (i:=1) kX rfl (DG Xb) (Ez Xb)) (Zb (Z5 (i:=2) kX rfl (DG Xb) (Ez Xb)) Xt)))) (λ_ _ _ _ _=>Xk) (λ_ _ _ _ _=>{2})) Qe)))) w3.2⟩
 exists _,Qc (Q3 2 z (Ze GN hr rfl mN kN bN .nil Q7 (Qa {0} (Qa (Wm (te:=Vi 1) (g:=mz K 3 (R5 (Wt 0) (R5 (Wt 1) (R5 (Wt 2) lO)))) (own:=["kind","one","other"]) (fv:=[]) rfl (S:=(by eq_refl:Xm (Qm Rk) _)) .nil (Z6 {1})
   (λ_ _ _ _ _=>Wi rfl (Zb (Z5 (i:=0) kX rfl (DG Xb) (Ez Xb)) (Zb (Z5 (i:=1) kX rfl (DG Xb) (Ez Xb)) (Zb (Z5 (i:=2) kX rfl (DG Xb) (Ez Xb)) Xt)))) (λ_ _ _ _ _=>Xk) (λ_ _ _ _ _=>{1})) Qe)))) w2.2
 have ax:∀(H1:Hp)(g:V×V->V)(o:(Bool×Th×Th)->Th),Q5 r H1->True:=λ_ _ _ _=>trivial;refine{00,a,1,{_,Qi m},λp1 aa=>?_};refine Ve (K:=K) (a:=a) (xs:=n) (small ∅) (λi ys c H=>(∃B C D,c=[B,C,D])/\Zq r ys ((h.take i).map (·.2.1))/\H=zj r p1 (.lst ys)) {{420},by simp;exact .nil,1} (by rintro i ys c H _ ⟨_,_,d⟩;exact Qi (by rw[d];exact Qf aa _ _ _ m)) ?_ ?_
 .rintro i y ys c H hi au ⟨⟨B,C,D,rfl⟩,T,rfl⟩ ab;ac_nf;have((e,x,k),j,l,v1,v2,rfl,u,t1,t2):=Qy L hi;intros;exists l,0,Qk (Qf aa _ _ _ u),13030301;refine{0,ab,{420},?_,by rw[X9]};rw[Tt,j,T3];exact T.append (.one t1)
 rintro ak c H az ⟨_,ae,rfl⟩ ab;rw[M,Tu]at ae;have s1:=Qf aa (.lst ak);refine{R,p1,U,ak,rs,S,h.map (·.2.1),Q,b,1,hR.same s1,W,ab,ae.same s1,λt ht=>?_,hU,by rw[Gq];exact ag,λr1 H3 g3 ar=>?_}
 .obtain⟨p,v,rfl⟩:=Tv.mp ht;exact{(Y p v).1,(aj p v).1}
 have N:=s1.trans g3;refine{00,a,1,{_,Qi (N _ _ m)},λp2 ac=>?_};refine Ve (K:=K) (a:=a) (xs:=n) (small ∅) (λi ys c I=>(∃B C D,c=[B,C,D])/\Zq r ys ((h.take i).map (·.2.2))/\I=zj H3 p2 (.lst ys)) {{420},by simp;exact .nil,1} (by rintro i ys c I _ ⟨_,_,d⟩;exact Qi (by rw[d];exact Qf ac _ _ _ (N _ _ m))) ?_ ?_
 .rintro i y ys c I hi au ⟨⟨B,C,D,rfl⟩,T,rfl⟩ ad;ac_nf;have((e,x,k),j,l,v1,v2,rfl,u,t1,t2):=Qy L hi;intros;exists l,0,Qk (Qf ac _ _ _ (N _ _ u)),13030301;refine{0,ad,{420},?_,by rw[X9]};rw[Tt,j,T3];exact T.append (.one t2)
 rintro al c I aA ⟨_,af,rfl⟩ ad;rw[M,Tu]at af;have s4:=Qf ac (.lst al);have sB:=N.trans s4;refine{R,p2,U,al,rs,S,h.map (·.2.2),Q,b,1,hR.same sB,W,ad,af.same sB,λt ht=>?_,hU,by rw[Gq];exact ag,λr2 H5 g5 ai=>?_}
 .obtain⟨p,v,rfl⟩:=Tv.mp ht;exact{(Y p v).2.1,(aj p v).2}
 have O:=sB.trans g5;have ah:=g5 _ _ (s4 _ _ ar);let av:Nat->St->Hp->Prop:=λi c J=>jc λ(x4 x5 x6:Option V)=>kU (c=[Ga ↑R,Ga ↑a,Ga ↑r1,Ga ↑r2,x4,x5,x6]) (Q5 H5 J)
 refine⟨_,Xb,_,Xb,_,Xb,a,r1,r2,n,_,_,Xb,Qi (O _ _ m),Qi ah,Qi ai,XS (K:=K) (xs:=n) (ys:=(h.map (·.2.1)).map λt=>jv (b t)) (zs:=(h.map (·.2.2)).map λt=>jv (b t)) (by rw[Gq,Gq,M]) (by rw[Gq,Gq,M]) av
  {20,λ_ _ d=>d} (by rintro i c J _ ⟨_,_,_,_,f⟩;exact{Qi ((O.trans f) _ _ m),Qi (f _ _ ah),Qi (f _ _ ai)}) ?_ (by rintro c J ⟨_,_,_,d,f⟩;subst d;exact q _ (O.trans f))⟩
 rintro i x y aw t c J hx hy hz ⟨x4,x5,x6,rfl,f⟩ ht;ac_nf;have((e,A,k),j,l,v1,v2,rfl,u,t1,t2):=Qy L hx;have(xS,yS,iff):=Y _ (Gc j);intros;have ey:y=jv (b A):=by rw[Ta,Ta,j]at hy;exact(T1 hy).symm
 have ez:aw=jv (b k):=by rw[Ta,Ta,j]at hz;exact(T1 hz).symm
 subst ey ez;have s7:=Qf ht (.tup [↑l,jv (b A),jv (b k)]);have aq:=s7 _ _ (f _ _ (O _ _ u));exists t,0,Qk Qb,13030301;exists 0010,l,201,Qk aq,Yo,110;have eq:decide (V.bl (decide (jv (b A)=jv (b k)))=V.bl (decide (V.str (tw e)=V.str "same")))=Gk:=by
  have E:decide (V.str (tw e)=V.str "same")=e:=by rw[Zp,qq]
  have G:decide (jv (b A)=jv (b k))=e:=by
   unfold jv;rw[Uw];by_cases d:b A=b k
   .have o:e=Gk:=iff.mp d;rw[d,o];simp
   .have:e=Gx:=by
     cases e
     .rfl
     .exact absurd (iff.mpr Xb) d
    rw[this];simp;ext
  rw[E,G];exact Tk rfl
 rw[eq];exact Q6 {20,f.trans s7}
end
open PySem L2 Sb
inductive vG(vs:List V)(H:Hp)(Q:VK):Prop
 |mk (a:Ge) (e:Ge) (cc:Ge) (us:List V) (tl:Tl) (v1:V) (v2:V) (lv:V) (b:Bool) (x:Th) (y:Th) (s:Th) (t:Th) (n:Nat) (ls:List Lt) (r:Lr) (h0:vs=[↑a,↑e,↑cc]) (h1:H a/.lst us) (h2:J0 H us tl) (h3:iy (tl++[(b,x,y)])) (h4:⇑tl<=10) (h5:H e/.tup [.str (tw b),v1,v2]) (h6:Z8 H v1 x) (h7:Z8 H v2 y) (h8:H cc/.tup [.str "clash",jv n,lv]) (h9:oQ (tl++[(b,x,y)]) (tl++[(b,x,y)]) n s t) (h10:Wk H i8 lv ls) (h11:kg (tl++[(b,x,y)]) Gp ls) (h12:ls.getLast?/(s,t,r)) (h13:∀H':Hp,Q5 H H'->Q (.bl Gk) H'):vG vs H Q
def xh:Sp:=λa H Q _=>vG a H Q
theorem VS:(("clash":TQ)=="clash")=Gk:=by decide+kernel
section
variable{P:Gn}{w:Ti}{K:Gd}{mg:TQ->Option Gh}{base:Heap}
theorem xX:Q4 ["_law_told","_law_deed","_law_found","_law_every","_law_leaders","_law_word","_law_one","_law_other","_law_pair"] ["_law_told","_law_deed","_law_found"] (Qm sg):=by eq_refl
theorem XZ{R Q O:Ge}{dS dH dC:Du}(F:Wc K "_law_clash_shown" "_law_clash_shown" sg f0 fd)(l:hJ mg)
  (GC:Qz P w K mg base Z4 1 O dC ["_law_told","_law_things"] (vL P w))(kC:KI K O)(bC:zk K dC ["_law_told","_law_things"] [])(mC:MG mg "_law_classes" O)
  (GS:Qz P w K mg base Z4 3 R dS ["_law_told","_law_lines","_law_one","_law_other","_law_pair"] tz)(kS:KI K R)(bS:zk K dS ["_law_told","_law_lines","_law_one","_law_other","_law_pair"] [])(mS:MG mg "_law_lines_show" R)
  (GH:Qz P w K mg base Z4 1 Q dH ["_law_found"] (lj K))(kH:KI K Q)(bH:zk K dH ["_law_found"] [])(mH:MG mg "_law_whole" Q):
  Qz P w K mg base Z4 4 f0 fd ["_law_told","_law_deed","_law_found"] xh:=by
 refine F.ok xX (λu H j e S=>?_) (λB v C D H u j e U S=>?_)
 .obtain⟨a,b,f,g,k,v1,v2,lv,m,x,y,s,t,n,ls,ah,rfl,_⟩:=S;rfl
 have(a,b,f,g,k,v1,v2,lv,m,x,y,s,t,n,ls,ah,rfl,ha,ag,tg,aC,he,h1,h2,h,aq,hl,hg,ap,q):=S;have o:=xX.nd;have hu:=U.units;have af:Yd 1 _:=U.mono ∅;exists _,(Qc (Zc (PW.pt (Yy (Yi (Z2 (Qp Zu rfl l.isinstance GX (Qa {2} (Qa (Ya (v:=.ty "tuple") rfl l.tuple Di Xb) Qe))))) (Yy (Qo X7 (Qp Zs rfl l.len Tp (Qa {2} Qe)) Qj (Qs _)) (Xj (Yi (Z2 (Qp Zu rfl l.isinstance GX (Qa (Qn Qt {2} Qj) (Qa (Ya (v:=.ty "str") rfl l.str EI Xb) Qe)))))))))
  (Qg (Qu Z7)) Qw)
  (Qc (Zc (PW.pt (Yy (Qo X7 (Qn Qt {2} Qj) Zo (Qs _)) (Xj (Yi (Z2 (Ze GH af rfl mH kH bH .nil Q7 (Qa (Qn Qt {2} Qj) Qe)))))))
  (Qg (Qu Z7)) Qw)
  (Qc (Q3 3 o (Zy Jg {0} (Zz (Qa {1} Qe))))
  (Qc (Zc (PW.pt (Yy (Qo Ud (Qn Qt {2} Qj) Qj (Qs _)) (Yy (Qo md (Qn Qt {2} Qj) (Qp Zs rfl l.len Tp (Qa {3} Qe)) (Qs _)) (Xj (Qo X7 (Qn Qt (Qn Q9 {3} (Qn Qt {2} Qj)) Qj) Zo (Qs _))))))
  (Qg (Qu Z7)) Qw)
  (Qc (Q3 4 o (Ze GC af rfl mC kC bC .nil Q7 (Qa {3} (Qa (Zz Qe) Qe))))
  (Qc (Z9 To rfl (Z6 (Yg Ub {3} Xl (Yn (Qn Qt {2} Qj)))) (Wi rfl (Zb (Zv 5 o) (Zb (Zv 6 o) (Zb (Zv 7 o) Xt))))
  (Qg (Zc (PW.pt (U6 (Qo Xy {5} Zo (Qs _)) (Ua (Qo Xy (Qn (Oh hu) {4} {6}) (Qn (Oh hu) {4} {7}) (Qs _)))))
  (Qg (Qu Z7)) Qw)))
  (Qc (Q3 8 o (Yg Um (Qn Q9 {3} (Qn Qt {2} Qj)) (Yn Qj) Xl))
  (Qg (Qu (Ze GS (U.mono ∅) rfl mS kS bS .nil Q7 (Qa {3} (Qa (Qn Qt {2} Qj) (Qa (Qn Qt {8} Qj) (Qa (Qn Qt {8} Qj) (Qa Jk Qe)))))))))))))))
 ac_nf;have(aj,au,rfl,hL):=Q3x hl;have aD:⇑g=⇑k:=GJ ag;have(en,ax,ak):=aq;intros;have az:n<⇑(k++[(m,x,y)]):=(Gg.mp en).1;refine{032,Gk,1,.tup h,kj,Gk,1,Q6 ?_};exists 030,.inr {_,Qk h,1},10;rw[Tk (by rfl)];refine Q6 ?_;refine{0,f,201,Qk h,Yo,32,Gk,1,.str _,Rz,Gk,1,Q6 ?_};exists 0,f,201,Qk h,Yo,10;rw[Zp,VS];refine Q6 ?_;refine{0,f,201,Qk h,X8,2,Gk,Gx,1,.int _,Ij,Jq,Gk,1,Q6 ?_};refine{00,Uu,λW ao=>?_};have s3:=Qf ao (.lst [↑b]);refine{a,W,g,[↑b],11,s3 _ _ ha,Qb,small (by show ⇑g+1<=_;ext),λev an=>?_};have s4:=Qf an (.lst (g++[↑b]));have X:=s3.trans s4;have A:J0 H (g++[↑b]) (k++[(m,x,y)]):=Yx ag (.cons ⟨b,v1,v2,Xb,he,h1,h2⟩ .nil);have aA:⇑(g++[V.ref b])=⇑(k++[(m,x,y)]):=GJ A;have J:(zj (zj H W (.lst [↑b])) ev (.lst (g++[↑b]))) ev/.lst (g++[↑b]):=Qb;have aB:⇑(k++[(m,x,y)])<=11:=by rw[Gs,Tg];ext
 generalize g++[V.ref b]=c at*;generalize k++[(m,x,y)]=aa at*;generalize zj (zj H W (.lst [↑b])) ev (.lst c)=H4 at*;have T:=X _ _ h;have sz:=WQ tg;have al:∀p∈aa,(p.2.1.ok=Gk/\p.2.1.depth<=8)/\p.2.2.ok=Gk/\p.2.2.depth<=8:=λp L=>{{(tg p L).1.1,(tg p L).1.2.1},(tg p L).2.1,(tg p L).2.2.1};ac_nf;obtain⟨vd,N⟩:∃vd,c[n]?/vd:={_,Gf ∅};have(p,ep,d,u1,u2,rfl,hd,t3,t4):=Qy A N;intros;rw[en]at ep;cases ep;exists 0,f,201,Qk T,X8,3010;rw[Tj (show¬((n:Int)<0) by ext)];refine Q6 ?_;exists 0,f,201,Qk T,X8,030,.inl {_,Qi J,1},3010;rw[Tj (show¬((n:Int)>=((⇑c:Nat):Int)) by ext)];refine Q6 ?_;exists 00,f,201,Qk T,X8,ev,c,301,Qi J,Zi N,d,201,Qk (X _ _ hd),Yo,10;rw[Tk (by rfl)];refine Q6 ?_;refine{0,Tw _,λaw hz=>?_};have Y:=Qf hz (.lst []);have ai:=X.trans Y;refine{ev,aw,c,[],aa,[],1,Y _ _ J,A.Qv (Q8.of ai),Qb,.nil,(λt ht=>nomatch ht),al,by simp only[Za];ext,λd2 S2 L2 H2 g2 ay N2 T2 _ ar=>?_};have sD:=ai.trans g2;have ad:=(Y.trans g2) _ _ J;refine{00,f,201,Qk (sD _ _ h),X8,0,ev,0,Qi ad,λz am=>?_};rw[show U8 c Gp (Ga (n:Int))=c.take n from Q08 c n];have Z:=Qf am (.lst (c.take n));have N6:=N2.same Z;have r:=sD.trans Z;have ac:(zj H2 z (.lst (c.take n))) z/.lst (c.take n):=Qb;have ae:=Z _ _ ad;generalize zj H2 z (.lst (c.take n))=H6 at*;let av:Nat->St->Hp->Prop:=λi M I=>kU (I=H6) (∃x5 x6 x7,M=[Ga ↑a,Ga ↑b,Ga ↑f,Ga ↑ev,Ga ↑d2,x5,x6,x7,Gp])
 refine⟨z,Xb,{_,Qi ac},Yv (K:=K) (a:=z) (xs:=c.take n) av
  {1,{420}} (by rintro i M I _ ⟨b,_⟩;exact Qi (by rw[b];exact ac)) ?_ ?_⟩
 .rintro i p M I hi ⟨rfl,⟨x5,x6,x7,rfl⟩⟩;have D:i<n:=by have:=(Gg.mp hi).1;rw[Dq]at this;ext
  rw[Dx D]at hi;ac_nf;have((B,u,v),C,a',q1,q2,rfl,ab,E,G):=Qy A hi;have(c1,_,_,_,rfl,_,_,_):=E.inv;have(c2,_,_,_,rfl,_,_,_):=G.inv;intros;have j:=ar (B,u,v) (Gc C);exists a',0,Qk (r _ _ ab),13030301;exists 4010;rw[Zp,UN];cases B with
  |true=>exact Q6 (Q6 {1,{420}})
  |false=>
   refine Yw ?_;refine{00,N6.get j.1 (E.same r) {00,N6.get j.2 (G.same r) {10,?_}}};rw[Uw];refine Uv (λe=>?_) (λe=>{1,{420}});have e:L2 u=L2 v:=by simpa using e
   exact absurd ((T2.iff j.1 j.2).mp e) (ak i u v D C)
 .rintro M I ⟨rfl,⟨x5,x6,x7,rfl⟩⟩;refine{00,f,201,Qk (r _ _ h),X8,ev,c,301,Qi ae,Zi N,0,d,0,Qk (r _ _ hd),Wr _ _,λj C=>?_};rw[iG];have u:=Qf C (.tup [u1,u2]);have e:=r.trans u;exact{00,f,201,Qk (e _ _ h),jf,0,j,201,Qk Qb,Yo,0,j,201,Qk Qb,X8,ev,aj,c,au,u1,u2,.non,aa,Gp,ls,s,t,ah,1,u _ _ ae,A.Qv (Q8.of e),tg,by ext,hL.same e,hg,1,t3.same e,t4.same e,ap,λv B=>q v (e.trans B)}
end
abbrev lSt(i:Nat):DX:=(Zd jd).getD i (.Pass {(0),(0),(0),(0)})
noncomputable abbrev lN:List TQ:=["_law_script","_law_things","_law_deeds","_law_far","_law_found","_law_told","_law_k","_law_deed","_law_left","_law_made","_law_told_so"]
theorem sT:Q4 lN ["_law_script"] (Qm jd):=by eq_refl
theorem YA{K:Gd}:TX K (.type "tuple") (.type "int")/Gx:=by kernel_rfl
theorem OA{K:Gd}:TX K (.type "tuple") (.type "bool")/Gx:=by kernel_rfl
theorem sR(a:List Int)(j k:Nat):∃b:List Int,U8 (a.map V.int) (Ga (j:Int)) (Ga (k:Int))=b.map V.int/\⇑b<=k - j/\(⇑a<=j->b=[]):=by
 refine{(a.drop (min j ⇑a)).take (min k ⇑a - min j ⇑a),?_,?_,λh=>?_}
 .unfold U8;rw[HT.Ib,HT.Ib,Gq,MM,CV]
 .rw[Dq];ext
 .rw[Nat.min_eq_right h,Nat.sub_eq_zero_of_le (Bl _ _)];simp
theorem Qzd{m:Nat}(D:Drawn ts m)(a:m<=4):∀t∈ts,t.good:=λt ht=>by have(j,a):=Dh.mp ht;have e:j<⇑ts:=(Gg.mp a).1;have b:=D.any j t a;have c:=D.dep j t a;have d:=D.len;exact{D.ok t ht,by lia,by lia}
theorem Q6s{a:Tl}(g:iy a)(b:⇑a<=100):(FE (a.map tlD)).canLay0=Gk/\Jf (FE (a.map tlD))<=1000000/\(FE (a.map tlD)).depth<=60:=Pe (UF g) (by rw[Gq];exact b)
section
variable{P:Gn}{w:Ti}{K:Gd}{mg:TQ->Option Gh}{base:Heap}{f:Ge}{cdv:Gh}{A:DW}{outer:List Bh}{s:Gw}{Hi:Hp}{E:XK}
abbrev XL(P:Gn)(w:Ti)(K:Gd)(mg:TQ->Option Gh)(base:Heap)(f:Ge)(cdv:Gh)(A:DW)(outer:List Bh)(s:Gw)(Hi:Hp)(E:XK):Cx:=(jH Z4 P w K mg base lN "law" (Qm jd) f cdv A outer s Hi E).nox
theorem UC(ae:hJ mg):∃t,PS (XL P w K mg base f cdv A outer s Hi E) (lSt 2) t/\∀(r k y:Ge)(x:List Int)(h c:List V)(z:List Th)(m:List Dd)(j:Hp)
  (L:Vh K j r (x.map V.int))(v:j k/.lst h)(C:Zq j h z)(ak:0<⇑z)(M:j y/.lst c)(B:Ur j c m)(J:∀d∈m,d.fits z)(hl:⇑m<=7),
  Tr t (λσ H=>H=j/\σ=[Ga ↑r,Ga ↑k,Ga ↑y,Gp,Gp,Gp,Gp,Gp,Gp,Gp,Gp])
   (λσ H=>∃q ab I l,σ=[Ga ↑r,Ga ↑k,Ga ↑q,l,Gp,Gp,Gp,Gp,Gp,Gp,Gp]/\Q5 j H/\H q/.lst ab/\Ur H ab I/\(∀d∈I,d.fits z)/\⇑I<=7):=by
 have nd:=sT.nd;exists _,(Zc (PW.pt (U6 (Qo kP (Qp Zs rfl ae.len Tp (Qa {0} Qe)) Qj (Qs _)) (Ua (Qo Xy (Zy W9 (Qn Q9 {0} Qj) Qj) Qj (Qs _)))))
  (Qc (Q3 3 nd (Qn Q9 {1} (Jo Vl Qj)))
  (Qc (Q3 2 nd (Zy Jg (Zz (Qa (Zg (Qa Zo (Qa (Qn Q9 {1} Qj) (Qa {3} Qe)))) (Qa (Zg (Qa Zo (Qa {3} (Qa (Qn Q9 {1} Qj) Qe)))) Qe))) (Yg Ub {2} Xl (Yn Qj))))
  (Qg (Zl (Xx Te Tx TB Z0 {2} (Qa (Zg (Qa Zo (Qa (Qn Q9 {1} Qj) (Qa {3} Qe)))) Qe)))))) Qw)
 intro r k y x h c z m j L v C ak M B J hl;rintro D' σ H ⟨rfl,rfl⟩ kk;have aq:=⇑C;have no:=kk _ _ {y,c,m,Gp,1,λ_ _ af=>af,M,B,J,hl};exists 030,.inl {_,L,1},3010;refine Uv (λp=>?_) (λp=>Q6 no);have p:0<⇑x:=by have:=Dp p;rw[Gq]at this;lia
 generalize ah:x[0]=n0;have e0:Rt (x.map V.int) 0/.int n0:=by refine Zi (j:=0) ?_;rw[Ta,Gf p,ah];rfl
 exists 0,r,201,L,e0,301,(by show(0:Int)<3;decide),10;refine Uv (λc2=>?_) (λc2=>no);ac_nf;obtain⟨a,f1⟩:∃aa,h[0]?/aa:={_,Gf (by lia)};obtain⟨b,f2⟩:∃aa,h[⇑h - 1]?/aa:={_,Gf (by lia)};have(Y,e1,i1):=C.get f1;have(Z,e2,i2):=C.get f2;intros;have R:=Gc e1;have S:=Gc e2;have G:Rt h (0:Int)/a:=Zi (j:=0) f1;have a2:Rt h (-1)/b:=xw f2;have ap:⇑c=⇑m:=GJ B;exists 00,k,h,_,b,11,Qi v,a2;refine{0,k,h,_,a,11,Qi v,G,0,Vb,λe al=>?_};have s1:=Qf al (.tup [.str "unlike",a,b]);refine{00,k,h,_,a,11,Qi (s1 _ _ v),G,Vb,λg am=>?_};have s2:=Qf am (.tup [.str "unlike",b,a]);refine{Yz,λQ ag=>?_};have W:=Qf ag (.lst [↑e,↑g]);have U:=(s1.trans s2).trans W;refine{00,y,0,Qi (U _ _ M),λT aj=>?_};rw[vw c 4 (by decide)];have s4:=Qf aj (.lst (c.take (DZ 4)));refine{Q,T,301,s4 _ _ Qb,Qb,small (by rw[Dq];show 2+_<=_;lia),λn hn=>?_};have X:=Qf hn (.lst ([↑e,↑g]++c.take (DZ 4)));have ac:=(U.trans s4).trans X;refine{0,.inl {13,Qi Qb},0,k,h,_,a,11,Qi (ac _ _ v),G,0,Vb,λl an=>?_};have D:=Qf an (.tup [.str "same",a,b]);have n6:=D _ _ (@Qb _ n (.lst ([↑e,↑g]++c.take (DZ 4))));exists n,301,n6,(by rw[TD,Gs,Dq];show 2+_<_;lia);have ad:=ac.trans D;have ai:H n=Gp:=(U.trans s4).free hn;have tu:∀{HA:Hp}{p:Ge}{xs:List V},HA p/.tup xs->Q5 HA (zj (zj (zj (zj (zj (zj (zj H e (.tup [.str "unlike",a,b])) g (.tup [.str "unlike",b,a])) Q (.lst [↑e,↑g])) T (.lst (c.take (DZ 4)))) n (.lst ([↑e,↑g]++c.take (DZ 4)))) l (.tup [.str "same",a,b])) n (.lst ([↑e,↑g]++c.take (DZ 4))))->True:=λ_ _=>trivial;generalize u:zj (zj (zj (zj (zj (zj H e (.tup [.str "unlike",a,b])) g (.tup [.str "unlike",b,a])) Q (.lst [↑e,↑g])) T (.lst (c.take (DZ 4)))) n (.lst ([↑e,↑g]++c.take (DZ 4)))) l (.tup [.str "same",a,b])=o at*;have F:Q8 o (zj o n (.lst ([↑e,↑g]++c.take (DZ 4)++[↑l]))):=Z1 λxs i=>by rw[n6]at i;cases i
 have k1:o e/.tup [.str "unlike",a,b]:=by rw[<-u];exact((((s2.trans W).trans s4).trans X).trans (by rw[u];exact D)) _ _ Qb
 have k2:o g/.tup [.str "unlike",b,a]:=by rw[<-u];exact(((W.trans s4).trans X).trans (by rw[u];exact D)) _ _ Qb
 have k3:o l/.tup [.str "same",a,b]:=by rw[<-u];exact Qb
 have tH:Q8 H (zj o n (.lst ([↑e,↑g]++c.take (DZ 4)++[↑l]))):=(Q8.of ad).trans F;have N:=i1.Qv tH;have O:=i2.Qv tH;refine kk _ _ {n,_,[.tell Gx Y Z,.tell Gx Z Y]++m.take 4++[.tell Gk Y Z],0,λao ar eb=>Ql (ad _ _ eb) (Qd eb ai),Qb,?_,?_,?_}
 .refine Yx (Yx (.cons {e,a,b,1,F _ _ k1,N,O} (.cons {g,b,a,1,F _ _ k2,O,N} .nil)) ?_) (.cons {l,a,b,1,F _ _ k3,N,O} .nil);exact Ur.Qv tH (Re B 4)
 .intro d I;rcases Gi.mp I with i|i
  .rcases Gi.mp i with i|i
   .simp only[Td,Ek,LW]at i;rcases i with rfl|rfl
    .exact⟨R,S⟩
    .exact⟨S,R⟩
   .exact J d (DL i)
  .rw[Tf]at i;subst i;exact⟨R,S⟩
 .simp only[Gs,Dq,TW,SE];lia
end
section
variable{P:Gn}{w:Ti}{K:Gd}{mg:TQ->Option Gh}{base:Heap}
theorem Q3h{M nW nT nV nO:Nat}{fD fE fR fW fH fZ fT fS fV fF fO:Ge}{dD dE dR dW dH dZ dT dS dV dF dO:Du}{pW pT:TQ}(F:Wc K "law" "law" jd f0 fd)(j:hJ mg)(hM:4<=M)(hW:nW<=M)(hT:nT<=M)(hV:nV<=M)(hO:nO<=M)
  (GD:Qz P w K mg base Z4 2 fD dD ["_law_cells"] (ze K))(kD:KI K fD)(bD:zk K dD ["_law_cells"] [])(mD:MG mg "_law_drawn_things" fD)
  (GE:Qz P w K mg base Z4 2 fE dE ["_law_cells","_law_things"] (xg K))(kE:KI K fE)(bE:zk K dE ["_law_cells","_law_things"] [])(mE:MG mg "_law_drawn_deeds" fE)
  (GR:Qz P w K mg base Z4 1 fR dR ["_law_script","_law_most","_law_bound"] (yP K))(kR:KI K fR)(bR:zk K dR ["_law_script","_law_most","_law_bound"] [])(mR:MG mg "_law_room" fR)
  (GW:Qz P w K mg base Z4 nW fW dW [pW] uf)(kW:KI K fW)(bW:zk K dW [pW] [])(mW:MG mg "answers" fW)
  (GH:Qz P w K mg base Z4 1 fH dH ["_law_found"] (lj K))(kH:KI K fH)(bH:zk K dH ["_law_found"] [])(mH:MG mg "_law_whole" fH)
  (GZ:Qz P w K mg base Z4 4 fZ dZ ["_law_told","_law_deed","_law_found"] xh)(kZ:KI K fZ)(bZ:zk K dZ ["_law_told","_law_deed","_law_found"] [])(mZ:MG mg "_law_clash_shown" fZ)
  (GT:Qz P w K mg base Z4 nT fT dT [pT] v8)(kT:KI K fT)(bT:zk K dT [pT] [])(mT:MG mg "told_after" fT)
  (GS:Qz P w K mg base Z4 1 fS dS ["_law_found","_law_due"] yy)(kS:KI K fS)(bS:zk K dS ["_law_found","_law_due"] [])(mS:MG mg "_law_so" fS)
  (GV:Qz P w K mg base Z4 nV fV dV ["deeds"] uh)(kV:KI K fV)(bV:zk K dV ["deeds"] [])(mV:MG mg "world" fV)
  (GF:Qz P w K mg base Z4 3 fF dF ["_law_rows","_law_told"] vJ)(kF:KI K fF)(bF:zk K dF ["_law_rows","_law_told"] [])(mF:MG mg "_law_world_fits" fF)
  (GO:Qz P w K mg base Z4 nO fO dO ["rows","told"] yR)(kO:KI K fO)(bO:zk K dO ["rows","told"] [])(mO:MG mg "holds" fO):
  Qz P w K mg base Z4 (M+1) f0 fd ["_law_script"] (oi K):=by
 refine F.ok sT (λb aO a E Y=>?_) (λcdv A outer s aO b a E hr Y=>?_)
 .obtain⟨ag,N,rfl,_⟩:=Y;rfl
 have(ag,N,rfl,hS,aZ,q):=Y;have L:=sT.nd;have a5:Yd 4 _:=hr.mono hM;have a4:Yd 3 _:=hr.mono (by lia);have aR:Yd 2 _:=hr.mono (by lia);have ay:Yd 1 _:=hr.mono (by lia);have a9:Yd nW _:=hr.mono hW;have a7:Yd nT _:=hr.mono hT;have a8:Yd nV _:=hr.mono hV;have a6:Yd nO _:=hr.mono hO;have(tM,bc,bd):=UC (P:=P) (w:=w) (K:=K) (mg:=mg) (base:=base) (f:=f0) (cdv:=cdv) (A:=A) (outer:=outer) (s:=s) (Hi:=aO) (E:=E) j;exists _,(Qc (Q3 1 L (Ze GD aR rfl mD kD bD .nil Q7 (Qa (Zy Jg (Yg Ub {0} (Yn Qj) (Yn Qj)) (Yg Ub {0} (Yn Qj) (Yn Qj))) Qe)))
  (Qc (Q3 2 L (Ze GE aR rfl mE kE bE .nil Q7 (Qa (Yg Ub {0} (Yn Qj) (Yn (Zy jN Qj (Ze GR ay rfl mR kR bR .nil Q7 (Qa {0} (Qa Qj (Qa Qj Qe))))))) (Qa {1} Qe))))
  (Qc bc
  (Qc (Q3 4 L (Ze GW a9 rfl mW kW bW .nil Q7 (Qa (Yq Xv rfl j.list TY (Qa {2} Qe)) Qe)))
  (Qc (Zc (PW.pt (Yy (Yi (Z2 (Qp Zu rfl j.isinstance GX (Qa {4} (Qa (Ya (v:=.ty "list") rfl j.list TY Xb) Qe))))) (Xj (Qo X7 (Qp Zs rfl j.len Tp (Qa {4} Qe)) (Qp Zs rfl j.len Tp (Qa {2} Qe)) (Qs _)))))
  (Qg (Qu Z7)) Qw)
  (Qc (Q3 5 L (Zz Qe))
  (Qc (Z9 To rfl (Vy rfl j.range (Qa (Qp Zs rfl j.len Tp (Qa {2} Qe)) Qe)) (Zv 6 L)
  (Qc (Q3 7 L (Qn Q9 {2} {6}))
  (Qg (Zc (Qo Xy (Qn Qt {7} Qj) Zo (Qs _))
  (Qg (Zc (PH oT oT Qj (Qn Qt {7} Qj) (Qp Zs rfl j.len Tp (Qa {5} Qe)))
  (Qc (Zc (PW.pt (Yy (Yi (Z2 (Ze GH ay rfl mH kH bH .nil Q7 (Qa (Qn Q9 {4} {6}) Qe)))) (Xj (Qo X7 (Qn Q9 {4} {6}) (Zy jQ (Qp Zs rfl j.len Tp (Qa {5} Qe)) (Qn Qt {7} Qj)) (Qs _)))))
  (Qg (Qu Z7)) Qw)
  (Qg (Q3 5 L (Yg Ub {5} Xl (Yn (Qn Qt {7} Qj)))))) (Qg (Zc (PW.pt (Yy (Yi (Z2 (Qp Zu rfl j.isinstance GX (Qa (Qn Q9 {4} {6}) (Qa (Ya (v:=.ty "str") rfl j.str EI Xb) Qe))))) (Xj (Qo X7 (Qn Q9 {4} {6}) Zo (Qs _)))))
  (Qg (Qu Z7)) Qw)))) (Qg (Zc (PW.pt (U6 (Qo X7 (Qn Qt {7} Qj) Zo (Qs _)) (Ua (Z2 (Ze GH ay rfl mH kH bH .nil Q7 (Qa (Qn Q9 {4} {6}) Qe))))))
  (Qc (Zl (Xx Te Tx TB Z0 {5} (Qa {7} Qe)))
  (Qg (Zc (Qo X7 (Qn Q9 {4} {6}) (Qp Zs rfl j.len Tp (Qa {5} Qe)) (Qs _))
  (Qg (Qu Z7)) Qw))) (Qg (Zc (PW.pt (U6 (Qo X7 (Qn Qt {7} Qj) Zo (Qs _)) (Ua (Yi (Z2 (Ze GZ a5 rfl mZ kZ bZ .nil Q7 (Qa {5} (Qa {7} (Qa (Qn Q9 {4} {6}) Qe)))))))))
  (Qg (Qu Z7)) Qw))))))))
  (Qc (Q3 8 L (Ze GT a7 rfl mT kT bT .nil Q7 (Qa (Yq Xv rfl j.list TY (Qa {2} Qe)) Qe)))
  (Qc (Zc (Yi (Z2 (Ze GS ay rfl mS kS bS .nil Q7 (Qa {8} (Qa {5} Qe)))))
  (Qg (Qu Z7)) Qw)
  (Qc (Q3 9 L (Ze GV a8 rfl mV kV bV .nil Q7 (Qa (Yq Xv rfl j.list TY (Qa {2} Qe)) Qe)))
  (Qc (Zc (Yi (Z2 (Ze GF a4 rfl mF kF bF .nil Q7 (Qa {9} (Qa {5} Qe)))))
  (Qg (Qu Z7)) Qw)
  (Qc (Q3 10 L (Ze GO a6 rfl mO kO bO .nil Q7 (Qa {9} (Qa (Yq Xv rfl j.list TY (Qa {5} Qe)) Qe))))
  (Qg (Qu (qw (Qp Zu rfl j.isinstance GX (Qa {10} (Qa (Ya (v:=.ty "bool") rfl j.bool Sj Xb) Qe))) (nU {10}))))))))))))))))
 ac_nf;have(az,aD,be,_):=sR N 1 5;have(bh,aE,_,aJ):=sR N 64 70;have(aH,aF,bf,_):=sR N 5 12;intros;have aJ:=aJ (by lia);subst aJ;have aD:U8 (N.map V.int) (Ga 1) (Ga 5)=az.map V.int:=aD;have aE:U8 (N.map V.int) (Ga 64) (Ga 70)=[]:=aE;have aF:U8 (N.map V.int) (Ga 5) (Ga (5+7))=aH.map V.int:=aF;refine{000,ag,0,hS,λp1 a0=>?_};rw[aD];have s1:=Qf a0 (.lst (az.map V.int));refine{000,ag,0,s1.seq hS,λp2 a1=>?_};rw[aE];have s2:=Qf a1 (.lst []);refine{p1,p2,301,s2 _ _ Qb,Qb,small (by rw[Gq];show _+0<=_;lia),λp3 a2=>?_};rw[D2];have s3:=Qf a2 (.lst (az.map V.int));refine{p3,az,1,Qi Qb,by lia,λaI us O H1 g1 _ gl ga aB=>?_};have sA:=((s1.trans s2).trans s3).trans g1;have bg:=aB.len;have gd:=Qzd aB (by lia);refine{000,ag,N,30,sA.seq hS,aZ,3010,ag,0,sA.seq hS,λp4 a3=>?_};rw[aF];have s4:=Qf a3 (.lst (aH.map V.int));refine{0,p4,aI,aH,us,O,1,Qi Qb,by lia,s4 _ _ gl,ga.same s4,by lia,by lia,λq0 o e H2 g2 _ gq X ld U=>?_};have hU:iO O:={AQ aB.cl,gd,by lia};have sB:=(sA.trans s4).trans g2;refine bd ag aI q0 N us o O e H2 (sB.seq hS) (g2 _ _ (s4 _ _ gl)) ((ga.same s4).same g2) (by lia) gq X U (by lia) _ _ _ ⟨Xb,Xb⟩ ?_;clear X ld U gq;rintro bi H3 ⟨qd,o,e,x3,rfl,g3,gq,X,U,ld⟩;have aG:∀d∈e,d.good:=λd hd=>hU.Q90 (U d hd);have ba:⇑o=⇑e:=GJ X;refine{0,qd,o,1,.inl (Qi gq),λhh aY=>?_};have s5:=Qf aY (.lst o);refine{hh,o,e,O,1,Qb,X.same s5,hU,U,by lia,λD C H4 g4 _ gf bb ok=>?_};have aT:=s5.trans g4;have ax:=aT _ _ gq;have aP:=X.same aT;refine{032,Gk,1,.lst gf,j9,Gk,1,Q6 ?_};exists 030,.inl {_,Qi gf,1},030,.inl {_,Qi ax,1},10;rw[Tk (show V.int ((⇑C:Nat):Int)=V.int ((⇑o:Nat):Int) by rw[bb,ba])];refine Q6 ?_;refine{Tw _,λl0 aQ=>?_};have s7:=Qf aQ (.lst []);refine⟨_,Xb,_,_,Xb,.inl {_,Qi (s7 _ _ ax),1},_,Xb,by lia,by lia,V0 (lo:=0) (n:=((⇑o:Int)).toNat) (λk aK Q=>∃(r:Ge)(f:List V)(x6 x7:Option V),aK=[Ga ↑ag,Ga ↑aI,Ga ↑qd,x3,Ga ↑D,Ga ↑r,x6,x7,Gp,Gp,Gp]/\Q5 H4 Q/\H4 r=Gp/\Q r/.lst f/\J0 Q f (after [] (e.take k)))
  {l0,[],30,s7,aQ,Qb,by simp[after];exact .nil} ?_ ?_⟩
 .rintro k aK Q hk ⟨r,f,x6,x7,rfl,z,Z,v,B⟩;have hk:k<⇑e:=by lia
  ac_nf;obtain⟨x,ex⟩:∃x,o[k]?/x:={_,Gf (by lia)};obtain⟨J,aA⟩:∃J,C[k]?/J:={_,Gf (by lia)};have(d,ed,aN):=Qy aP ex;intros;have ah:=aN.Qv (Q8.of z);have X:=aG d (Gc ed);have aM:iy (after [] (e.take k)):=O4 (λp H=>nomatch H) λd hd=>aG d (DL hd);have aS:⇑(after [] (e.take k))<=10:=by have:=Oa (ds:=e.take k) (tl:=[]);rw[Dq]at this;simp only[SE]at this;lia
  have u:Ro Q i8 (after [] (e.take k)) d J:=((ok k d J ed aA).ex (Y:=i8) λaC b _ _ Y=>Y).kp (Q8.of z) (λh _=>z _ _ h);rw[O5 ed];generalize after [] (e.take k)=tl at*;have ad:⇑f=⇑tl:=GJ B;have m:=z _ _ gf;have l:Rt C (0+(k:Int))/J:=by rw[EV];exact Zi aA
  exists 00,qd,o,301,Qi (z _ _ ax),(by rw[EV];exact Zi ex);cases d with
  |back i=>
   have(h,rfl,c):=ah;have u:J=(Jt tl (.back i)).2:=u;exists 0,h,201,Qk c,Yo,10;rw[Zp,VA];refine Yw ?_;exists 0,h,201,Qk c,X8,3010;refine Uv (λg=>?_) (λg=>?_)
   .have g:0<=i:=Dp g;exists 030,.inl {_,Qi v,1},3010;refine Uv (λb=>?_) (λb=>?_)
    .have b:i<=(⇑f:Int):=Dp b;have t:Jt tl (.back i)=(tl.take i.toNat,.int ((⇑tl:Int) - i)):=by simp only[Jt];rw[GY {g,by rw[<-ad];exact b}]
     rw[t]at u⊢;subst u;refine{00,D,C,301,Qi m,l,2,Gk,Gx,1,.int _,Ij,Jq,Gk,1,Q6 ?_};exists 00,D,C,301,Qi m,l,030,.inl {_,Qi v,1},0,h,201,Qk c,X8,30110;rw[Tk (show V.int ((⇑tl:Int) - i)=V.int (((⇑f:Nat):Int) - i) by rw[ad])];refine Q6 ?_;refine{00,h,201,Qk c,X8,0,r,0,Qi v,λn G=>?_};rw[vw f i g];have I:=Qf G (.lst (f.take i.toNat));exact{n,20,z.trans I,z.free G,Qb,Qre _ (B.Qv (Q8.of I))}
    .have b:¬i<=(⇑f:Int):=λa=>b (Tk a);have t:Jt tl (.back i)=(tl,.str "no moment"):=by simp only[Jt];rw[Gu (λa=>b (by rw[ad];exact a.2))]
     rw[t]at u⊢;subst u;refine{00,D,C,301,Qi m,l,32,Gk,1,.str _,Rz,Gk,1,Q6 ?_};exists 00,D,C,301,Qi m,l,10;rw[Tk (by rfl)];exact Q6 {r,f,30,z,Z,v,B}
   .have g:¬0<=i:=λa=>g (Tk a);have t:Jt tl (.back i)=(tl,.str "no moment"):=by simp only[Jt];rw[Gu (λa=>g a.1)]
    rw[t]at u⊢;subst u;refine{Gx,1,Q6 ?_};refine{00,D,C,301,Qi m,l,32,Gk,1,.str _,Rz,Gk,1,Q6 ?_};exists 00,D,C,301,Qi m,l,10;rw[Tk (by rfl)];exact Q6 {r,f,30,z,Z,v,B}
  |ask x y=>have(h,v1,v2,rfl,c,t1,t2):=ah;exists 0,h,201,Qk c,Yo,10;rw[Zp,Qx3];refine Q6 ?_;exists 0,h,201,Qk c,Yo,10;rw[Zp,wm];refine Q6 (Q6 ?_);exists 0,h,201,Qk c,Yo,10;rw[Zp,wm];exact Q6 (Q6 {r,f,30,z,Z,v,B})
  |tell T x y=>
   have(h,v1,v2,rfl,c,t1,t2):=ah;exists 0,h,201,Qk c,Yo,10;rw[Zp,UB];refine Q6 ?_;exists 0,h,201,Qk c,Yo,10;rw[Zp,vK];refine Yw ?_;rcases u with⟨aw,rfl⟩|⟨cc,n,s',t',lv,ls,rfl,ae,g,av,hg,rr,au⟩
   .have t:Jt tl (.tell T x y)=(tl++[(T,x,y)],.int ((⇑tl:Int)+1)):=by simp only[Jt];rw[Gu aw]
    rw[t];refine{00,D,C,301,Qi m,l,2,Gk,Gx,1,.int _,Ij,Jq,Gk,1,Yw ?_};exists 0,.inl {13,Qi v},0,r,f,01,v,(by rw[TD];lia);have b:Q8 Q (zj Q r (.lst (f++[↑h]))):=Z1 λxs a=>by rw[v]at a;cases a
    have G:D≠r:=λa=>by rw[a,Z]at gf;cases gf
    exists 00,D,C,301,Qi (Ql m G),l,030,.inl {_,Qi Qb,1},10;rw[Tk (show V.int ((⇑tl:Int)+1)=V.int ((⇑(f++[V.ref h]):Nat):Int) by rw[Gs,Tg,ad];rfl)];exact Q6 {r,f++[↑h],30,λaC aL Y=>by rw[Qh (Qd Y Z)];exact z _ _ Y,Z,Qb,Yx (B.Qv b) (.cons {h,v1,v2,1,b _ _ c,t1.Qv b,t2.Qv b} .nil)}
   .have b:Vp (tl++[(T,x,y)]):={s',t',Gc g.1,g.2.1};have t:Jt tl (.tell T x y)=(tl,.str "clash"):=by simp only[Jt];rw[GY b]
    rw[t];have G:iy (tl++[(T,x,y)]):=λp H=>by
     rcases Gi.mp H with a|a
     .exact aM p a
     .rw[Tf]at a;subst a;exact X
    refine{00,D,C,301,Qi m,l,2,Gx,Gx,1,.tup ae,YA,OA,Gx,1,Q6 ?_};exists 0,h,201,Qk c,Yo,10;rw[Zp,vK];refine Yw ?_;refine{0000,D,C,301,Qi m,l,r,h,cc,f,tl,v1,v2,lv,T,x,y,s',t',n,ls,rr,1,v,B,G,aS,c,t1,t2,ae,g,av,hg,au,λH8 I=>{Gk,1,Q6 ?_}};exact{r,f,30,z.trans I,Z,I _ _ v,B.Qv (Q8.of I)}
 .rintro aK Q ⟨r,f,x6,x7,rfl,z,Z,v,B⟩;rw[show((⇑o:Int)).toNat=⇑e by lia,Tu]at B;have ak:iy (after [] e):=O4 (λp H=>nomatch H) aG;have nb:¬Vp (after [] e):=uF Qel;have aq:∀p∈after [] e,p.2.1∈O/\p.2.2∈O:=Kk (λp H=>nomatch H) U;have aS:⇑(after [] e)<=10:=by have:=Oa (ds:=e) (tl:=[]);simp only[SE]at this;lia
  have G:=z _ _ ax;have u:=aP.same z;refine{0,qd,o,1,.inl (Qi G),λh1 al=>?_};have t1:=Qf al (.lst o);refine{h1,o,e,O,1,Qb,u.same t1,hU,U,by lia,λlf lv H8 g8 aj ar=>?_};have l:=t1.trans g8;have(y1,y2,y3):=Q6s ak (by lia);refine{002,.list (Mq tlD _),1,.lst aj ar.dts,.lst (l _ _ v) (B.Qv (Q8.of l)).dts,y1,y2,y3,λH9 g9=>{Gk,1,Q6 ?_}};have u9:=l.trans g9;refine{0,qd,o,1,.inl (Qi (u9 _ _ G)),λh2 am=>?_};have t2:=Qf am (.lst o);have ab:=u9.trans t2;refine{h2,o,e,O,1,Qb,u.same ab,hU,U,by lia,λmv aa S aU ai ao W ap=>?_};have g:=ab.trans ai;ac_nf;have(R,J,c,rfl,I,wl,iff):=Q47 ao W;intros;have m:∀p∈after [] e,p.2.1∈S/\p.2.2∈S/\(c p.2.1=c p.2.2↔p.1=Gk):=λp H=>by
   have(a,b):=ap p H;exists a,b;rw[iff _ a _ b];have(T,x,y):=p;cases T with
   |true=>exact{λ_=>rfl,λ_=>.told H}
   |false=>exact{λaC=>absurd ⟨x,y,H,aC⟩ nb,λh=>by cases h}
  refine{00,R,r,J,f,aa,S,c,after [] e,1,I,wl,g _ _ v,B.Qv (Q8.of g),m,λaV t=>{Gk,1,Q6 ?_}};have ac:=g.trans t;refine{00,r,f,1,.inl (Qi (ac _ _ v)),λh3 an=>?_};have t3:=Qf an (.lst f);refine{R,h3,J,f,aa,S,O,c,after [] e,1,(I.same t).same t3,wl,Qb,B.Qv (Q8.of (ac.trans t3)),m,aq,hU,by lia,λaW aX=>?_};refine{032,Gk,1,.bl _,se,Gk,1,Yw ?_};exact{0,q _}
end
end K04
namespace L2
open PySem PySem.Spec PyProof.Rows
variable{p0 p1 p2:TQ}
section
variable{K:Gd}{x qual:TQ}{st:DX}{f:Ge}{fd:Du}
theorem Wc.b1(F:Wc K x qual st f fd)(h:∀(kV k n:Gh)(l:Option Ge)(j ct:Gh)(i:Gh),bindArgs (EK x qual (Vj st) (Zd st) (Qm st) .none kV k n l j ct) {[i],[]}=pure ([p0].zip [i])):zk K fd [p0] []:=
 F.binds λa b c d e g o m=>by rcases o with _|⟨i,_|_⟩<;>first|exact h a b c d e g i|cases m
theorem Wc.b2(F:Wc K x qual st f fd)(h:∀(kV l o:Gh)(m:Option Ge)(k ct:Gh)(i j:Gh),bindArgs (EK x qual (Vj st) (Zd st) (Qm st) .none kV l o m k ct) {[i,j],[]}=pure ([p0,p1].zip [i,j])):zk K fd [p0,p1] []:=
 F.binds λa b c d e g p n=>by rcases p with _|⟨i,_|⟨j,_|_⟩⟩<;>first|exact h a b c d e g i j|cases n
theorem Wc.b3(F:Wc K x qual st f fd)(h:∀(kV m p:Gh)(n:Option Ge)(l ct:Gh)(i j k:Gh),bindArgs (EK x qual (Vj st) (Zd st) (Qm st) .none kV m p n l ct) {[i,j,k],[]}=pure ([p0,p1,p2].zip [i,j,k])):zk K fd [p0,p1,p2] []:=
 F.binds λa b c d e g q o=>by rcases q with _|⟨i,_|⟨j,_|⟨k,_|_⟩⟩⟩<;>first|exact h a b c d e g i j k|cases o
theorem Wc.b4{p3:TQ}(F:Wc K x qual st f fd)(h:∀(kV n q:Gh)(o:Option Ge)(m ct:Gh)(i j k l:Gh),bindArgs (EK x qual (Vj st) (Zd st) (Qm st) .none kV n q o m ct) {[i,j,k,l],[]}=pure ([p0,p1,p2,p3].zip [i,j,k,l])):zk K fd [p0,p1,p2,p3] []:=
 F.binds λa b c d e g r p=>by rcases r with _|⟨i,_|⟨j,_|⟨k,_|⟨l,_|_⟩⟩⟩⟩<;>first|exact h a b c d e g i j k l|cases p
theorem Wc.b5{p3 p4:TQ}(F:Wc K x qual st f fd)(h:∀(kV o r:Gh)(p:Option Ge)(n ct:Gh)(i j k l m:Gh),bindArgs (EK x qual (Vj st) (Zd st) (Qm st) .none kV o r p n ct) {[i,j,k,l,m],[]}=pure ([p0,p1,p2,p3,p4].zip [i,j,k,l,m])):zk K fd [p0,p1,p2,p3,p4] []:=
 F.binds λa b c d e g s q=>by rcases s with _|⟨i,_|⟨j,_|⟨k,_|⟨l,_|⟨m,_|_⟩⟩⟩⟩⟩<;>first|exact h a b c d e g i j k l m|cases q
end
theorem Zw{K:Gd}{x q:TQ}{a:DX}{f:Ge}(h:Sb.Yt K x q a f):∃b,Wc K x q a f b/\Ee K ↑f=Gk:=by have(_,_,_,_,_,_,_,_,_,l,c,k):=h;exact{_,vm l c k,k}
end L2
namespace K04
open PySem L2 Sb
section
variable{K:Gd}
theorem UX{a:Np}{w:Ti}{bq:Heap}{mg:TQ->Option Gh}{fa:Ge}(X:K.In bq)(h:bq.Ns El mg)(e3:mg "law"/↑fa)(x:Fx K)
  :∃fd:Du,(∀(s:Gw)(P:Gh),RS s fd {[P],[]} [("_law_script",P)])/\∀base:Heap,K.In base->base.Ns El mg->Qz a.prog w K mg base Z4 67 fa fd ["_law_script"] (oi K):=by
 obtain@⟨CP,r,e,j,i,f0,f1,f2,f3,f4,f5,f6,f7,f8,f9,dX,dY,dZ,d0,d1,d2,d3,d4,d5,d6,gR,gS,gT,d7,d8,d9,ea,gU,eb,ec,ed,ee,ef,eg,gV,gW,gX,gY,gZ,g0,g1,g2,g3,g4,g5,g6,g7,g8,g9,ha,hb,hc,hd,he,hf,hg,hh,hi,hm,hl,ho,hn,aP,pP,dP,oP,sP,mP,cP,gB,gz,gA,aW,pW,dW,oW,sW,mW,cW,gG,gH,aN,pN,dN,oN,sN,mN,cN,gs,gt,gw,gy,gx,gv,gu,gr,aS,pS,dS,oS,sS,mS,cS,gF,gD,gC,gE,aB,pB,dB,oB,sB,mB,cB,gp,gq,go,dR,dU,dT,dg,a0,h0,a1,i1,h1,a2,i2,h2,a3,i3,h3,a4,h4,a5,h5,a6,i6,h6,a7,i7,h7,D,h8,a9,i9,h9,cr,e4,eh,cs,e5,ei,cu,e6,ej,cv,e7,ek,cw,e8,el,cx,e9,em,cy,fb,en,cz,fc,eo,cA,fe,ep,cC,ff,eq,cD,er,cE,es,be,et,cF,fg,eu,cG,fh,ev,cH,fi,ew,cI,fj,ex,cJ,ey,cK,fk,ez,cL,fl,eA,cM,fm,eB,cO,fn,eC,cQ,fo,eD,cR,fp,eE,bf,eF,bg,eG,cT,eH,cU,eI,cV,eJ,cX,eK,cY,eL,cZ,eM,c0,eN,c1,eO,c2,eP,c3,eQ,c4,eR,c5,eS,c6,eT,m,eU,c7,eV,c8,eW,c9,eX,da,eY,db,eZ,dd,e0,de,e1,df,e2,bA,gN,gI,bB,bE,gP,gJ,gL,gM,bC,bD,gK,gQ,gO⟩:=x;have k:=e3.symm.trans (Lx X h df);cases k;have g:=λ{x:TQ}{dV:Ge}(k:Iy K x dV)=>Lx X h k;have y:=λ{x:TQ}(k:ig K x)=>IL X h k;have TP:iC K mg CP:={⟨pP,dP,oP,sP⟩,gB,gz,gA,g aP};have C:lD K mg r:={⟨pW,dW,oW,sW⟩,gG,gH,g aW,{_,Lx X h dR,{40}},{_,Lx X h dU,{40}},{_,Lx X h dT,{40}}};have b:Jb K mg e:={⟨pN,dN,oN,sN⟩,gs,gt,gw,gy,gx,gv,gu,gr,g aN};have TS:j7 K j:={⟨pS,dS,oS,sS⟩,gF,gD,gC,gE};have f:iK K mg i:={⟨pB,dB,oB,sB⟩,gp,gq,go,g aB,{_,Lx X h dg,{40}}};have d:hJ mg:={y bA,y gN,y gI,y bB,y bE,y gP,y gJ,y gL,y gM,y bC,y bD};have c:Ie mg:={y bA,y bB,y bE,y bC,y bD,y gK,y gQ,y gO};have(_,Q,k0):=Zw h0;have b0:=Q.b1 (p0:="thing") λ_ _ _ _ _ _ _=>rfl;have(_,R,k1):=Zw h1;have b1:=R.b1 (p0:="self") λ_ _ _ _ _ _ _=>rfl;have(_,F2,k2):=Zw h2;have b2:=F2.b2 (p0:="self") (p1:="thing") λ_ _ _ _ _ _ _ _=>rfl;have m2:Ym K CP "place_of" f2:=⟨a2,i2,k2⟩;have(_,F3,k3):=Zw h3;have b3:=F3.b2 (p0:="self") (p1:="places") λ_ _ _ _ _ _ _ _=>rfl;have(_,F4,k4):=Zw h4;have b4:=F4.b2 (p0:="met") (p1:="thing") λ_ _ _ _ _ _ _ _=>rfl;have(_,F5,k5):=Zw h5;have b5:=F5.b2 (p0:="spare") (p1:="inner") λ_ _ _ _ _ _ _ _=>rfl;have(_,F6,k6):=Zw h6;have b6:=F6.b4 (p0:="self") (p1:="thing") (p2:="near") (p3:="spare") λ_ _ _ _ _ _ _ _ _ _=>rfl;have m6:Ym K r "place_within" f6:=⟨a6,i6,k6⟩;have(_,F7,k7):=Zw h7;have b7:=F7.b3 (p0:="self") (p1:="thing") (p2:="form") λ_ _ _ _ _ _ _ _ _=>rfl;have m7:Ym K CP "place_by_form" f7:=⟨a7,i7,k7⟩;have(_,F8,J):=Zw h8;have I:=F8.b2 (p0:="forms") (p1:="told") λ_ _ _ _ _ _ _ _=>rfl;have(_,F9,k9):=Zw h9;have b9:=F9.b2 (p0:="self") (p1:="forms") λ_ _ _ _ _ _ _ _=>rfl;have(_,S,fq):=Zw eh;have bh:=S.b2 (p0:="self") (p1:="place") λ_ _ _ _ _ _ _ _=>rfl;have bu:Ym K e "take_in" dX:=⟨cr,e4,fq⟩;have(_,t,fr):=Zw ei;have E:=t.b2 (p0:="self") (p1:="place") λ_ _ _ _ _ _ _ _=>rfl;have L:Ym K e "key_of" dY:=⟨cs,e5,fr⟩;have(_,T,fs):=Zw ej;have F:=T.b3 (p0:="self") (p1:="one") (p2:="other") λ_ _ _ _ _ _ _ _ _=>rfl;have M:Ym K e "equal" dZ:=⟨cu,e6,fs⟩;have(_,U,ft):=Zw ek;have bi:=U.b4 (p0:="self") (p1:="one") (p2:="other") (p3:="reason") λ_ _ _ _ _ _ _ _ _ _=>rfl;have bv:Ym K e "merge" d0:=⟨cv,e7,ft⟩;have(_,V,fu):=Zw el;have dh:=V.b2 (p0:="self") (p1:="link") λ_ _ _ _ _ _ _ _=>rfl;have gg:Ym K e "merge_link" d1:=⟨cw,e8,fu⟩;have(_,W,fv):=Zw em;have di:=W.b3 (p0:="self") (p1:="low") (p2:="high") λ_ _ _ _ _ _ _ _ _=>rfl;have gh:Ym K e "hang" d2:=⟨cx,e9,fv⟩;have(_,Y,fw):=Zw en;have dj:=Y.b3 (p0:="self") (p1:="gone") (p2:="kept") λ_ _ _ _ _ _ _ _ _=>rfl;have gi:Ym K e "give_over" d3:=⟨cy,fb,fw⟩;have(_,Z,fx):=Zw eo;have G:=Z.b3 (p0:="self") (p1:="one") (p2:="other") λ_ _ _ _ _ _ _ _ _=>rfl;have N:Ym K e "way" d4:=⟨cz,fc,fx⟩;have(_,aa,fy):=Zw ep;have dk:=aa.b2 (p0:="self") (p1:="place") λ_ _ _ _ _ _ _ _=>rfl;have gj:Ym K e "way_up" d5:=⟨cA,fe,fy⟩;have(_,ab,fz):=Zw eq;have bj:=ab.b1 (p0:="self") λ_ _ _ _ _ _ _=>rfl;have bw:Ym K e "rows" d6:=⟨cC,ff,fz⟩;have(_,ac,fA):=Zw er;have dl:=ac.b4 (p0:="things") (p1:="net") (p2:="one") (p3:="other") λ_ _ _ _ _ _ _ _ _ _=>rfl;have(_,ad,fB):=Zw es;have dm:=ad.b3 (p0:="net") (p1:="one") (p2:="other") λ_ _ _ _ _ _ _ _ _=>rfl;have(_,ae,br):=Zw et;have bk:=ae.b2 (p0:="net") (p1:="link") λ_ _ _ _ _ _ _ _=>rfl;have(_,af,hj):=Zw eu;have dn:=af.b3 (p0:="self") (p1:="things") (p2:="net") λ_ _ _ _ _ _ _ _ _=>rfl;have(_,ag,fC):=Zw ev;have H:=ag.b4 (p0:="self") (p1:="one") (p2:="other") (p3:="reason") λ_ _ _ _ _ _ _ _ _ _=>rfl;have O:Ym K j "write" d8:=⟨cG,fh,fC⟩;have(_,ah,fD):=Zw ew;have dp:=ah.b2 (p0:="self") (p1:="link") λ_ _ _ _ _ _ _ _=>rfl;have gk:Ym K j "write_link" d9:=⟨cH,fi,fD⟩;have(_,u,fE):=Zw ex;have n:=u.b3 (p0:="self") (p1:="one") (p2:="other") λ_ _ _ _ _ _ _ _ _=>rfl;have q:Ym K j "line_for" ea:=⟨cI,fj,fE⟩;have(_,ai,fF):=Zw ey;have dq:=ai.b1 (p0:="deeds") λ_ _ _ _ _ _ _=>rfl;have(_,aj,hk):=Zw ez;have bl:=aj.b1 (p0:="self") λ_ _ _ _ _ _ _=>rfl;have(_,ak,fG):=Zw eA;have bm:=ak.b2 (p0:="self") (p1:="deed") λ_ _ _ _ _ _ _ _=>rfl;have bx:Ym K i "answer" ec:=⟨cL,fl,fG⟩;have(_,al,fH):=Zw eB;have dr:=al.b2 (p0:="self") (p1:="moment") λ_ _ _ _ _ _ _ _=>rfl;have gl:Ym K i "go_back" ed:=⟨cM,fm,fH⟩;have(_,am,fI):=Zw eC;have ds:=am.b3 (p0:="self") (p1:="deed") (p2:="entry") λ_ _ _ _ _ _ _ _ _=>rfl;have gm:Ym K i "tell" ee:=⟨cO,fn,fI⟩;have(_,ao,fJ):=Zw eD;have dt:=ao.b2 (p0:="self") (p1:="entry") λ_ _ _ _ _ _ _ _=>rfl;have gn:Ym K i "ask" ef:=⟨cQ,fo,fJ⟩;have(_,ap,fK):=Zw eE;have bn:=ap.b3 (p0:="self") (p1:="net") (p2:="entry") λ_ _ _ _ _ _ _ _ _=>rfl;have bz:Ym K i "lines_for" eg:=⟨cR,fp,fK⟩;have(_,aq,bs):=Zw eF;have bo:=aq.b2 (p0:="net") (p1:="entries") λ_ _ _ _ _ _ _ _=>rfl;have(_,ar,bt):=Zw eG;have bp:=ar.b1 (p0:="deeds") λ_ _ _ _ _ _ _=>rfl;have(_,au,fL):=Zw eH;have du:=au.b1 (p0:="deeds") λ_ _ _ _ _ _ _=>rfl;have(_,av,fM):=Zw eI;have dv:=av.b1 (p0:="deeds") λ_ _ _ _ _ _ _=>rfl;have(_,aw,fN):=Zw eJ;have dw:=aw.b2 (p0:="rows") (p1:="told") λ_ _ _ _ _ _ _ _=>rfl;have(_,ax,fO):=Zw eK;have dx:=ax.b2 (p0:="rows") (p1:="things") λ_ _ _ _ _ _ _ _=>rfl;have(_,ay,fP):=Zw eL;have dy:=ay.b1 (p0:="rows") λ_ _ _ _ _ _ _=>rfl;have(_,az,fQ):=Zw eM;have dz:=az.b3 (p0:="table") (p1:="word") (p2:="numbers") λ_ _ _ _ _ _ _ _ _=>rfl;have(_,aA,fR):=Zw eN;have dA:=aA.b1 (p0:="_law_cell") λ_ _ _ _ _ _ _=>rfl;have(_,aC,fS):=Zw eO;have dC:=aC.b2 (p0:="_law_found") (p1:="_law_due") λ_ _ _ _ _ _ _ _=>rfl;have(_,aD,fT):=Zw eP;have dD:=aD.b1 (p0:="_law_cells") λ_ _ _ _ _ _ _=>rfl;have(_,aE,fU):=Zw eQ;have dE:=aE.b2 (p0:="_law_cells") (p1:="_law_things") λ_ _ _ _ _ _ _ _=>rfl;have(_,aF,fV):=Zw eR;have dF:=aF.b3 (p0:="_law_script") (p1:="_law_most") (p2:="_law_bound") λ_ _ _ _ _ _ _ _ _=>rfl;have(_,aG,fW):=Zw eS;have dG:=aG.b1 (p0:="_law_cell") λ_ _ _ _ _ _ _=>rfl;have(_,aH,fX):=Zw eT;have dH:=aH.b2 (p0:="_law_told") (p1:="_law_things") λ_ _ _ _ _ _ _ _=>rfl;have(_,aI,p):=Zw eU;have o:=aI.b1 (p0:="_law_found") λ_ _ _ _ _ _ _=>rfl;have(_,aJ,fY):=Zw eV;have dI:=aJ.b1 (p0:="_law_found") λ_ _ _ _ _ _ _=>rfl;have(_,aK,fZ):=Zw eW;have dJ:=aK.b4 (p0:="_law_told") (p1:="_law_lines") (p2:="_law_k") (p3:="_law_pair") λ_ _ _ _ _ _ _ _ _ _=>rfl;have(_,aL,ga):=Zw eX;have dK:=aL.b5 (p0:="_law_told") (p1:="_law_lines") (p2:="_law_one") (p3:="_law_other") (p4:="_law_pair") λ_ _ _ _ _ _ _ _ _ _ _=>rfl;have(_,aM,gb):=Zw eY;have dL:=aM.b2 (p0:="_law_rows") (p1:="_law_thing") λ_ _ _ _ _ _ _ _=>rfl;have(_,aO,gc):=Zw eZ;have dM:=aO.b1 (p0:="_law_rows") λ_ _ _ _ _ _ _=>rfl;have(_,aQ,gd):=Zw e0;have dO:=aQ.b2 (p0:="_law_rows") (p1:="_law_told") λ_ _ _ _ _ _ _ _=>rfl;have(_,aR,ge):=Zw e1;have dQ:=aR.b3 (p0:="_law_told") (p1:="_law_deed") (p2:="_law_found") λ_ _ _ _ _ _ _ _ _=>rfl;have(oc,od,an,sl,kV,dc,pm,cd,ct,ll,cc,gf):=e2;have bF:=vm (st:=jd) ll cc gf;have MP:Mk K CP f1:=⟨mP,a1,i1,cP⟩;have MW:Mk K r f3:=⟨mW,a3,i3,cW⟩;have MN:Mk K e f9:=⟨mN,a9,i9,cN⟩;have MS:Mk K j d7:=⟨mS,cF,fg,cS⟩;have MB:Mk K i eb:=⟨mB,cK,fk,cB⟩;refine{EK "law" "law" (Vj jd) (Zd jd) (Qm jd) .none kV dc pm an cd ct,λs P=>.of_eq Xb,λbase _ _=>?_};have G0:=UO (P:=a.prog) (w:=w) (mg:=mg) (base:=base) Q c;have G7:=XR (P:=a.prog) (w:=w) (mg:=mg) (base:=base) F7 TP c;have G4:=Qtp (P:=a.prog) (w:=w) (mg:=mg) (base:=base) F4 c;have G5:=Qx7 (P:=a.prog) (w:=w) (mg:=mg) (base:=base) F5;have G3:=Qrl (P:=a.prog) (w:=w) (mg:=mg) (base:=base) F3 C;have G6:=vn (P:=a.prog) (w:=w) (mg:=mg) (base:=base) F6 TP C c m6 b6 G0 k0 b0 (g a0) G4 k4 b4 (g a4) G5 k5 b5 (g a5) m7 G7 b7 50;have G2:=YW F2 C MW G3 b3 m6 b6 G6;have G1:=K4 (P:=a.prog) (w:=w) (mg:=mg) (base:=base) R TP;have v:=Qxn (P:=a.prog) (w:=w) (mg:=mg) (base:=base) T b;have aT:=Qyp (P:=a.prog) (w:=w) (mg:=mg) (base:=base) t b c;have cp:=YK (P:=a.prog) (w:=w) (mg:=mg) (base:=base) t b c;have bK:=Pu (P:=a.prog) (w:=w) (mg:=mg) (base:=base) aa b;have bI:=Qzp (P:=a.prog) (w:=w) (mg:=mg) (base:=base) W b;have bJ:=OB Y b L aT E;have bH:=Qix V b c gh bI di gi bJ dj;have aU:=Qtt U b M v F gg bH dh;have G9:=YC (P:=a.prog) (w:=w) (mg:=mg) (base:=base) F9 b;have bG:=zH S b bu bh L aT E 59;have B:=K7 F8 b c MN G9 b9 bu bG bh bv aU bi;have bc:=Qyo aq b c M v F;have z:=Q4p Z b c gj bK dk;have aV:=Pn ab b c L cp E;have aX:=Pq (P:=a.prog) (w:=w) (mg:=mg) (base:=base) ae b c;have bM:=ZH ad b c N z G aX br bk (g be);have A:=Pv (P:=a.prog) (w:=w) (mg:=mg) (base:=base) (C:=e) ag TS c;have cq:=yq (g:=Gx) (k:=2) (by decide) u TS b q n Q7e N z G O A H;have aY:=yq (g:=Gk) (k:=3) (by decide) u TS b q n cq N z G O A H;have bO:=Qxu ah TS q n aY aX br bk (g be) O A H;have bN:=Qsa (P:=a.prog) (w:=w) (mg:=mg) (base:=base) (C:=e) af TS;have bL:=YF ac TS b (Lx X h aS) MS bN dn bM fB dm (g cE) q n aY gk dp bO;have bb:=ZT ap f TP bL fA dl (g cD);have bS:=Q33 ao f TP b B J I (g D) M v F bw aV bj bv aU bi bc bs bo (g bf) bz bb bn;have bR:=WW am f TP c B J I (g D) bc bs bo (g bf) bz bb bn;have bQ:=Qrk (P:=a.prog) (w:=w) (mg:=mg) (base:=base) (CP:=CP) al f c;have aZ:=WG aj f TP MP G1 b1;have ba:=K9 ak f TP gl bQ dr m2 G2 b2 gn bS dt gm bR ds;have bP:=Qnd ai f MB aZ bl bx ba bm;have bd:=VB ar f MB aZ bl bx ba bm;have bT:=Qi0 au f bd bt bp (g bg);have bU:=OP av f TP b bd bt bp (g bg) B J I (g D) bw aV bj;have bX:=Qky (P:=a.prog) (w:=w) (mg:=mg) (base:=base) ay d;have bY:=ZI (P:=a.prog) (w:=w) (mg:=mg) (base:=base) az d;have bW:=VH ax TP MP G1 b1 m2 G2 b2 bX fP dy (g cY) bY fQ dz (g cZ);have bV:=OM aw c bW fO dx (g cX);have bZ:=Q0v (P:=a.prog) (w:=w) (mg:=mg) (base:=base) aA d.abs;have cb:=Qx9 aD d bZ fR dA (g c0);have cg:=Q41 (P:=a.prog) (w:=w) (mg:=mg) (base:=base) aG;have ce:=Qtn aE d cg fW dG (g c5);have cf:=Q0n (P:=a.prog) (w:=w) (mg:=mg) (base:=base) aF d;have ca:=UK (P:=a.prog) (w:=w) (mg:=mg) (base:=base) aC d;have ch:=ZE (P:=a.prog) (w:=w) (mg:=mg) (base:=base) aH d;have l:=KS (P:=a.prog) (w:=w) (mg:=mg) (base:=base) aI d;have ci:=PD (P:=a.prog) (w:=w) (mg:=mg) (base:=base) aJ d;have cj:=WO aK d l p o (g m);have ck:=SZ aL d ci fY dI (g c7) cj fZ dJ (g c8);have cl:=YD (P:=a.prog) (w:=w) (mg:=mg) (base:=base) aM d;have cm:=Pp aO d l p o (g m);have cn:=VM aQ cm gc dM (g db) cl gb dL (g da);have co:=XZ aR d ch fX dH (g c6) ck ga dK (g c9) l p o (g m);exact Q3h (M:=66) bF d (by decide) (by decide) (by decide) (by decide) (by decide) cb fT dD (g c2) ce fU dE (g c3) cf fV dF (g c4) bP fF dq (g cJ) l p o (g m) co ge dQ (g de) bT fL du (g cT) ca fS dC (g c1) bU fM dv (g cU) cn gd dO (g dd) bV fN dw (g cV)
end
theorem Q9r{l:Np}{q:Gn}{b:List TQ}{k:(TQ->Option Gh)->Heap->Prop}{g:Ti->Heap->Prop}{d:C9}{K:Ha->Gd}(n:l.most/63)(e:d.params.defaults=[])
  (m:∀(w:Ti)(h:Heap),g w h->(K w.params).In h)
  (F:∀(w:Ti)(c:TQ->Option Gh)(i:Ge)(h:Heap),(K w.params).In h->h.Ns El c->c d.name/↑i->
   ∃j:Du,(∀(s:Gw)(u:Gh),RS s j {[u],[]} [("_law_script",u)])/\∀a:Heap,(K w.params).In a->a.Ns El c->Qz l.prog w (K w.params) c a Z4 67 i j ["_law_script"] (oi (K w.params))):
  CL q b k g l.row.toRowW d [] (λf a=>M4 f a):=
 L2.YX (n:=63) (k:=67) (x:="_law_script") (CX:=λ_=>Z4) (sp:=λw=>oi (K w.params)) n (by decide) e {1,by decide,by decide} m F (λ_ _ a j i _ c=>{a,j,1,c,i,λ_=>rfl}) λ_ _ _ _ _ z=>z
end K04
theorem PySem.Challenge.cw_samebook_k04_whole_tellings_shown_holds : PySem.Challenge.rw_samebook_k04_whole_tellings_shown.Holds := by
  exact K04.head λ K g d c e b f => K04.Q9r (l := PySem.Challenge.rw_samebook_k04_whole_tellings_shown) rfl e b λ w j i h KX G a => K04.UX KX G (by rw [c] at a; exact a) (f w)
