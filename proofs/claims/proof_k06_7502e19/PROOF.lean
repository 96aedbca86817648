import PyProof.Rows.All
import KE.BytesK
import KE.KBytesAny
import KE.KDictLaws
import KE.KDictList
import KE.KDictOf
import KE.KDictSum
import KE.KIsAll
import KE.KItem
import KE.KItemsList
import KE.KRevIter
import KE.KxBytes
import Lean
import OpenK.KLine
import PyProof.EqAt
import PyProof.EqKinds
import PyProof.P3Eq
import PyProof.P3In
import PyProof.TupleCall
import PyProof.ZipIter
import PySem.Challenge.RW_samebook_k06_whole_back_is_back
import Wide.FinOn
set_option maxHeartbeats 16000000
abbrev Gs:=@if_neg
abbrev GV:=@if_pos
abbrev Td:=@decide_eq_false
abbrev Ti:=@decide_eq_true
abbrev Du:=@of_decide_eq_true
abbrev EB:=@if_false
abbrev EK:=@beq_eq_false_iff_ne
abbrev LA:=@beq_self_eq_true
abbrev FS:=@beq_iff_eq
abbrev F0:=@or_false
abbrev Mo:=@if_true
abbrev BO:=@and_true
open Option renaming some->Ga,none->Gq,map_some->D0,isSome_map->SA,map_eq_some_iff->L6,ne_none_iff_exists'->Mf,isSome_iff_exists->Mv,isSome_some->NY,getD_none->Bi,none->HL
open PySem renaming wpAny_bind->Gb,Addr->Gd,Value->Gj,wpAny_pure->Gm,Program->Gn,Shared->Gz,boot_len->GX,World->Tg,sizeLine->TH,sizeLine_eq->TJ,Str->TQ,model->TU,starEach->T4,Paired->Dg,FuncData->Do,wpAny_call_entry->DC,wpAny_newObj_type->DD,wpAny_field->DG,wpAny_callSpecial?_slot->DN,PyData->DO,Stmt->DR,Around->DT,Expr->D4,wpAny_holding->D9,mainGlobals->Ea,compareOp->Ee,sysModules->Ef,wpAny_Call_Name_kw->Eg,wpAny_seqItems->Eh,mem_of_lookup->Eo,wpAny_truthy_bool->EH,wpAny_dictEntries->EJ,wpAny_mono->ET,wpAny_setField_rec->EX,cLine->EY,wpAny_typeNameOfWhole_keyiter->E3,IsPair->E5,wpAny_typeNameOfWhole_valiter->E6,wpAny_specialOf->Sd,backTo->Sf,wpAny_passesOwn->Sz,wpAny_typeNameOf_keyiter->SK,wpAny_typeNameOf_valiter->SN,Obj->S8,tupleKind_room_in1->Le,wpAny_dictEpoch->Lj,builtinLookup_eq_fast->Lu,wpAny_setField->Lx,DictEntry->Lz,wpAny_isInstance->LB,wpAny_notOrdered_dict->Fc,wpAny_isOneOf_valiter->Fe,wpAny_rule->Fg,wpAny_attempt->Fk,NameKind->Fn,wpAny_pyIter_revIter->Fp,wpAny_updateSeq_pair->Ft,wpAny_execs_nil->Fw,wpAny_updateSeq->FA,wpAny_ite_split->FC,typeLookup_type->FD,sizeLine->FL,wpAny_pyIter_tuple->FP,ReadsAll->FZ,wpAny_fieldsOf->Ma,wpAny_letGo->Mr,wpAny_pyIter_slot->Ms,wpAny_comprehension_free->Mx,wpAny_onRaise->MA,Scope->ME,wpAny_Call_method0_late->MH,wpAny_Dict_empty->MI,call->ML,wpAny_pyNext_range_end->MQ,wpAny_pyIter_rangeiter->MR,codeAny_mono->MU,wpAny_Call_method_late->MX,call_meetsIn->MZ,Pos->M3,Reads->M9,IsZip->Nb,wpAny_isTrue_Compare1->Nc,wpAny_isOneOf_keyiter->Nf,wpAny_pyNext_rev_item->Nh,IsRangeIter->Np,isSubtype_stop->Nv,wpAny_pyIter_keyiter->Nw,wpAny_pyNext_rev_end->Nx,evalArgs_none->NE,wpAny_standAt->NN,wpAny_handled->NP,plainId_quiet->NQ,wpAny_pyIter_range->NT,IsPart->NW,call_meets->NX,wpAny_getItem_heap->NZ,wpAny_setItem_heap->Rs,call_reversed_list->RA,Within->RG,wpAny_assign_Name->RH,BindsTo->RM,Keyword->RO,list_append->RP,eqIsQuiet_byValue->RS,wpAny_pyIter_enum->RV,wpAny_pyHash_int->RZ,wpAny_pyHash_str->Ba,wpAny_execs_cons->Bb,wpAny_forIn_list->Bl,wpAny_of_eq->Bs,wpAny_throw->Bt,Env->Bv,wpAny_ret_mkInt->By,codeAny_builtin->BA,wpAny_Name->BG,ZipApart->BQ,wpAny_newTuple->BR,intBits_le_64->Cm,evalPart_none->CC,call_list_seq->CF,wpAny_in_heap->CG,DefRec->C6,Params->C7,Result->Ha,wpAny_typeOf->Hd,seqIndex_neg->He,seqIndex_of->HK,HeapKind->HM,wpAny_call->IF,typeIs_str->II,PlainAttrs->IJ,Tok->J4,Sem->J8
open List renaming mem_of_getElem?->Gc,getElem?_eq_getElem->Ge,getElem?_eq_some_iff->Gg,mem_append->Gh,length_append->Gk,mem_cons_of_mem->Gr,mem_append_left->Gu,length_map->Gv,length_singleton->Gy,mem_singleton->Tb,mem_cons_self->Tc,mem_cons->Tf,map_cons->Tp,size_toArray->Tq,getElem?_map->Ts,getElem?_append_left->Tt,mem_map->Tw,take_length->Tz,length_cons->TB,take_add_one->TF,mem_append_right->TL,getElem?_append_right->TR,map_congr_left->TX,map_append->TY,length_take->Dc,getElem?_eq_none->Df,map_map->Dj,append_assoc->Dk,mem_iff_getElem?->Dl,cons_append->Dp,mem_of_mem_take->Dq,nodup_cons->Dy,getD_eq_getElem?_getD->DL,lookup_cons->DP,nodup_append->DQ,getElem?_take_of_lt->DS,append_nil->DV,replicate->DW,find?_cons->DZ,getLast?_eq_some_getLast->Es,mem_flatMap->EC,nil_append->EL,getElem?_reverse->EN,range->ES,not_mem_nil->EU,countP_cons->EV,all_eq_true->EW,length->E1,take_append_of_le_length->E4,length_range->E8,filter_cons_of_pos->Sa,idxOf_lt_length_of_mem->Sh,mem_range->Sk,append_of_mem->Sr,length_replicate->Ss,eq_nil_or_concat->Su,mem_of_find?_eq_some->Sx,reverse_cons->SE,getLast?_append->SF,getLast?_concat->SH,dropLast_concat->SI,take_succ_cons->SQ,length_reverse->SS,nodup_nil->SV,mem_reverse->SW,getElem?_cons_succ->SY,filter_cons_of_neg->S0,filter_append->Lf,length_nil->Lh,dropLast_concat_getLast->Lo,map_nil->Ly,getLastD_eq_getLast?->LD,getElem?_zip_eq_some->LF,length_pos_iff->LG,sum_cons->LK,length_erase_of_mem->LN,drop_eq_getElem?_toList_append->LO,forIn_cons->LQ,length_zip->LR,lookup->LV,ext_getElem?->L8,length_pos_of_mem->L9,getElem_mem->Fi,map_id->Fq,mem_erase_of_ne->Fs,map->Fu,mem_filter->Fv,find?_some->Fy,filterMap_cons->FE,mem_filterMap->FQ,getElem_idxOf->Mb,take_take->Mc,zip_cons_cons->Md,forIn_nil->Me,pairwise_iff_getElem->Mj,any_eq_false->Mn,flatMap_cons->Mu,append_cancel_right->My,map_take->MD,getElem?_replicate->MF,dropLast_cons_cons->MJ,getElem?_set_self->MO,of_mem_zip->M7,take_append_drop->Ni,length_filter_le->Nj,getElem?_set_ne->No,take_zero->Ny,drop_zero->Nz,count_le_length->NA,flatMap_append->NF,drop_succ_cons->NG,any_cons->NO,getElem?_take->RB,mem_replicate->RC,find?_eq_none->RD,idxOf_append->RU,pairwise_map->RX,length_drop->Bh,getLast_mem->Bn,zipIdx_cons->Bp,append_inj'->Bq,take_left'->Bz,zipIdx_nil->BC,map_drop->CQ,Nodup->IM,take->JM
open PySem.W renaming Frag->Gf,findIn->TM,kitOne->T1,isFn->De,keepIn->DY,kia_one->Ej,emptyDict->Ep,fnOf->Ev,kia_tup->Ey,plainGet->EA,hasDictIn->EG,plainOver->E7,instObj->Sc,kitAny->Sn,makesIn->Sy,mg_of->Lq,nsIn->LX,kitx_list->LY,kitx_dict->LZ,methodCall_KW->Fa,plainGet_of->FF,codeIn->FM,lookIn->FR,callWith_K->FU,methodObj->Ml,cellsFrom_some->MV,takerIn->M4,OpenLaw->M8,callWith_K0->ND,kitx_float->NU,kitx_tuple->NV,kitx_none->RI,kitx_bool->RJ,handedIn->Bc,kitx_int->Bd,kitx_str->Be,kdl_call->Bm,KdlSrc->BN,WalkO->CH,kdl_hint_values->C3,OpenLaw->C5,kdl_hint_dict->Hn,hideAll_size->Ht,hideAll_none->Hu,truthy_bytes->HC,looks_findIn->HG,hideAll_get->HQ,findObj_own->HR,looks_clsIn->HS,kdu_collect->HW,XL->HX,of_hideAll->Ix,codeRec_of->IG,pre_splitW->IK,mg_none_of->IN,len_bytes->IP,get_value->IQ,method_fn->IR,set_plain->IS,make_core->IU,specialIn->IW,kdx_alive->IZ,eq_bytes->JA,ne_bytes->JB,osa_open->JD,any_some->JE,InitBack->JF,makes_of->JG,kitx_own->JH,kdl_dict->JO,hideAll->JP,bind_fn->JQ,takesIn->JR,kIn_of->JT,InstAt->JW,typeIn->JX,mroIn->JZ
open Bool renaming true->Gi,false->Gx,false_ne_true->TD,and_eq_true->T5,false_eq_true->DK,and_eq_true_iff->EZ,and_true->SM,and_self->LJ,eq_iff_iff->LP,eq_false_iff->Mq,or_false->CD,not_true->CJ
open PySem.Heap renaming get?_push_of_some->Gp,lt_size->Tn,get?_push_size->To,get?_update_self->DU,SameBut->Ew,get?_update_other->Sg,size_push->Sm,ExtBut->Nu,IsTuple->Hj
open PySem.PyData renaming canLayAll0->Gw,canLay0->Tv,depthAll->TV,eqv->TW,eqvAll->Ds,depth->Dw,strOk->DM,int->Ei,list->Fo
open Nat renaming le_refl->GJ,zero_le->Tu,lt_of_lt_of_le->TZ,ne_of_lt->T2,lt_or_ge->Dh,le_trans->DA,ne_of_gt->DB,le_add_right->D2,lt_irrefl->EF,lt_succ_self->ER,lt_of_le_of_lt->Sj,mul_le_mul_right->SG,add_lt_add_left->SR,add_mul->S9,le_succ->LW,min_eq_left->Fz,le_of_lt->FG,le_of_eq->FH,lt_add_of_pos_right->MK,not_lt->RE,add_zero->RT,lt_succ_of_lt->RW,lt_trichotomy->RY,min_le_right->Bg,le_of_not_lt->Bk,succ_ne_self->Bo,one_mul->Bu,mul_le_mul->BP,add_assoc->CI,lt_trans->Hg,sub_self->Hl
open PySem.Paired renaming length->GQ,snoc->E2
open PyProof.Rows renaming boot_isinstance->GY,boot_list->T9,boot_tuple->Di,callWith_type1->ED,boot_str->EO,slot_tuple_getitem->SO,boot_bool->Lg,subscriptTail_builtinR->L4,boot_int->Ff,AllBare->Mm,IntsAre->MY,Constant_none->NM,callWith_builtin1->Bf,wpAny_notIn_heap->Bj,isnot_none_gen->BH,slicePart_none->BI,Subscript_->BJ,zipApart_new->Cd,boot_reversed->CL,boot_sorted->CY,isTrue_plain->C8,boot_abs->Ho,boot_min->Hq,is_none_gen->Hw,isTrue_and->IA,boot_range->IB,Call_->JV
open Ne renaming symm->Ta
open PySem.F renaming plainAttrs_list->Te,slot_list_append->Tx,type_list_append->TC,slot_list_pop->Et,type_list_pop->Eu,plain_extend_loop->EM,plainAttrs_dict->SX,slot_dict_setdefault->Ll,type_dict_setdefault->Lm,slot_list_extend->LL,type_list_extend->LM,slot_dict_getitem->Mg,entry_extend_loop->Mi,slot_dict_values->MC,slot_dict_get->Nk,type_dict_get->Nl,args_list_append_2->BL,args_dict_values_1->BS,entry_list_append->B9,entry_dict_values->Cf,args_list_init_2->CO,args_list_sort_1->CT,type_dict_values->CU,typeCall_list_1->CZ,entry_list_init->C0,entry_list_sort->C4,slot_list_sort->Hk,called_list->HU
open PySem.PassesOwn renaming never->Tj
open PySem.Value renaming ref->Tk,none->DE,bool->La,type->Lb,int->FJ,str->FK,float->Nm,isInt_shape->RF,isStrOf->Ck,isInt->Hr,bytes->Hs
open Option.some renaming inj->T3,injEq->IY
open Array renaming getElem?_eq_getElem->T6,length_toList->DF,getElem?_toList->Ed,getElem?_eq_none->El,toArray_toList->SD,forIn_toList->LU,append_assoc->NS,size_push->BB,toList->C9
open PySem.Builtin.SmallTypes renaming nextOf->T8,ownedTupleIsFree->Dm,ownedTupleHandOut->LH
open List.cons renaming injEq->Db
open Int renaming emod_lt_of_pos->Dx,emod_nonneg->DI,toNat_natCast->Er,toNat->E9,zero_add->Si,mul_le_mul_of_nonneg_right->Fj,ediv_one->Hc,le_of_lt->Hm,pow_pos->HP
open PySem.NameKind renaming free->Dz,cell->Mw
open True renaming intro->DJ
open Or renaming inl->DX,inr->Sq
open PySem.Heap.SameBut renaming update->Eb,refl->I2
open Prod.mk renaming injEq->Ek
open PySem.Builtin.Tuple renaming tupleHashOf->Em,tupleExact->SJ,tupleItemsOf->FX
open PySem.Builtin.Dict_items renaming ownsTuple->Ez,newIterator->Br,dictOf->Ce
open PySem.Builtin.List renaming listLengthHint->EE,listExtendWith->Lv,listTooLong->LI,listSameRef->Mz,listItems->M1,listUpdate->C2
open PySem.Str renaming ofString->EI,empty->Lp
open ForInStep renaming yield->Se
open PySem.Obj renaming data_mapFields->So,mapSeq->Lw,isFreed_of_fields->Fd,mapFields->Fl,cls_mapFields->Mt,data_mapDictKeys->Nr
open PySem.Builtin.Slice renaming slicePlaces->Sw,sliceAdjust->LC,sliceApplied->FW,slicePartIndex->Bw,sliceFields->B8
open PySem.Builtin.Range renaming rangeSize->SU,small->NH,rangeFitsLong->BF
open PySem.Calls renaming callWith_builtin->Lc,spliced_nil->L3,Name_function_global->FN,spliced_cons->FT,call_function_entry->Mh,evalArgs_plain->Nq,call_len_list->NC
open PySem.Builtin.Dict renaming showsAll->Ls,keyAndDefault->BM,pendingCount->Cb,dictSlotNone->Cc,noArgs->HV
open Classical renaming choose->Fh,choose_spec->Ng,byContradiction->Ci
open Sum renaming inl->FI,inr->MM
open PyProof renaming noPylong_small->MT
open PySem.Around renaming under_plainId->NB,under->RK
open PySem.W.Fast renaming te14364793385576792824->NI,te10274390034422433532->NJ,te14082659384304107361->NK,te14289696077712309145->NL,te4187177175401517315->NR
open PySem.Code renaming isFrame->RL,frames->HH
open Prod renaming ext->RN
open PySem.AutoSeq1 renaming list_extend_list_list_0->RQ
open PySem.SeqAt renaming notIn_list_reads->Bx,compareEq_reads->BD,compareNe_reads->BE,in_list_reads->Ca,eqAt_reads->Hh
open PySem.EqNone renaming eq_none_none->BU,eq_none_bool->BV,eq_bool_none->BW,ne_none_none->BZ,ne_none_bool->B4,ne_bool_none->B5,eq_none_int->Co,eq_none_str->Cp,eq_int_none->Cq,eq_str_none->Cs,ne_none_int->Cu,ne_none_str->Cv,ne_int_none->Cw,ne_str_none->Cz
open PySem.EqMixed renaming eq_bool_str->BX,eq_str_bool->BY,ne_bool_str->B6,ne_str_bool->B7,eq_int_str->Cr,eq_str_int->Ct,ne_int_str->Cy,ne_str_int->CA
open Function renaming comp->CK
open PySem.Shared renaming TypeIs->CM,heap->HN
open List.Pairwise renaming imp_of_mem->CV,nil->IX
open PySem.MeetsSeq renaming list_pop_last->Hf
open PySem.CmpOp renaming NotIn->Hv,In->JU
open PySem.Data renaming fields->Hx,cell->I7,seq->JY
open PySem.Walks renaming range->Hy
open PySem.IsRange renaming new->Hz
open PySem.SeqAt.EqAt renaming int_str->HY,str_int->HZ
open PySem.P renaming truthy_int->IC,truthy_str->ID,add_list->JK
open PySem.W.Looks renaming here->IE
open PySem.Heap.IsSliceOf renaming new->IH
open PySem.W.WShape renaming has->IL
open PySem.Within renaming cons->IT
open PySem.Heap.Ns1 renaming of_empty->IV
open PySem.Heap.IsTuple renaming push->I3
open PySem.W.XL renaming keeps->I6
open PySem.DictEntry renaming refKey->JC
open PyProof.Rows.IsTup renaming new->JI
open PySem.IsL renaming update->JJ
open PySem.W.WData renaming int->JL
open PySem.Expr renaming Call->JN
open PySem.Heap.DictOf renaming new->JS
open Sum.inl renaming inj->Aa
open Sum.inr renaming inj->Ab
open PySem.W.OpenLaw renaming pre->Ac
abbrev Xb:=@rfl
set_option Elab.async false
set_option linter.all false
set_option maxRecDepth 100000
set_option bootstrap.genMatcherCode false
set_option hygiene false
open Lean in def sQ(a:Array (TSyntax `term)):MacroM (Array (TSyntax `term)):=a.flatMapM fun x=>do let h<-`(_);let r<-`(Xb);if x.raw.isOfKind `num then return x.raw[0].getAtomVal.toList.toArray.flatMap fun|'0'=>#[h,r]|'1'=>#[r]|'2'=>#[h,h]|'3'=>#[h]|_=>#[] else return#[x]
open Lean in def sQp(n:Nat)(x:TSyntax `term):MacroM (TSyntax `rcasesPat):=match n with|0=>`(rcasesPat|_)|n+1=>match x with
 |`(($x,$y,*))=>do let r<-(#[x]++y.getElems).mapM (sQp n);`(rcasesPat|⟨$[$r:rcasesPat],*⟩)
 |`($x:ident)=>`(rcasesPat|$x:ident)
 |_=>`(rcasesPat|_)
local macro_rules|`(tactic|have($x,$y,*):=$e)=>do let r<-sQp 9 (<-`(($x,$y,*)));`(tactic|obtain $r:rcasesPat:=$e)
local macro_rules|`(«term{_}»|{$a,*})=>do let v:=a.getElems[0]!.raw[0].getAtomVal;if a.getElems.size=1&&(v.length=1|| !v.startsWith "4")then`(pv $(a.getElems[0]!))else let r<-sQ a;`(⟨$r,*⟩)
local macro_rules|`(tactic|subst_vars)=>`(tactic|refine _root_.Sb.hid fun g_ h_=>?_)
local macro_rules|`(tactic|and_intros)=>`(tactic|(refine h_ ?_;clear h_))
set_option hygiene true
local macro_rules|`(tactic|ext)=>`(tactic|omega)
local macro_rules|`(tactic|exists $a,*)=>do let r<-sQ a;`(tactic|refine ⟨$r,*, ?_⟩)
local macro_rules|`(tactic|ac_rfl)=>`(tactic|first|with_reducible assumption|exact GJ _|exact Tu _|decide|exact Nat.succ_le_succ (Tu _)|exact D2 _ _|exact Nat.le_add_left _ _|exact ER _|exact FG (by assumption)|exact DA (by assumption) (by decide)|exact Sj (by assumption) (by decide)|exact DA (by assumption) (by assumption)|exact TZ (by assumption) (by assumption)|exact Sj (by assumption) (by assumption)|exact DA (FH (by assumption)) (DA (by assumption) (by decide))|exact Sj (DA (FH (by assumption)) (by assumption)) (by decide)|exact Nat.le_succ_of_le (by assumption)|exact EF _ (by assumption)|exact absurd (by assumption) (EF _)|fail)
local macro_rules|`(tactic|omega)=>`(tactic|(ac_rfl;done))
local macro_rules|`(tactic|lia)=>`(tactic|(ac_rfl;done))
local macro_rules|`(tactic|infer_instance)=>`(tactic|first|exact .inl rfl|exact .inr rfl|exact .inr (.inl Xb)|exact .inr (.inr Xb)|assumption)
local macro_rules
 |`(tactic|eq_refl)=>`(tactic|first
  |exact⟨Xb,Xb,Xb,by decide+kernel,Xb,by decide+kernel,by decide+kernel⟩
  |exact⟨by rfl,by decide+kernel,by decide+kernel,by decide+kernel⟩|fail)
theorem Wz:1<=FL:=by decide
theorem Yy:2<=FL:=by decide
theorem Vm:3<=FL:=by decide
theorem oE:4<=FL:=by decide
noncomputable section
namespace L2
open PySem PySem.Spec PyProof.Rows
noncomputable def Ym(s:DR)(j:Nat):DR:=match s with
 |.ClassDef _ _ _ a _ _ _ _ _ _ _=>a.getD j (.Pass {(0),(0),(0),(0)})
 |_=>.Pass {(0),(0),(0),(0)}
noncomputable def Vk(s:DR):Arguments:=match s with
 |.FunctionDef _ a _ _ _ _ _ _ _ _=>a
 |_=>{posonlyargs:=[],args:=[],vararg:=Gq,kwonlyargs:=[],kw_defaults:=[],kwarg:=Gq,defaults:=[]}
def Zs(s:DR):List DR:=match s with
 |.FunctionDef _ _ b _ _ _ _ _ _ _=>b
 |_=>[]
def Qo(s:DR):ME:=match s with
 |.FunctionDef _ _ _ _ _ _ a _ _ _=>a
 |_=>{kind:=.function,names:=[],isGenerator:=Gx,isCoroutine:=Gx}
end L2
section
namespace Sb
open PySem L2
inductive Yx(K:Gf)(x q:TQ)(st:DR)(f:Gd):Prop
 |mk (oc:_) (od:_) (an:_) (sl:_) (kV:_) (dc:_) (pm:_) (cd:_) (ct:_) (h0:K.lookup f=Ga ⟨oc,od,.func (Ev x q (Vk st) (Zs st) (Qo st) .none kV dc pm an cd ct),sl⟩) (h1:FM K cd q=Gi) (h2:DY K (.ref f)=Gi):Yx K x q st f
abbrev Re(K:Gf)(x:TQ)(f:Gd):Prop:=LX K Ea x=Ga (Ga (.ref f))
abbrev hE(K:Gf)(c:Gd)(x:TQ)(f:Gd):Prop:=TM K (.ref c) x=Ga (Ga (.ref f))
abbrev ih(K:Gf)(x:TQ):Prop:=LX K Ea x=Ga Gq
end Sb
end
section
namespace K06
open PySem L2 Sb
def top(i:Nat):DR:=PySem.Challenge.pw_samebook_k06_whole_back_is_back.main.body.getD i (.Pass {(0),(0),(0),(0)})
abbrev j9:DR:=top 1
abbrev Wt:DR:=Ym (top 2) 0
abbrev Ve:DR:=Ym (top 2) 1
abbrev jX:DR:=Ym (top 2) 2
abbrev rJ:DR:=Ym (top 2) 3
abbrev ri:DR:=Ym (top 2) 4
abbrev Xw:DR:=Ym (top 2) 5
abbrev lb:DR:=Ym (top 2) 6
abbrev Vb:DR:=Ym (top 2) 7
abbrev jJ:DR:=Ym (top 2) 8
abbrev jT:DR:=Ym (top 2) 9
abbrev jo:DR:=Ym (top 2) 10
abbrev kJ:DR:=top 4
abbrev Og:DR:=top 5
abbrev sr:DR:=top 6
abbrev R8:DR:=Ym (top 7) 0
abbrev rm:DR:=Ym (top 7) 1
abbrev Ub:DR:=Ym (top 7) 2
abbrev oD:DR:=Ym (top 7) 3
abbrev lJ:DR:=Ym (top 12) 0
abbrev p9:DR:=Ym (top 12) 1
abbrev rD:DR:=Ym (top 12) 2
abbrev rV:DR:=Ym (top 13) 0
abbrev Xl:DR:=Ym (top 13) 1
abbrev nE:DR:=top 14
abbrev qj:DR:=top 15
abbrev qL:DR:=top 16
abbrev nY:DR:=top 19
abbrev Ou:DR:=top 20
abbrev Jc:DR:=top 21
abbrev l7:DR:=Ym (top 22) 0
abbrev Oc:DR:=Ym (top 22) 1
abbrev Ij:DR:=Ym (top 22) 2
abbrev ja:DR:=Ym (top 22) 3
abbrev jd:DR:=Ym (top 22) 4
abbrev qQ:DR:=Ym (top 22) 5
abbrev rK:DR:=top 23
abbrev qE:DR:=top 25
abbrev sAt:DR:=top 26
abbrev lq:DR:=top 27
abbrev pQ:DR:=top 28
abbrev pj:DR:=top 29
abbrev nR:DR:=top 30
abbrev jh:DR:=top 31
abbrev V7:DR:=top 32
abbrev qm:DR:=top 33
abbrev su:DR:=top 34
abbrev Ux:DR:=top 35
abbrev Uk:DR:=top 36
abbrev qY:DR:=top 37
abbrev pC:DR:=top 38
abbrev kz:DR:=top 39
abbrev rL:DR:=top 40
abbrev sSo:DR:=top 41
abbrev qJ:DR:=top 42
abbrev jz:DR:=top 43
end K06
end
section
namespace K06
open PySem L2 Sb
inductive Fx(K:Gf):Prop
 |mk {CP CW CN CS CB f0 f1 f2 f3 f4 f5 f6 f7 f8 f9 f10 f11 f12 f13 f14 f15 f16 f17 f18 f19 f20 f21 f22 f23 f24 f25 f26 f27 f28 f29 f30 f31 f32 f33 f34 f35 f36 f37 f38 f39 f40 f41 f42 f43 f44 f45 f46 f47 f48 f49 f50 f51 f52 f53 f54 f55:Gd} {tkn tfew twal tste:J4}
  (aP:Re K "Places" CP) (pP:EA K CP Lp=Gi) (dP:EG K CP=Gi) (oP:E7 K CP=Gi) (sP:TM K (.ref CP) "__setattr__"=Ga (Ga (.builtin "object.__setattr__"))) (mP:Sy K CP=Gi) (cP:DY K (.ref CP)=Gi)
  (nPthings:TM K (.ref CP) "things"=Ga Gq) (nPforms:TM K (.ref CP) "forms"=Ga Gq) (nPknown:TM K (.ref CP) "known"=Ga Gq) (aW:Re K "Walk" CW) (pW:EA K CW Lp=Gi) (dW:EG K CW=Gi) (oW:E7 K CW=Gi)
  (sW:TM K (.ref CW) "__setattr__"=Ga (Ga (.builtin "object.__setattr__"))) (mW:Sy K CW=Gi) (cW:DY K (.ref CW)=Gi) (nWplaces:TM K (.ref CW) "places"=Ga Gq) (nWsteps:TM K (.ref CW) "steps"=Ga Gq) (aN:Re K "Net" CN)
  (pN:EA K CN Lp=Gi) (dN:EG K CN=Gi) (oN:E7 K CN=Gi) (sN:TM K (.ref CN) "__setattr__"=Ga (Ga (.builtin "object.__setattr__"))) (mN:Sy K CN=Gi) (cN:DY K (.ref CN)=Gi) (nNforms:TM K (.ref CN) "forms"=Ga Gq)
  (nNleads:TM K (.ref CN) "leads"=Ga Gq) (nNmembers:TM K (.ref CN) "members"=Ga Gq) (nNusers:TM K (.ref CN) "users"=Ga Gq) (nNtable:TM K (.ref CN) "table"=Ga Gq) (nNlinks:TM K (.ref CN) "links"=Ga Gq) (nNlinkat:TM K (.ref CN) "link_at"=Ga Gq)
  (nNabove:TM K (.ref CN) "above"=Ga Gq) (aS:Re K "Showing" CS) (pS:EA K CS Lp=Gi) (dS:EG K CS=Gi) (oS:E7 K CS=Gi) (sS:TM K (.ref CS) "__setattr__"=Ga (Ga (.builtin "object.__setattr__"))) (mS:Sy K CS=Gi)
  (cS:DY K (.ref CS)=Gi) (nSthings:TM K (.ref CS) "things"=Ga Gq) (nSnet:TM K (.ref CS) "net"=Ga Gq) (nSlines:TM K (.ref CS) "lines"=Ga Gq) (nSnumbers:TM K (.ref CS) "numbers"=Ga Gq) (aB:Re K "Book" CB) (pB:EA K CB Lp=Gi)
  (dB:EG K CB=Gi) (oB:E7 K CB=Gi) (sB:TM K (.ref CB) "__setattr__"=Ga (Ga (.builtin "object.__setattr__"))) (mB:Sy K CB=Gi) (cB:DY K (.ref CB)=Gi) (nBplaces:TM K (.ref CB) "places"=Ga Gq) (nBtold:TM K (.ref CB) "told"=Ga Gq)
  (nBentries:TM K (.ref CB) "entries"=Ga Gq) (cfew:LX K Ea "FEW_PARTS"=Ga (Ga (.int 4 tfew))) (cwal:LX K Ea "WALKS_ANEW"=Ga (Ga (.int 1024 twal))) (cste:LX K Ea "STEPS_ANEW"=Ga (Ga (.int 40000 tste))) (anm:LX K Ea "NO_MOMENT"=Ga (Ga (.str "no moment" tkn)))
  (a0:Re K "top_words" f0) (h0:Yx K "top_words" "top_words" nE f0) (a1:hE K CP "__init__" f1) (i1:De K (.ref f1)=Gi) (h1:Yx K "__init__" "Places.__init__" lJ f1) (a2:hE K CP "place_of" f2) (i2:De K (.ref f2)=Gi)
  (h2:Yx K "place_of" "Places.place_of" p9 f2) (a3:hE K CW "__init__" f3) (i3:De K (.ref f3)=Gi) (h3:Yx K "__init__" "Walk.__init__" rV f3) (a4:Re K "place_among" f4) (h4:Yx K "place_among" "place_among" qj f4)
  (a5:Re K "share_of" f5) (h5:Yx K "share_of" "share_of" qL f5) (a6:hE K CW "place_within" f6) (i6:De K (.ref f6)=Gi) (h6:Yx K "place_within" "Walk.place_within" Xl f6) (a7:hE K CP "place_by_form" f7)
  (i7:De K (.ref f7)=Gi) (h7:Yx K "place_by_form" "Places.place_by_form" rD f7) (a8:Re K "net_of" f8) (h8:Yx K "net_of" "net_of" j9 f8) (a9:hE K CN "__init__" f9) (i9:De K (.ref f9)=Gi) (h9:Yx K "__init__" "Net.__init__" Wt f9)
  (a10:hE K CN "take_in" f10) (i10:De K (.ref f10)=Gi) (h10:Yx K "take_in" "Net.take_in" Ve f10) (a11:hE K CN "key_of" f11) (i11:De K (.ref f11)=Gi) (h11:Yx K "key_of" "Net.key_of" jX f11) (a12:hE K CN "equal" f12)
  (i12:De K (.ref f12)=Gi) (h12:Yx K "equal" "Net.equal" rJ f12) (a13:hE K CN "merge" f13) (i13:De K (.ref f13)=Gi) (h13:Yx K "merge" "Net.merge" ri f13) (a14:hE K CN "merge_link" f14) (i14:De K (.ref f14)=Gi)
  (h14:Yx K "merge_link" "Net.merge_link" Xw f14) (a15:hE K CN "hang" f15) (i15:De K (.ref f15)=Gi) (h15:Yx K "hang" "Net.hang" lb f15) (a16:hE K CN "give_over" f16) (i16:De K (.ref f16)=Gi) (h16:Yx K "give_over" "Net.give_over" Vb f16)
  (a17:hE K CN "way" f17) (i17:De K (.ref f17)=Gi) (h17:Yx K "way" "Net.way" jJ f17) (a18:hE K CN "way_up" f18) (i18:De K (.ref f18)=Gi) (h18:Yx K "way_up" "Net.way_up" jT f18) (a19:hE K CN "rows" f19) (i19:De K (.ref f19)=Gi)
  (h19:Yx K "rows" "Net.rows" jo f19) (a20:Re K "lines_between" f20) (h20:Yx K "lines_between" "lines_between" kJ f20) (a21:Re K "links_needed" f21) (h21:Yx K "links_needed" "links_needed" Og f21) (a22:Re K "pairs_below" f22)
  (h22:Yx K "pairs_below" "pairs_below" sr f22) (a23:hE K CS "__init__" f23) (i23:De K (.ref f23)=Gi) (h23:Yx K "__init__" "Showing.__init__" R8 f23) (a24:hE K CS "write" f24) (i24:De K (.ref f24)=Gi) (h24:Yx K "write" "Showing.write" rm f24)
  (a25:hE K CS "write_link" f25) (i25:De K (.ref f25)=Gi) (h25:Yx K "write_link" "Showing.write_link" Ub f25) (a26:hE K CS "line_for" f26) (i26:De K (.ref f26)=Gi) (h26:Yx K "line_for" "Showing.line_for" oD f26)
  (a27:Re K "answers" f27) (h27:Yx K "answers" "answers" nY f27) (a28:hE K CB "__init__" f28) (i28:De K (.ref f28)=Gi) (h28:Yx K "__init__" "Book.__init__" l7 f28) (a29:hE K CB "answer" f29) (i29:De K (.ref f29)=Gi)
  (h29:Yx K "answer" "Book.answer" Oc f29) (a30:hE K CB "go_back" f30) (i30:De K (.ref f30)=Gi) (h30:Yx K "go_back" "Book.go_back" Ij f30) (a31:hE K CB "tell" f31) (i31:De K (.ref f31)=Gi) (h31:Yx K "tell" "Book.tell" ja f31)
  (a32:hE K CB "ask" f32) (i32:De K (.ref f32)=Gi) (h32:Yx K "ask" "Book.ask" jd f32) (a33:hE K CB "lines_for" f33) (i33:De K (.ref f33)=Gi) (h33:Yx K "lines_for" "Book.lines_for" qQ f33) (a34:Re K "least_clash" f34)
  (h34:Yx K "least_clash" "least_clash" rK f34) (a35:Re K "book_after" f35) (h35:Yx K "book_after" "book_after" Jc f35) (a36:Re K "told_after" f36) (h36:Yx K "told_after" "told_after" Ou f36) (a37:Re K "_law_any_word" f37)
  (h37:Yx K "_law_any_word" "_law_any_word" kz f37) (a38:Re K "_law_so" f38) (h38:Yx K "_law_so" "_law_so" sSo f38) (a39:Re K "_law_drawn_things" f39) (h39:Yx K "_law_drawn_things" "_law_drawn_things" lq f39) (a40:Re K "_law_drawn_deeds" f40) (h40:Yx K "_law_drawn_deeds" "_law_drawn_deeds" pQ f40)
  (a41:Re K "_law_any" f41) (h41:Yx K "_law_any" "_law_any" rL f41) (a42:Re K "_law_classes" f42) (h42:Yx K "_law_classes" "_law_classes" Uk f42) (a43:Re K "_law_barred" f43) (h43:Yx K "_law_barred" "_law_barred" qY f43) (a44:Re K "_law_whole" f44)
  (h44:Yx K "_law_whole" "_law_whole" qE f44) (a45:Re K "_law_after" f45) (h45:Yx K "_law_after" "_law_after" pC f45) (a46:Re K "_law_at" f46) (h46:Yx K "_law_at" "_law_at" sAt f46) (a47:Re K "_law_is_thing" f47) (h47:Yx K "_law_is_thing" "_law_is_thing" pj f47)
  (a48:Re K "_law_line_follows" f48) (h48:Yx K "_law_line_follows" "_law_line_follows" nR f48) (a49:Re K "_law_lines_show" f49) (h49:Yx K "_law_lines_show" "_law_lines_show" jh f49) (a50:Re K "_law_number_in" f50) (h50:Yx K "_law_number_in" "_law_number_in" V7 f50)
  (a51:Re K "_law_is_world" f51) (h51:Yx K "_law_is_world" "_law_is_world" qm f51) (a52:Re K "_law_world_fits" f52) (h52:Yx K "_law_world_fits" "_law_world_fits" su f52) (a53:Re K "_law_is_right" f53) (h53:Yx K "_law_is_right" "_law_is_right" Ux f53)
  (a54:Re K "_law_answered_so" f54) (h54:Yx K "_law_answered_so" "_law_answered_so" qJ f54) (a55:Re K "law" f55) (h55:Yx K "law" "law" jz f55) (z_len:ih K "len") (z_min:ih K "min") (z_abs:ih K "abs") (z_list:ih K "list") (z_tuple:ih K "tuple") (z_str:ih K "str")
  (z_bool:ih K "bool") (z_int:ih K "int") (z_isinstance:ih K "isinstance") (z_range:ih K "range") (z_reversed:ih K "reversed") (z_enumerate:ih K "enumerate") (z_zip:ih K "zip") (z_sorted:ih K "sorted"):Fx K
end K06
open PySem PySem.W PyProof.Rows
namespace K06
abbrev pw:Gn:=PySem.Challenge.pw_samebook_k06_whole_back_is_back
noncomputable abbrev qv:Gn:=view pw [1,2,4,5,6,7,9,10,11,12,13,14,15,16,18,19,20,21,22,23,25,26,27,28,29,30,31,32,33,34,35,36,37,38,39,40,41,42,43]
theorem once{l:C5}{q:Gn}{d:C6}{a:List (TQ×PySem.Expr)}{N:Nat}(H:Hook)(left:LeftO l.row.prog q [] (λs=>xlAt q [] s&&recOk l.row.toRowW.records s) H.obs H.val N)(b:defOf q l.row.name=Ga (d,a))(i:l.row.prog.theDef l.row.name=Ga (d.params,d.body,d.scope))(h:kwWritten? d.params.kwonlyargs d.params.kw_defaults=Ga a)
  (c:(!l.row.writes||l.row.records.isEmpty)=Gi)(j:l.row.wellSaid=Gi)(ok:(chainsOk q&&opensWell l.row.prog&&(frees l.row.toRowW&&l.row.within.isEmpty))=Gi)(g:l.row.prog.bare)(hw:l.row.toRowW.promised)(call:WalkO q [] (HX q []) H.says l.row.toRowW d a λf k=>ML f k):l.row.Holds:=
 holds_open left H.of H.keeps (λs e=>xl_of s (EZ.mp e).1) I6 b i h (λs e=>recFacts_of (EZ.mp e).2) c j ok g hw call
end K06
def PySem.W.Fast.tw9021464836532742150:Gn:=K06.pw
theorem PySem.W.Fast.te9021464836532742150:PySem.Challenge.pw_samebook_k06_whole_back_is_back=PySem.W.Fast.tw9021464836532742150:=rfl
local macro_rules|`(tactic|o_head $H:term)=>`(tactic|refine K06.once (q:=K06.qv) (N:=5824) $H ?hl (by rfl) (by rfl) (by rfl) (by rfl) (by assumption) (by decide+kernel) ⟨Xb,Xb,Xb,Xb,Xb,by decide+kernel⟩ ?hw ?hc)
set_option maxHeartbeats 0 in
theorem K06.head(W:∀(K:C7->Frag)(a:Tg->Heap->Prop)(d:C6),d.name="law"->d.params.defaults=[]->(∀(w:Tg)(h:Heap),a w h->(K w.params).In h)->(∀w:Tg,K06.Fx (K w.params))->WalkO K06.qv [] (HX K06.qv []) a PySem.Challenge.rw_samebook_k06_whole_back_is_back.row.toRowW d [] λf b=>ML f b):PySem.Challenge.rw_samebook_k06_whole_back_is_back.Holds:=by
 w_on;o_law;k_head;(case hw=>w_witness2)
 case hl=>
  (show LeftO K06.pw (view K06.pw _) _ _ _ _ _)
  intro w;unfold openEnds fencedOpening topFrom K06.pw;rw[NI,NJ,NK,NL,NR,PySem.W.Fast.te9021464836532742150];kernel_rfl
 case hc=>
  k_fill
  refine W _ _ _ rfl rfl (λw h Y=>JT Y) λw=>?_;apply K06.Fx.mk;all_goals first|exact⟨_,_,_,_,_,_,_,_,_,by k_is,by k_is,by k_is⟩|(show _=_;k_is)|skip
end
namespace L2
open PySem PySem.Spec PyProof.Rows
variable{a b C:Gd}{P:Gn}{w:Tg}{o:S8}{t' i k n:Nat}{N ps:List TQ}{x:TQ}{M:Model}{A:DT}{E Q:Gj->Gz->Prop}{u:Gj}{e c tg:D4}{s:Gz}{zq:List (Gd×S8)}{pos:M3}{op:CmpOp}{K:Gf}{body:List DR}{fp:List Gd}{pl:J8 Bool}{f:Gj->Gj->J8 Gj}{us:List Gj}{kw:List (TQ×Gj)}{mg:TQ->Option Gj}
abbrev Wi:=Sum Int TQ
def jH:Wi->Gj->Bool
 |.inl k,v=>Hr k v
 |.inr x,v=>Ck x v
def Q8a(w:Tg):Wi->Int
 |.inl k=>hashInt k
 |.inr x=>hashStr w x
theorem Xn:∀{k:Wi}{v:Gj},jH k v=Gi->(∃i t,k=FI i/\v=FJ i t)\/(∃x t,k=MM x/\v=FK x t)
 |.inl i,v,h=>by have(t,e):=RF (k:=i) (v:=v) h;exact .inl ⟨i,t,Xb,e⟩
 |.inr x,v,h=>by have(t,e):=Value.isStrOf_shape (x:=x) (v:=v) h;exact .inr ⟨x,t,Xb,e⟩
theorem KA(i:Int)(t:J4):jH (.inl i) (.int i t)=Gi:=by simp[jH,Hr]
theorem Qsc(x:TQ)(t:J4):jH (.inr x) (.str x t)=Gi:=by simp[jH,Ck]
theorem Pe(a b:Int):decide ((FI a:Wi)=FI b)=(a==b):=by
 by_cases e:a=b
 .subst e;simp
 .have h:¬(FI a:Wi)=FI b:=λq=>e (Aa q);rw[Td h];exact(EK.mpr e).symm
theorem Q2i(a b:TQ):decide ((MM a:Wi)=MM b)=decide (a=b):=by
 by_cases e:a=b
 .subst e;simp
 .have h:¬(MM a:Wi)=MM b:=λq=>e (Ab q);rw[Td h,Td e]
theorem Q2u(a:Int)(b:TQ):decide ((FI a:Wi)=MM b)=Gx:=Td (λq=>nomatch q)
theorem PX(a:TQ)(b:Int):decide ((MM a:Wi)=FI b)=Gx:=Td (λq=>nomatch q)
noncomputable def Xc(prog:Gn)(w:Tg):PySem.KeyKind prog w Wi where
 is:=jH
 hash:=Q8a w
 inj:=λv a b g f=>by
  rcases Xn g with⟨i,t,rfl,rfl⟩|⟨x,t,rfl,rfl⟩
  .rcases Xn f with⟨j,u,rfl,e⟩|⟨y,u,rfl,e⟩
   .injection e with c _;rw[c]
   .exact nomatch e
  .rcases Xn f with⟨j,u,rfl,e⟩|⟨y,u,rfl,e⟩
   .exact nomatch e
   .injection e with c _;rw[c]
 byValue:=λk v h=>by rcases Xn h with⟨i,t,rfl,rfl⟩|⟨x,t,rfl,rfl⟩<;>rfl
 pyHash:=λd h=>by
  rcases Xn d with⟨i,t,rfl,rfl⟩|⟨x,t,rfl,rfl⟩
  .exact RZ h
  .exact Ba h
 eqBool:=λl d h=>by
  rcases Xn l with⟨i,t,rfl,rfl⟩|⟨x,t,rfl,rfl⟩
  .rcases Xn d with⟨j,u,rfl,rfl⟩|⟨y,u,rfl,rfl⟩
   .rw[Pe]at h;exact wpAny_eqBool_int h
   .rw[Q2u]at h;exact HY i t y u _ _ _ _ h
  .rcases Xn d with⟨j,u,rfl,rfl⟩|⟨y,u,rfl,rfl⟩
   .rw[PX]at h;exact HZ x t j u _ _ _ _ h
   .rw[Q2i]at h;exact wpAny_eqBool_str h
 «strs»:=λk x t v h=>by
  rcases Xn h with⟨i,u,rfl,e⟩|⟨y,u,rfl,e⟩
  .exact nomatch e
  .injection e with c _;subst c;cases v<;>rfl
theorem KO(a:Gn)(w:Tg)(i:Int)(t:J4):(Xc a w).is (.inl i) (.int i t)=Gi:=KA i t
theorem ZQ(a:Gn)(w:Tg)(x:TQ)(t:J4):(Xc a w).is (.inr x) (.str x t)=Gi:=Qsc x t
inductive V where
 |non|bl (b:Bool)|int (i:Int)|str (x:TQ)|byt (b:Array UInt8)|flt (b:UInt64)|ref (a:Gd)|ty (n:String)
 deriving DecidableEq
variable{v:V}{vs xs:List V}
def zu:V->Gj->Prop
 |.non,u=>u=DE
 |.bl b,u=>u=La b
 |.int i,u=>∃t,u=FJ i t
 |.str x,u=>∃t,u=FK x t
 |.byt b,u=>∃t,u=Hs b t
 |.flt b,u=>∃t,u=Nm b t
 |.ref a,u=>u=Tk a
 |.ty n,u=>u=Lb n
abbrev Yg:List V->List Gj->Prop:=Dg zu
theorem Yg.length{b:List V}{a:List Gj}(r:Yg b a):b.length=a.length:=GQ r
theorem Yg.get:∀{b:List V}{a:List Gj}{i:Nat}{x:V},Yg b a->b[i]?=Ga x->∃u,a[i]?=Ga u/\zu x u
 |_,_,_,_,.nil,e=>by simp at e
 |_,_,0,_,.cons r _,e=>by simp at e;subst e;exact{0,r}
 |_,_,i+1,x,.cons _ t,e=>by have(u,c,d):=Yg.get (i:=i) (x:=x) t (by simpa using e);exact{u,by simpa using c,d}
theorem Yg.append:∀{c d:List V}{a b:List Gj},Yg c a->Yg d b->Yg (c++d) (a++b)
 |_,_,_,_,.nil,s=>s
 |_,_,_,_,.cons r t,s=>.cons r (Yg.append t s)
theorem Yg.take:∀{b:List V}{a:List Gj}(n:Nat),Yg b a->Yg (b.take n) (a.take n)
 |_,_,0,_=>.nil
 |_,_,_+1,.nil=>.nil
 |_,_,n+1,.cons r t=>.cons r (Yg.take n t)
theorem Yg.drop:∀{b:List V}{a:List Gj}(n:Nat),Yg b a->Yg (b.drop n) (a.drop n)
 |_,_,0,r=>r
 |_,_,_+1,.nil=>.nil
 |_,_,n+1,.cons _ t=>Yg.drop n t
def Rj:Option V->Option Gj->Prop
 |some v,Ga u=>zu v u
 |none,Gq=>True
 |_,_=>False
def KV{κ:Type}:List (κ×V)->List (κ×Gj)->Prop:=Dg λ(p:κ×V)(q:κ×Gj)=>p.1=q.1/\zu p.2 q.2
def kV:Wi->V
 |.inl i=>.int i
 |.inr x=>.str x
inductive HO where
 |lst (xs:List V)
 |tup (xs:List V)
 |dK (zw:List (Wi×V))|dT (zw:List (List Wi×V))
 |set (S:Int->Bool) (n:Nat)
 |ins (C dx:Gd) (fs:List (TQ×V))
 |own (x:Gd)
 |xd (fs:List (TQ×V))
 |met (f x:Gd)
 |rng (lo hi:Int)
 |frz (o:S8) (u:HO)
 |tbl (ps:Array Gj)
 |ext (φ:Heap->Prop)
abbrev Hp:=Gd->Option HO
variable{H:Hp}
def zj(H:Hp)(a:Gd)(o:HO):Hp:=λb=>if b=a then Ga o else H b
theorem Qb{H:Hp}{a:Gd}{o:HO}:zj H a o a=Ga o:=by unfold zj;rw[GV rfl]
theorem Qh{o:HO}(h:b≠a):zj H a o b=H b:=by unfold zj;rw[Gs h]
theorem Vq{o u:HO}:zj (zj H a o) a u=zj H a u:=by
 funext b;unfold zj;split<;>rfl
theorem Zu{o u:HO}(h:H a=Ga o)(c:H b=Ga u)(d:o≠u):a≠b:=by intro e;subst e;rw[h]at c;exact d (T3 c)
theorem Qe{o:HO}(h:H a=Ga o)(c:H b=Gq):a≠b:=by intro e;subst e;rw[h]at c;cases c
section
variable(P:Gn)(w:Tg)
def Yj(H:Hp)(h:Heap)(a:Gd):HO->Prop
 |.lst xs=>xs.length<=TH/\∃(b:List Gj)(n:Nat),Yg xs b/\h.get? a=Ga {cls:=.type "list",data:=.seq b.toArray n}
 |.tup xs=>xs.length<=TH/\∃b:List Gj,Yg xs b/\IsTup h a b.toArray
 |.dK zw=>zw.length<=TH/\(a==Ef)=Gx/\∃c,KV zw c/\h.DictOf (Xc P w) a c
 |.dT zw=>zw.length<=TH/\(a==Ef)=Gx/\∃xs:List (List Wi×Gd×Gj),
   Dg (λ(p:List Wi×V)(q:List Wi×Gd×Gj)=>p.1=q.1/\H q.2.1=Ga (.tup (p.1.map kV))/\zu p.2 q.2.2) zw xs/\
   ∃o es ep,h.get? a=Ga o/\o.ExactDict/\o.data=.dict es ep/\es.toList=xs.map (entryOfKey (tupleKind (Xc P w)))/\(xs.map (·.1)).Nodup
 |.set S n=>h.SetOf (intKind P w) a S n
 |.ins C dx fs=>H dx=Ga (.own a)/\fs.length<=1000/\dx≠a/\h.get? a=Ga (Sc C dx)/\
   ∃mA,h.Ns1 dx mA/\(∀f,Rj (fs.lookup f) (mA f))/\RG mA (fs.map (·.1))
 |.own _=>∃o,h.get? a=Ga o
 |.xd fs=>∃mA,h.Ns1 a mA/\∀f,Rj (fs.lookup f) (mA f)
 |.rng lo hi=>∃t u v,h.get? a=Ga {cls:=.type "range",data:=.fields #[.int lo t,.int hi u,.int 1 v]}
 |.frz o u=>h.get? a=Ga o/\Yj H h a u
 |.tbl ps=>h.get? a=Ga {cls:=.none,data:=.fields ps}
 |.met f x=>h.get? a=Ga (Ml (.ref f) (.ref x))
 |.ext c=>c h/\(∃o,h.get? a=Ga o)/\∀h1 h2:Heap,c h1->(∀o,h1.get? a=Ga o->h2.get? a=Ga o)->c h2
def O2(H:Hp)(h:Heap):Prop:=∀a o,H a=Ga o->Yj P w H h a o
end
section
variable{P:Gn}{w:Tg}{H H':Hp}{h h':Heap}{a:Gd}{o:HO}
theorem Yj.lt(x:Yj P w H h a o):a<h.objs.size:=by
 cases o with
 |lst d=>have(_,_,_,_,e):=x;exact Tn e
 |tup d=>have(_,_,_,p):=x;exact p.lt
 |dK b=>have(_,_,_,_,o,_,_,e,_):=x;exact Tn e
 |dT b=>have(_,_,_,_,o,_,_,e,_):=x;exact Tn e
 |set S n=>have(o,_,_,_,e,_):=x;exact Tn e
 |ins C f c=>have(_,_,_,e,_):=x;exact Tn e
 |own y=>have(_,e):=x;exact Tn e
 |xd c=>have(_,(_,_,_,e,_),_):=x;exact Tn e
 |rng f hi=>have(_,_,_,e):=x;exact Tn e
 |frz f u=>have(e,_):=x;exact Tn e
 |tbl f=>exact Tn (show h.get? a=Ga _ from x)
 |met f y=>exact Tn (show h.get? a=Ga _ from x)
 |ext f=>have(_,(_,e),_):=x;exact Tn e
theorem Qr{e g:Type}{F G:e->g->Prop}:∀{c:List e}{d:List g},Dg F c d->(∀a b,F a b->G a b)->Dg G c d
 |_,_,.nil,_=>.nil
 |_,_,.cons r t,f=>.cons (f _ _ r) (Qr t f)
theorem Yj.jy(x:Yj P w H h a o)(k:∀b u,(b=a\/H b=Ga (.own a))->h.get? b=Ga u->h'.get? b=Ga u)
  (E:∀b,H b=Ga (.own a)->H' b=Ga (.own a))(ht:∀b m,H b=Ga (.tup m)->H' b=Ga (.tup m)):Yj P w H' h' a o:=by
 induction o with
 |lst m=>have(z,l,n,r,e):=x;exact{z,l,n,r,k _ _ (.inl Xb) e}
 |tup m=>have(z,l,r,g,e,c):=x;exact{z,l,r,g,k _ _ (.inl Xb) e,c}
 |dK s=>have(z,y,f,r,g,j,i,e,c):=x;exact{z,y,f,r,g,j,i,k _ _ (.inl Xb) e,c}
 |dT s=>have(z,y,m,r,g,j,i,e,c):=x;exact{z,y,m,Qr r λp q z=>{z.1,ht _ _ z.2.1,z.2.2},g,j,i,k _ _ (.inl Xb) e,c}
 |set S n=>have(g,j,i,t,e,c):=x;exact{g,j,i,t,k _ _ (.inl Xb) e,c}
 |ins C F D=>have(d,z,v,e,A,(B,j,i,f,c),r):=x;exact{E _ d,z,v,k _ _ (.inl Xb) e,A,{B,j,i,k _ _ (.inr d) f,c},r}
 |own y=>have(g,e):=x;exact{g,k _ _ (.inl Xb) e}
 |xd D=>have(A,(B,j,i,e,c),r):=x;exact{A,{B,j,i,k _ _ (.inl Xb) e,c},r}
 |rng f hi=>have(t,u,v,e):=x;exact{t,u,v,k _ _ (.inl Xb) e}
 |frz g u f=>have(e,q):=x;exact{k _ _ (.inl Xb) e,f q}
 |tbl f=>have e:h.get? a=Ga {cls:=.none,data:=.fields f}:=x;show h'.get? a=Ga {cls:=.none,data:=.fields f};exact k a _ (.inl Xb) e
 |met f y=>have e:h.get? a=Ga (Ml (.ref f) (.ref y)):=x;show h'.get? a=Ga (Ml (.ref f) (.ref y));exact k a _ (.inl Xb) e
 |ext v=>have(p,(o,e),f):=x;exact{f _ _ p λo q=>k _ _ (.inl Xb) q,{o,k _ _ (.inl Xb) e},f}
theorem O2.lt(x:O2 P w H h)(e:H a=Ga o):a<h.objs.size:=(x a o e).lt
theorem O2.fresh(x:O2 P w H h)(e:h.objs.size<=a):H a=Gq:=by
 cases q:H a with
 |none=>rfl
 |some u=>exact absurd (TZ (x.lt q) e) (EF _)
theorem O2.kept(x:O2 P w H h)(k:∀b u,h.get? b=Ga u->h'.get? b=Ga u):O2 P w H h':=λa o e=>(x a o e).jy (λb u _ q=>k b u q) (λ_ q=>q) λ_ _ q=>q
theorem O2.laid(x:O2 P w H h)(k:∀b u,h.get? b=Ga u->h'.get? b=Ga u)(i:h.objs.size<=a)(d:Yj P w (zj H a o) h' a o):O2 P w (zj H a o) h':=λb u e=>by
 have g:=x.fresh i;by_cases f:b=a
 .subst f;rw[Qb]at e;cases e;exact d
 .rw[Qh f]at e;exact(x b u e).jy (λc v _ q=>k c v q) (λc q=>by rw[Qh (Qe q g)];exact q) λc j q=>by rw[Qh (Qe q g)];exact q
end
def Rd(H:Hp)(a:Gd)(u:HO):Prop:=H a=Ga u\/∃o,H a=Ga (.frz o u)
theorem Rd.ok{h:Heap}{u:HO}(r:Rd H a u)(x:O2 P w H h):Yj P w H h a u:=by
 rcases r with r|⟨o,r⟩
 .exact x a u r
 .obtain⟨_,q⟩:=x a _ r;exact q
def mQ:Option HO->Prop
 |some (.lst _)=>True
 |some (.dK _)=>True
 |some (.dT _)=>True
 |some (.set _ _)=>True
 |some (.ins _ _ _)=>True
 |some (.ext _)=>True
 |_=>False
section
variable{P:Gn}{w:Tg}{H:Hp}{h h':Heap}{x e:Gd}{o':HO}
theorem O2.write(ok:O2 P w H h)(j:mQ (H x))(o:e=x\/H e=Ga (.own x))(k:∀b u,b≠e->h.get? b=Ga u->h'.get? b=Ga u)(m:∃u,h'.get? e=Ga u)
  (n:Yj P w (zj H x o') h' x o'):O2 P w (zj H x o') h':=λb u q=>by
 have d:∀c y,H c=Ga (.own y)->c≠x:=λc y r z=>by subst z;rw[r]at j;exact j
 have f:∀c l,H c=Ga (.tup l)->c≠x:=λc l r z=>by subst z;rw[r]at j;exact j
 by_cases g:b=x
 .subst g;rw[Qb]at q;cases q;exact n
 .rw[Qh g]at q;by_cases a:b=e
  .have i:H b=Ga (.own x):=by
    rcases o with z|z
    .exact absurd (a.trans z) g
    .rw[a];exact z
   rw[q]at i;cases i;have(v,p):=m;exact{v,by rw[a];exact p}
  .refine(ok b u q).jy (λc v i r=>k c v ?_ r) (λc r=>by rw[Qh (d c b r)];exact r) λc l r=>by rw[Qh (f c l r)];exact r
   rcases i with rfl|i
   .exact a
   .rintro rfl;rcases o with z|z
    .exact d c b i z
    .rw[i]at z;cases z;exact g rfl
end
structure Un(fs ex:List Gd)(H H':Hp)(h h':Heap):Prop where
 keep:∀b o,h.get? b=Ga o->H b=Gq->b∉fs->b∉ex->h'.get? b=Ga o
 slot:∀b o,h.get? b=Ga o->H b=Gq->b∈fs->b∉ex->∃sl,h'.get? b=Ga {o with slots:=sl}
 free:∀b o,h.get? b=Ga o->H b=Gq->b∉ex->H' b=Gq
 there:∀b o,h.get? b=Ga o->b∉ex->∃o',h'.get? b=Ga o'
 Qv:∀b xs,H b=Ga (.tup xs)->H' b=Ga (.tup xs)
 Qat:∀b o u,H b=Ga (.frz o u)->H' b=Ga (.frz o u)
 Qc6:∀b ps,H b=Ga (.tbl ps)->∃more,H' b=Ga (.tbl (ps++more))
section
variable{fs fs' ex ex':List Gd}{H H1 H2:Hp}{h h1 h2 h':Heap}{a x e:Gd}{o:HO}
theorem Un.any(u:Un fs ex H H1 h h1){a:S8}(q:h.get? b=Ga a)(n:H b=Gq)(d:b∉ex):∃e,h1.get? b=Ga {a with slots:=e}:=by
 by_cases c:b∈fs
 .exact u.slot b a q n c d
 .exact{a.slots,u.keep b a q n c d}
theorem Un.trans(a:Un fs ex H H1 h h1)(b:Un fs ex H1 H2 h1 h2):Un fs ex H H2 h h2 where
 keep:=λc e q n g d=>b.keep c e (a.keep c e q n g d) (a.free c e q n d) g d
 slot:=λc e q n g d=>by have(m,f):=a.slot c e q n g d;have(l,j):=b.slot c _ f (a.free c e q n d) g d;exact⟨l,j⟩
 free:=λc e q n d=>by have(k,f):=a.there c e q d;exact b.free c k f (a.free c e q n d) d
 there:=λc e q d=>by have(k,f):=a.there c e q d;exact b.there c k f d
 Qv:=λc i q=>b.Qv c i (a.Qv c i q)
 Qat:=λc e i q=>b.Qat c e i (a.Qat c e i q)
 Qc6:=λc o q=>by have(l,f):=a.Qc6 c o q;have(m,j):=b.Qc6 c _ f;exact{l++m,by rw[j,NS]}
theorem Un.kept(k:∀b u,h.get? b=Ga u->h'.get? b=Ga u):Un fs ex H H h h':=
 {λb a q _ _ _=>k b a q,λb a q _ _ _=>{a.slots,k b a q},λ_ _ _ n _=>n,λb a q _=>{a,k b a q},λ_ _ q=>q,λ_ _ _ q=>q,λ_ c q=>{#[],by rw[q];simp}}
theorem Un.refl:Un fs ex H H h h:=Un.kept λ_ _ q=>q
theorem Un.laid(k:∀b u,h.get? b=Ga u->h'.get? b=Ga u)(d:h.objs.size<=a)(c:H a=Gq):Un fs ex H (zj H a o) h h' where
 keep:=λb u q _ _ _=>k b u q
 slot:=λb u q _ _ _=>{u.slots,k b u q}
 free:=λb u q n _=>by rw[Qh (T2 (TZ (Tn q) d))];exact n
 there:=λb u q _=>{u,k b u q}
 Qv:=λb e q=>by rw[Qh (Qe q c)];exact q
 Qat:=λb u e q=>by rw[Qh (Qe q c)];exact q
 Qc6:=λb f q=>{#[],by rw[Qh (Qe q c),q];simp}
theorem Un.write(c:mQ (H x))(j:e=x\/H e=Ga (.own x))(k:∀b u,b≠e->h.get? b=Ga u->h'.get? b=Ga u)(d:∃u,h'.get? e=Ga u):Un fs ex H (zj H x o) h h':=by
 have i:∀b,H b=Gq->b≠x:=λb n z=>by subst z;rw[n]at c;exact c
 have g:∀b,H b=Gq->b≠e:=λb n z=>by
  subst z;rcases j with r|r
  .exact i b n r
  .rw[n]at r;cases r
 have f:∀b u,H b=Ga u->¬mQ (Ga u)->b≠x:=λb u q l z=>by subst z;rw[q]at c;exact l c
 refine⟨λb u q n _ _=>k b u (g b n) q,λb u q n _ _=>{u.slots,k b u (g b n) q},λb u q n _=>by rw[Qh (i b n)];exact n,λb u q _=>?_,
  λb m q=>by rw[Qh (f b _ q λz=>z)];exact q,λb u m q=>by rw[Qh (f b _ q λz=>z)];exact q,λb p q=>{#[],by rw[Qh (f b _ q λz=>z),q];simp}⟩
 by_cases a:b=e
 .subst a;exact d
 .exact{u,k b u a q}
end
noncomputable def trk(h:Heap)(H:Hp):List Gd:=(ES h.objs.size).filter λa=>(H a).isSome
def jg(h:Heap)(H:Hp):Heap:=JP h (trk h H)
theorem ZA(h:Heap)(H:Hp):(jg h H).objs.size=h.objs.size:=Ht _ _
theorem UH{h:Heap}(e:h.get? b=Ga o)(n:H b=Gq):(jg h H).get? b=Ga o:=
 HQ _ e λa=>by have q:(H b).isSome=Gi:=(Fv.mp a).2;rw[n]at q;simp at q
theorem QB{h:Heap}(e:(jg h H).get? b=Ga o):h.get? b=Ga o/\H b=Gq:=by
 have a:h.get? b=Ga o:=Ix (trk h H) e;exists a;cases q:H b with
 |none=>rfl
 |some x=>have c:b∈trk h H:=Fv.mpr {Sk.mpr (Tn a),by simp[q]};have z:(jg h H).get? b=Gq:=Hu (trk h H) c;rw[z]at e;cases e
noncomputable def YH(g h:Heap)(L:Gd):List (Gd×S8):=(ES h.objs.size).filterMap λa=>if a=L\/(g.get? a).isSome=Gi then Gq else(h.get? a).map λo=>(a,o)
noncomputable def X8(g h:Heap)(L d:Gd):List (Gd×S8):=(YH g h L).filter λp=>decide (p.1≠d)
structure Mod(K:Gf)(mg:TQ->Option Gj)(base:Heap):Prop where
 kin:K.In base
 glob:base.Ns Ea mg
 blt:∃mb,base.Ns builtinsNs mb/\∀x:TQ,x≠"__name__"->mb x=bootBuiltins x
 nolimit:base.NoLimit
structure Cx where
 prog:Gn
 w:Tg
 K:Gf
 mg:TQ->Option Gj
 base:Heap
 A:DT
 N:List TQ
 s₀:Gz
 H₀:Hp
 env:Bv
 outer:List Bv
 stack:List Bv
 ex:List Gd
 fn:TQ->Bool
 calm:Bool
 pn:List (Gd×S8)
 xe:Gj->Gz->Prop
variable{X:Cx}
noncomputable def frs(l:List Bv):List Gd:=l.filterMap (·.frame)
abbrev Cx.fs(X:Cx):List Gd:=frs X.outer
def px(a:ME)(x:TQ):Prop:=a.names.lookup x=Ga .local\/a.names.lookup x=Ga .cell\/a.names.lookup x=Ga .free
def Loc(a:ME)(x:TQ):Prop:=a.names.lookup x=Ga .local\/a.names.lookup x=Ga .cell
def Look(a:Bv)(h:Heap)(m:TQ->Option Gj)(x:TQ)(u:Gj):Prop:=
 (a.kindOf x=Ga .local/\m x=Ga u)\/((a.kindOf x=Ga .cell\/a.kindOf x=Ga .free)/\∃c,a.cells.lookup x=Ga c/\h.IsCell c (Ga u))
structure Cx.Ok(X:Cx):Prop where
 mod:Mod X.K X.mg X.base
 kind:X.env.scope.kind=.function
 glob:X.env.globals=Ea
 blt:X.env.builtins=builtinsNs
 above:X.s₀.heap.objs.size<=X.env.locals
 inj:∀x y c,X.env.cells.lookup x=Ga c->X.env.cells.lookup y=Ga c->x=y
 has:∀x,(X.env.kindOf x=Ga .cell\/X.env.kindOf x=Ga .free)->∃c,X.env.cells.lookup x=Ga c
 cab:∀x c,X.fn x=Gi->X.env.cells.lookup x=Ga c->X.s₀.heap.objs.size<=c
 hd:X.calm=Gi->X.A.handled=Gq
 frames:X.A.frames=Ga X.stack
 stk:X.stack=X.outer\/(X.stack=X.env::X.outer/\X.env.frame=Ga X.env.locals)
 exf:∀b∈X.ex,b≠X.env.locals/\∀x c,X.env.cells.lookup x=Ga c->c≠b
 bs:∀b o,X.base.get? b=Ga o->X.s₀.heap.get? b=Ga o/\X.H₀ b=Gq
 bsz:X.base.objs.size<=X.s₀.heap.objs.size
 Qwu:∀b o,X.base.get? b=Ga o->b∉X.ex
 Qzr:∀b∈X.ex,b∉X.fs
 iE:X.s₀.heap.FunFrames X.base X.outer
 frf:∀b∈X.fs,X.H₀ b=Gq
structure zv(X:Cx)(zq:List (Gd×S8))(σ:List (Option V))(H:Hp)(s:Gz):Prop where
 ok:X.Ok
 os:s.os=X.s₀.os
 bare:Mm s.gens
 base:Un X.fs X.ex X.H₀ H X.s₀.heap s.heap
 loc:∃m,s.heap.Ns X.env.locals m/\∀(i:Nat)(x:TQ)(v:V),X.N[i]?=Ga x->σ[i]?=Ga (Ga v)->px X.env.scope x->∃u,zu v u/\Look X.env s.heap m x u
 cell:∀x c,X.env.cells.lookup x=Ga c->∃v,s.heap.IsCell c v
 free:H X.env.locals=Gq
 I8:∀x c,X.env.cells.lookup x=Ga c->H c=Gq
 pin:∀p∈X.pn++zq,s.heap.get? p.1=Ga p.2/\H p.1=Gq/\p.1≠X.env.locals/\p.1∉X.fs/\∀v,p.2.data≠.cell v
 Yc:O2 X.prog X.w H s.heap
 len:σ.length=X.N.length
section
variable{X:Cx}{zq:List (Gd×S8)}{σ:List (Option V)}{H H':Hp}{s:Gz}{h':Heap}
theorem Cx.Ok.VR(ok:X.Ok)(e:X.base.get? b=Ga o):b∉X.fs:=λa=>by have:=(ok.iE.mem a).1;rw[e]at this;cases this
theorem zv.bs(I:zv X zq σ H s):∀b o,X.base.get? b=Ga o->s.heap.get? b=Ga o/\H b=Gq:=λb o e=>{I.base.keep b o (I.ok.bs b o e).1 (I.ok.bs b o e).2 (I.ok.VR e) (I.ok.Qwu b o e),I.base.free b o (I.ok.bs b o e).1 (I.ok.bs b o e).2 (I.ok.Qwu b o e)}
theorem zv.bk(I:zv X zq σ H s):∀b o,X.base.get? b=Ga o->s.heap.get? b=Ga o:=λb o e=>(I.bs b o e).1
theorem zv.mod(I:zv X zq σ H s):Mod X.K X.mg X.base:=I.ok.mod
theorem zv.Rc(I:zv X zq σ H s):X.K.In s.heap:=I.ok.mod.kin.keeps I.bk
theorem zv.lt(I:zv X zq σ H s):X.env.locals<s.heap.objs.size:=let⟨_,hn,_⟩:=I.loc;hn.lt
theorem zv.sz(I:zv X zq σ H s):X.s₀.heap.objs.size<=s.heap.objs.size:=DA I.ok.above (FG I.lt)
theorem zv.Q8q(I:zv X zq σ H s)(h:s.heap.objs.size<=a):a∉X.fs:=λb=>by have(_,o,c,_):=I.ok.iE.mem b;exact absurd (TZ (Tn c) (DA I.sz h)) (EF _)
theorem zv.cne(I:zv X zq σ H s):∀x c,X.env.cells.lookup x=Ga c->c≠X.env.locals:=λx c e z=>by have(v,o,f,d):=I.cell x c e;have(m,(i,h,g,b,a,_),_):=I.loc;rw[z,b]at f;cases f;rw[a]at d;cases d
theorem zv.iE(I:zv X zq σ H s):s.heap.FunFrames X.base X.outer:=by
 have all:∀(l:List Bv),(∀b∈frs l,b∈X.fs)->X.s₀.heap.FunFrames X.base l->s.heap.FunFrames X.base l:=by
  intro l;induction l with
  |nil=>intro _ _;trivial
  |cons f r n=>intro hs i;have(h,(L,o,d,j,k,g),m):=i;have a:L∈X.fs:=hs L (by unfold frs;rw[FE,d];exact Tc);have(p,e):=I.base.slot L o k (I.ok.frf L a) a λz=>I.ok.Qzr L z a;exact{h,{L,_,d,j,e,g},n (λb c=>hs b (by unfold frs;rw[FE,d];exact Gr _ c)) m}
 exact all X.outer (λ_ c=>c) I.ok.iE
theorem zv.stack(I:zv X zq σ H s):s.heap.FunFrames X.base X.stack:=by
 rcases I.ok.stk with e|⟨e,a⟩
 .rw[e];exact I.iE
 .rw[e];have(m,b,_):=I.loc;refine .cons (by rw[I.ok.kind];decide) a b ?_ I.iE;exact Heap.get?_none_of_le (DA I.ok.bsz I.ok.above)
theorem zv.oH(I:zv X zq σ H s):∀b∈frs X.stack,b∈X.env.locals::X.fs:=λb a=>by
 rcases I.ok.stk with e|⟨e,c⟩
 .rw[e]at a;exact Gr _ a
 .rw[e]at a;unfold frs at a;rw[FE,c]at a;exact a
theorem zv.AF(I:zv X zq σ H s):∀b∈frs X.stack,H b=Gq:=λb a=>by
 rcases Tf.mp (I.oH b a)with e|a
 .rw[e];exact I.free
 .obtain⟨_,o,c,_⟩:=I.ok.iE.mem a;exact I.base.free b o c (I.ok.frf b a) λz=>I.ok.Qzr b z a
theorem zv.step{g':Array GenState}{Q:Nat}{d':Drawn}{ch:List Gd}(I:zv X zq σ H s)
  (g:∀b∈ch,(b∈X.ex\/X.s₀.heap.objs.size<=b)/\b≠X.env.locals/\(∀x c,X.env.cells.lookup x=Ga c->c≠b)/\∀p∈X.pn++zq,p.1≠b)
  (keep:∀b o,b≠X.env.locals->b∉X.fs->b∉ch->s.heap.get? b=Ga o->H b=Gq->h'.get? b=Ga o)
  (slot:∀b o,b≠X.env.locals->b∈X.fs->b∉ch->s.heap.get? b=Ga o->H b=Gq->∃G,h'.get? b=Ga {o with slots:=G})(free:∀b o,b∉ch->s.heap.get? b=Ga o->H b=Gq->H' b=Gq)
  (there:∀b o,b∉ch->s.heap.get? b=Ga o->∃D,h'.get? b=Ga D)
  (Qv:∀b w,H b=Ga (.tup w)->H' b=Ga (.tup w))(Qat:∀b o u,H b=Ga (.frz o u)->H' b=Ga (.frz o u))(Qc6:∀b E,H b=Ga (.tbl E)->∃l,H' b=Ga (.tbl (E++l)))
  (P:∀m,s.heap.Ns X.env.locals m->h'.Ns X.env.locals m)(K:O2 X.prog X.w H' h')(M:Mm g'):
  zv X zq σ H' {s with heap:=h',gens:=g',drawn:=d',toks:=Q}:=by
 have C:∀b o,X.s₀.heap.get? b=Ga o->b≠X.env.locals:=λb o e=>T2 (TZ (Tn e) I.ok.above);have t:∀b o,X.s₀.heap.get? b=Ga o->b∉X.ex->b∉ch:=λb o e a y=>by
  rcases(g b y).1 with z|z
  .exact a z
  .exact absurd (TZ (Tn e) z) (EF _)
 have f:∀x c,X.env.cells.lookup x=Ga c->∀v,s.heap.IsCell c v->h'.IsCell c v:=λx c e v⟨o,A,F⟩=>by
  have h:c∉ch:=λz=>(g c z).2.2.1 x c e rfl;by_cases l:c∈X.fs
  .obtain⟨G,q⟩:=slot c o (I.cne x c e) l h A (I.I8 x c e);exact{_,q,F}
  .exact{o,keep c o (I.cne x c e) l h A (I.I8 x c e),F}
 refine{I.ok,I.os,M,{λb o e n y a=>?_,λb o e n y a=>?_,λb o e n a=>?_,λb o e a=>?_,λb w e=>Qv b w (I.base.Qv b w e),λb o w e=>Qat b o w (I.base.Qat b o w e),λb E e=>?_},?_,λx c e=>?_,?_,λx c e=>?_,λp J=>?_,K,I.len}
 .exact keep b o (C b o e) y (t b o e a) (I.base.keep b o e n y a) (I.base.free b o e n a)
 .obtain⟨G,j⟩:=I.base.slot b o e n y a;have(l,B):=slot b _ (C b o e) y (t b o e a) j (I.base.free b o e n a);exact⟨l,B⟩
 .obtain⟨D,j⟩:=I.base.there b o e a;exact free b D (t b o e a) j (I.base.free b o e n a)
 .obtain⟨D,j⟩:=I.base.there b o e a;exact there b D (t b o e a) j
 .obtain⟨l,j⟩:=I.base.Qc6 b E e;have(r,B):=Qc6 b _ j;exact{l++r,by rw[B,NS]}
 .obtain⟨m,O,N⟩:=I.loc;refine{m,P m O,λi x v j B L=>?_};have(u,r,l):=N i x v j B L;exists u,r;rcases l with l|⟨k,c,e,z⟩
  .exact .inl l
  .exact .inr {k,c,e,f x c e _ z}
 .obtain⟨v,z⟩:=I.cell x c e;exact{v,f x c e v z}
 .obtain⟨m,⟨o,_,_,A,_⟩,_⟩:=I.loc;exact free _ o (λz=>(g _ z).2.1 Xb) A I.free
 .obtain⟨v,o,A,F⟩:=I.cell x c e;exact free c o (λz=>(g c z).2.2.1 x c e Xb) A (I.I8 x c e)
 .obtain⟨e,n,l,r,d⟩:=I.pin p J;have h:p.1∉ch:=λz=>(g p.1 z).2.2.2 p J rfl;exact{keep p.1 p.2 l r h e n,free p.1 p.2 h e n,l,r,d}
theorem zv.un(I:zv X zq σ H s)(u:Un X.fs [] H H' s.heap h')(h:O2 X.prog X.w H' h'):zv X zq σ H' {s with heap:=h',toks:=t'}:=by have(m,(o,p,l,g,r),_):=id I.loc;have(v,i):=u.any g I.free (by simp);exact I.step (g':=s.gens) (d':=s.drawn) (ch:=[]) (λ_ z=>nomatch z) (λb o _ f _ e n=>u.keep b o e n f (by simp)) (λb o _ f _ e n=>u.slot b o e n f (by simp)) (λb o _ e n=>u.free b o e n (by simp)) (λb o _ e=>u.there b o e (by simp)) u.Qv u.Qat u.Qc6 (λq j=>by have(t,d,c,a,k):=j;rw[g]at a;cases a;exact{_,d,c,i,k}) h I.bare
theorem zv.call{g':Array GenState}{d':Drawn}{ch:List Gd}(I:zv X zq σ H s)(u:Un (frs X.stack) ch H H' s.heap h')(k:O2 X.prog X.w H' h')(l:Mm g')
  (d:∀b∈ch,(b∈X.ex\/X.s₀.heap.objs.size<=b)/\b≠X.env.locals/\(∀x c,X.env.cells.lookup x=Ga c->c≠b)/\∀p∈X.pn++zq,p.1≠b):
  zv X zq σ H' {s with heap:=h',gens:=g',drawn:=d',toks:=t'}:=by
 have(m,(o,g,f,j,r),_):=id I.loc;have(v,i):=u.any j I.free λz=>(d _ z).2.1 rfl;exact I.step (ch:=ch) d (λb o i f a e n=>u.keep b o e n (λz=>(Tf.mp (I.oH b z)).elim i f) a) (λb o _ _ a e n=>u.any e n a) (λb o a e n=>u.free b o e n a) (λb o a e=>u.there b o e a) u.Qv u.Qat u.Qc6 (λr m=>by have(t,h,g,f,q):=m;rw[j]at f;cases f;exact{_,h,g,i,q}) k l
theorem zv.turned{a:Gd}(I:zv X zq σ H s)(k:∀b o,b≠a->s.heap.get? b=Ga o->h'.get? b=Ga o)(A:H a=Gq)(g:a≠X.env.locals)
  (j:a∈X.ex\/X.s₀.heap.objs.size<=a)(l:∀x c,X.env.cells.lookup x=Ga c->c≠a)(t:∀p∈X.pn++zq,p.1≠a):zv X zq σ H {s with heap:=h',toks:=t'}:=by
 have f:∀b u,H b=Ga u->b≠a:=λb u e z=>by rw[z,A]at e;cases e
 refine I.step (g':=s.gens) (d':=s.drawn) (ch:=[a]) (λb w=>?_) (λb o _ _ d e _=>k b o (λz=>d (by simp[z])) e) (λb o _ _ d e _=>{o.slots,k b o (λz=>d (by simp[z])) e}) (λ_ _ _ _ n=>n)
  (λb o d e=>{o,k b o (λz=>d (by simp[z])) e}) (λ_ _ e=>e) (λ_ _ _ e=>e) (λb h e=>{#[],by rw[e];simp}) (λm y=>?_) (λb u e=>?_) I.bare
 .have e:b=a:=by simpa using w
  subst e;exact⟨j,g,l,t⟩
 .obtain⟨o,i,h,v,r⟩:=y;exact{o,i,h,k _ o (Ta g) v,r}
 .refine(I.Yc b u e).jy (λc v d q=>k c v ?_ q) (λ_ q=>q) λ_ _ q=>q;rcases d with z|z
  .rw[z];exact f b u e
  .exact f c _ z
theorem zv.tok(I:zv X zq σ H s)(t:Nat):zv X zq σ H {s with toks:=t}:=I.un (h':=s.heap) (t':=t) Un.refl I.Yc
theorem zv.kept{t':Nat}(I:zv X zq σ H s)(k:∀b u,s.heap.get? b=Ga u->h'.get? b=Ga u):zv X zq σ H {s with heap:=h',toks:=t'}:=I.un (Un.kept k) (I.Yc.kept k)
theorem zv.laid{a:Gd}{o:HO}{t':Nat}(I:zv X zq σ H s)(k:∀b u,s.heap.get? b=Ga u->h'.get? b=Ga u)(c:s.heap.objs.size<=a)(d:Yj X.prog X.w (zj H a o) h' a o):
  zv X zq σ (zj H a o) {s with heap:=h',toks:=t'}:=I.un (Un.laid k c (I.Yc.fresh c)) (I.Yc.laid k c d)
theorem zv.write{x e:Gd}{o:HO}{g:Nat}(I:zv X zq σ H s)(f:mQ (H x))(d:e=x\/H e=Ga (.own x))(k:∀b u,b≠e->s.heap.get? b=Ga u->h'.get? b=Ga u)(a:∃u,h'.get? e=Ga u)
  (c:Yj X.prog X.w (zj H x o) h' x o):zv X zq σ (zj H x o) {s with heap:=h',toks:=g}:=I.un (Un.write f d k a) (I.Yc.write f d k a c)
theorem zv.yc{a:List (Gd×S8)}(I:zv X zq σ H s)(h:∀p∈a,s.heap.get? p.1=Ga p.2/\H p.1=Gq/\p.1≠X.env.locals/\p.1∉X.fs/\∀v,p.2.data≠.cell v):zv X a σ H s:=
 {I.ok,I.os,I.bare,I.base,I.loc,I.cell,I.free,I.I8,λp b=>(Gh.mp b).elim (λz=>I.pin p (Gu _ z)) (h p),I.Yc,I.len}
theorem uT(e:N.Nodup){j:Nat}(a:N[i]?=Ga x)(b:N[j]?=Ga x):i=j:=by have(f,c):=Gg.mp a;have(g,d):=Gg.mp b;exact(List.getElem_inj e).mp (c.trans d.symm)
theorem wZ{V:Unit->Gz->Prop}(b:zv X zq σ H s)(Y:X.N.Nodup)(hi:X.N[i]?=Ga x)(l:Loc X.env.scope x)(ae:zu v u)
  (W:∀R,zv X zq (σ.set i (Ga v)) H R->(∃a,Ew a s.heap R.heap/\(a=X.env.locals\/X.env.cells.lookup x=Ga a))->V () R)(hf:X.fn x=Gi\/X.env.scope.names.lookup x=Ga .local:=by infer_instance):wpAny M A (storeName X.env x u) V E s:=by
 have(ak,K,hl):=id b.loc;have ag:(X.env.scope.kind==.class||(X.env.scope.kind==.module&&X.env.locals !=X.env.globals))=Gx:=by rw[b.ok.kind];rfl
 have ac:i<σ.length:=by rw[b.len];exact(Gg.mp hi).1
 have G:=b.cne;have af:∀{a:Gd}{B:Heap},(∃m,s.heap.get? a=Ga m/\H a=Gq)->Ew a s.heap B->O2 X.prog X.w H B:=λ{a B}ha hs f ob e=>by
  have(_,_,ab):=ha;refine(b.Yc f ob e).jy (λc F h q=>(hs.2 c ?_).trans q) (λ_ q=>q) λ_ _ q=>q;rintro rfl;rcases h with rfl|h
  .rw[ab]at e;cases e
  .rw[ab]at h;cases h
 rcases l with r|r
 .refine wpAny_storeName_local r K (λB ah hs=>?_) ag;have(oL,_,_,ai,_):=id K;refine W _ {b.ok,b.os,b.bare,{λf m e n t l=>?_,λf m e n t l=>?_,b.base.free,λf m e l=>?_,b.base.Qv,b.base.Qat,b.base.Qc6},{_,ah,λj y U g o I=>?_},λy c e=>?_,b.free,b.I8,λp L=>?_,af {oL,ai,b.free} hs,by simpa using b.len} {_,hs,.inl Xb}
  .exact(hs.2 f (T2 (TZ (Tn e) b.ok.above))).trans (b.base.keep f m e n t l)
  .obtain⟨S,g⟩:=b.base.slot f m e n t l;exact{S,(hs.2 f (T2 (TZ (Tn e) b.ok.above))).trans g}
  .obtain⟨P,g⟩:=b.base.there f m e l;exact{P,(hs.2 f (T2 (TZ (Tn e) b.ok.above))).trans g}
  .by_cases w:j=i
   .subst w;rw[hi]at g;cases g;rw[MO ac]at o;cases o;exact{u,ae,.inl {r,by simp}}
   .rw[No (Ta w)]at o;have(T,Q,q):=hl j y U g o I;exists T,Q;rcases q with⟨k,e⟩|⟨k,c,e,z⟩
    .refine .inl {k,?_};have:y≠x:=λe=>w (uT Y g (e▸hi));simp[this,e]
    .exact .inr {k,c,e,z.sameBut hs (G y c e)}
  .obtain⟨F,z⟩:=b.cell y c e;exact{F,z.sameBut hs (G y c e)}
  .obtain⟨e,n,D,O,d⟩:=b.pin p L;exact{(hs.2 p.1 D).trans e,n,D,O,d}
 .have J:X.fn x=Gi:=by
   rcases hf with z|z
   .exact z
   .rw[z]at r;cases r
  have(c,h):=b.ok.has x (.inl r);have(F,z):=b.cell x c h;refine wpAny_storeName_cell b.ok.kind r h z (λB Z hs=>?_);have(oc,ad,aj):=id z;refine W {s with heap:=B} {b.ok,b.os,b.bare,{λf m e n t l=>?_,λf m e n t l=>?_,b.base.free,λf m e l=>?_,b.base.Qv,b.base.Qat,b.base.Qc6},{ak,K.sameBut hs (Ta (G x c h)),λj y U g o I=>?_},λy C e=>?_,b.free,b.I8,λp L=>?_,af {oc,ad,b.I8 x c h} hs,by simpa using b.len} {c,hs,.inr h}
  .exact(hs.2 f (T2 (TZ (Tn e) (b.ok.cab x c J h)))).trans (b.base.keep f m e n t l)
  .obtain⟨S,g⟩:=b.base.slot f m e n t l;exact{S,(hs.2 f (T2 (TZ (Tn e) (b.ok.cab x c J h)))).trans g}
  .obtain⟨P,g⟩:=b.base.there f m e l;exact{P,(hs.2 f (T2 (TZ (Tn e) (b.ok.cab x c J h)))).trans g}
  .by_cases w:j=i
   .subst w;rw[hi]at g;cases g;rw[MO ac]at o;cases o;exact{u,ae,.inr {.inl r,c,h,Z}}
   .rw[No (Ta w)]at o;have(T,Q,q):=hl j y U g o I;exists T,Q;rcases q with q|⟨k,C,e,z'⟩
    .exact .inl q
    .refine .inr {k,C,e,z'.sameBut hs ?_};rintro rfl;exact w (uT Y g (b.ok.inj _ _ _ e h▸hi))
  .by_cases aa:C=c
   .subst aa;exact{_,Z}
   .obtain⟨w2,z2⟩:=b.cell y C e;exact{w2,z2.sameBut hs aa}
  .obtain⟨e,n,D,O,d⟩:=b.pin p L;refine{(hs.2 p.1 ?_).trans e,n,D,O,d};intro q;rw[q,ad]at e;have q':oc=p.2:=T3 e;exact d F (by rw[<-q'];exact aj)
theorem A1{Q:Unit->Gz->Prop}(I:zv X zq σ H s)(c:X.N.Nodup)(hi:X.N[i]?=Ga x)(e:Loc X.env.scope x)(r:zu v u)
  (h:∀a,zv X zq (σ.set i (Ga v)) H a->Q () a)(d:X.fn x=Gi\/X.env.scope.names.lookup x=Ga .local:=by infer_instance):wpAny M A (storeName X.env x u) Q E s:=
 wZ I c hi e r (λa b _=>h a b) d
theorem zv.Q49{a:Gz}{ch:List Gd}(I:zv X zq σ H s)(h:a.os=s.os)(u:Un (frs X.stack) ch H H' s.heap a.heap)(f:O2 X.prog X.w H' a.heap)(g:Mm a.gens)
  (d:∀b∈ch,(b∈X.ex\/X.s₀.heap.objs.size<=b)/\b≠X.env.locals/\(∀x c,X.env.cells.lookup x=Ga c->c≠b)/\∀p∈X.pn++zq,p.1≠b):zv X zq σ H' a:=by
 have(j,g',d',t',i):=a;have e:i=s.os:=h;subst e;exact I.call (g':=g') (t':=t') (d':=d') u f g d
end
abbrev XK:=Gj->Option Gd->Hp->Prop
abbrev St:=List (Option V)
variable{σ:St}
abbrev VK:=V->Hp->Prop
abbrev TE:=St->Hp->VK->Prop
variable{t te:TE}
abbrev TT:=St->Hp->(Bool->Hp->Prop)->Prop
abbrev TA:=St->Hp->(List V->Hp->Prop)->Prop
structure Ends where
 nx:St->Hp->Prop
 rt:VK
 bk:St->Hp->Prop:=λ_ _=>False
 ct:St->Hp->Prop:=λ_ _=>False
variable{D:Ends}
abbrev TS:=Ends->St->Hp->Prop
variable{tb:TS}
inductive EP(X:Cx)(zq:List (Gd×S8))(σ:St)(Q:VK)(u:Gj)(s':Gz):Prop
 |mk (v:_) (H':_) (h0:zv X zq σ H' s') (h1:zu v u) (h2:Q v H'):EP X zq σ Q u s'
def TP(X:Cx)(zq:List (Gd×S8))(σ:St)(Q:Bool->Hp->Prop)(b:Bool)(s':Gz):Prop:=∃H',zv X zq σ H' s'/\Q b H'
inductive AP(X:Cx)(zq:List (Gd×S8))(σ:St)(Q:List V->Hp->Prop)(us:List Gj)(s':Gz):Prop
 |mk (vs:_) (H':_) (h0:zv X zq σ H' s') (h1:Yg vs us) (h2:Q vs H'):AP X zq σ Q us s'
def SP(X:Cx)(zq:List (Gd×S8))(D:Ends)(f:Flow)(s':Gz):Prop:=
 match f with
 |.next=>∃a H',zv X zq a H' s'/\D.nx a H'
 |.brk=>∃a H',zv X zq a H' s'/\D.bk a H'
 |.cont=>∃a H',zv X zq a H' s'/\D.ct a H'
 |.ret u=>∃v a H',zv X zq a H' s'/\zu v u/\D.rt v H'
def PE(X:Cx)(e:D4)(t:TE):Prop:=
 ∀(zq:List (Gd×S8))(s:Gz)(σ:St)(H:Hp)(Q:VK),zv X zq σ H s->t σ H Q->wpAny (TU X.prog X.w) X.A (eval e X.env) (EP X zq σ Q) X.xe s
def PT(X:Cx)(e:D4)(t:TT):Prop:=
 ∀(zq:List (Gd×S8))(s:Gz)(σ:St)(H:Hp)(Q:Bool->Hp->Prop),zv X zq σ H s->t σ H Q->wpAny (TU X.prog X.w) X.A (isTrue e X.env (eval e X.env)) (TP X zq σ Q) X.xe s
def PW(X:Cx)(e:D4)(t:TT):Prop:=
 ∀(a:J8 Gj)(zq:List (Gd×S8))(s:Gz)(σ:St)(H:Hp)(Q:Bool->Hp->Prop),zv X zq σ H s->t σ H Q->wpAny (TU X.prog X.w) X.A (isTrue e X.env a) (TP X zq σ Q) X.xe s
theorem PW.pt{t:TT}(h:PW X e t):PT X e t:=h _
def PA(X:Cx)(es:List D4)(t:TA):Prop:=
 ∀(pos:M3)(zq:List (Gd×S8))(s:Gz)(σ:St)(H:Hp)(Q:List V->Hp->Prop),zv X zq σ H s->t σ H Q->wpAny (TU X.prog X.w) X.A (spliced (Sf pos (T4 es X.env))) (AP X zq σ Q) X.xe s
def PS(X:Cx)(st:DR)(t:TS):Prop:=
 ∀(zq:List (Gd×S8))(s:Gz)(σ:St)(H:Hp)(D:Ends),zv X zq σ H s->t D σ H->wpAny (TU X.prog X.w) X.A (exec st X.env) (SP X zq D) X.xe s
def W0(X:Cx)(st:List DR)(t:TS):Prop:=
 ∀(zq:List (Gd×S8))(s:Gz)(σ:St)(H:Hp)(D:Ends),zv X zq σ H s->t D σ H->wpAny (TU X.prog X.w) X.A (execs st X.env) (SP X zq D) X.xe s
theorem Xg{c:Type}{t:J8 c}{Q b:c->Gz->Prop}(h:wpAny M A t Q E s)(d:∀a s,Q a s->b a s):wpAny M A t b E s:=ET h d λ_ _ x=>x
section
variable{X:Cx}
theorem bin{a b:D4}{g i:TE}(m:PE X a g)(n:PE X b i){R:V->V->Hp->Prop}(I:zv X zq σ H s)(h:g σ H λx H1=>i σ H1 λy H2=>R x y H2)
  {j:Type}{Q:j->Gz->Prop}{f:Gj->Gj->J8 j}
  (o:∀v u e x y H2,zv X zq σ H2 e->zu x v->zu y u->R x y H2->wpAny (TU X.prog X.w) X.A (f v u) Q X.xe e):
  wpAny (TU X.prog X.w) X.A (eval a X.env) (λv c=>wpAny (TU X.prog X.w) X.A (eval b X.env) (λu d=>wpAny (TU X.prog X.w) X.A (f v u) Q X.xe d) X.xe c) X.xe s:=by
 refine Xg (m zq s σ H _ I h) λv w⟨x,H1,k,r,p⟩=>?_;refine Xg (n zq w σ H1 _ k p) λu e⟨y,H2,l,t,q⟩=>?_;exact o v u e x y H2 l r t q
inductive Kk(i:Nat)(σ:St)(H:Hp)(Q:VK):Prop
 |mk (v:_) (h0:σ[i]?=Ga (Ga v)) (h1:Q v H):Kk i σ H Q
def Ul(i:Nat):TE:=λσ H Q=>Kk i σ H Q
def tC(v:V):TE:=λ_ H Q=>Q v H
theorem KR(n:X.N[i]?=Ga x)(t:px X.env.scope x)(j:(x==("__debug__":TQ))=Gx:=by decide)(g:(x==("__classdict__":TQ))=Gx:=by decide):PE X (.Name x pos) (Ul i):=by
 intro f s w H Q I h;have(v,e,h):=h;have(m,q,o):=I.loc;have(u,r,l):=o i x v n e t;have b:EP X f w Q u s:=⟨v,H,I,r,h⟩;rcases l with⟨d,p⟩|⟨d,c,k,a⟩
 .exact BG (wpAny_loadName_local I.ok.kind d q p b) j
 .rcases d with d|d
  .exact BG (wpAny_loadName_cell I.ok.kind d k a b) j
  .exact BG (wpAny_loadName_free I.ok.kind d k a b g) j
theorem Qi{i j pos}:PE X (.Constant (.int i) j pos) (tC (.int i)):=λ_ _ _ H _ I h=>wpAny_Constant_int {.int i,H,I.tok _,{40},h}
theorem Z9{b j pos}:PE X (.Constant (.bool b) j pos) (tC (.bl b)):=λ_ _ _ H _ I h=>Constant_bool {.bl b,H,I,1,h}
theorem U7{j pos}:PE X (.Constant .none j pos) (tC .non):=λ_ _ _ H _ I h=>NM {.non,H,I,1,h}
theorem Zh{x j pos}:PE X (.Constant (.str x) j pos) (tC (.str x)):=λ_ _ _ H _ I h=>Calls.Constant_str {.str x,H,I.tok _,{40},h}
def Gl(X:Cx)(x:TQ):Prop:=X.env.kindOf x=Ga .globalImplicit
theorem oI(I:zv X zq σ H s)(b:Gl X x)(c:X.mg x=Ga u)(h:Q u s)
  (a:(x==("__debug__":TQ))=Gx:=by decide):wpAny (TU X.prog X.w) X.A (eval (.Name x pos) X.env) Q E s:=
 FN I.ok.kind b (Calls.loadGlobal_global (by rw[I.ok.glob];exact I.mod.glob.keeps I.bk) c h) a
theorem Uy(I:zv X zq σ H s)(d:Gl X x)(e:X.mg x=Gq)(g:bootBuiltins x=Ga u)(h:Q u s)
  (f:x≠"__name__":=by decide)(c:(x==("__debug__":TQ))=Gx:=by decide):wpAny (TU X.prog X.w) X.A (eval (.Name x pos) X.env) Q E s:=by
 have(i,a,b):=I.mod.blt;exact FN I.ok.kind d (Calls.loadGlobal_builtin (by rw[I.ok.glob];exact I.mod.glob.keeps I.bk) e (by rw[I.ok.blt];exact a.keeps I.bk) ((b x f).trans g) h) c
theorem mX(b:Gl X x)(c:X.mg x=Ga u)(r:zu v u)(a:(x==("__debug__":TQ))=Gx:=by decide):PE X (.Name x pos) (tC v):=
 λ_ _ _ H _ I h=>oI I b c ⟨v,H,I,r,h⟩ a
theorem Z8(b:Gl X x)(c:X.mg x=Gq)(e:bootBuiltins x=Ga u)(r:zu v u)(d:x≠"__name__":=by decide)(a:(x==("__debug__":TQ))=Gx:=by decide):PE X (.Name x pos) (tC v):=
 λ_ _ _ H _ I h=>Uy I b c e ⟨v,H,I,r,h⟩ d a
variable{a b:D4}{ta tb:TE}{pos:M3}
def PC(X:Cx)(e:CmpOp)(a b:D4)(t:TE):Prop:=
 ∀(zq:List (Gd×S8))(s:Gz)(σ:St)(H:Hp)(Q:VK),zv X zq σ H s->t σ H Q->
  wpAny (TU X.prog X.w) X.A (eval a X.env) (λv c=>wpAny (TU X.prog X.w) X.A (eval b X.env) (λu d=>wpAny (TU X.prog X.w) X.A (Ee e v u) (EP X zq σ Q) X.xe d) X.xe c) X.xe s
theorem WL(b:D4)(h:op≠.In)(d:op≠.NotIn):behindInMarks op b=Gx:=by
 have a:(op==JU)=Gx:=by cases op<;>first|rfl|exact absurd rfl h
 have c:(op==Hv)=Gx:=by cases op<;>first|rfl|exact absurd rfl d
 cases b<;>simp[behindInMarks,a,c]
def OQ(ta:TE):TE:=λσ H Q=>ta σ H λx H1=>Q (.bl (decide (x=.non))) H1
def YE(ta:TE):TE:=λσ H Q=>ta σ H λx H1=>Q (.bl (!decide (x=.non))) H1
theorem zu.vW{x:V}{v:Gj}(r:zu x v):(v==DE)=decide (x=.non):=by
 cases x with
 |non=>cases r;rfl
 |bl _=>cases r;rfl
 |int _=>have(t,rfl):=r;rfl
 |str _=>have(t,rfl):=r;rfl
 |byt _=>have(t,rfl):=r;rfl
 |flt _=>have(t,rfl):=r;rfl
 |ref _=>cases r;rfl
 |ty _=>cases r;rfl
theorem VH{j pos'}(e:PE X a ta):PC X .Is a (.Constant .none j pos') (OQ ta):=by intro b s i H Q I h;refine Xg (e b s i H _ I h) λv k⟨x,c,d,g,f⟩=>?_;exact NM (Hw {.bl _,c,d,by rw[g.vW];rfl,f})
theorem wj{j pos'}(e:PE X a ta):PC X .IsNot a (.Constant .none j pos') (YE ta):=by intro b s i H Q I h;refine Xg (e b s i H _ I h) λv k⟨x,c,d,g,f⟩=>?_;exact NM (BH {.bl _,c,d,by rw[g.vW];rfl,f})
inductive iTB(Q:Bool->Hp->Prop)(x:V)(H1:Hp):Prop
 |mk (c:_) (h0:x=.bl c) (h1:Q c H1):iTB Q x H1
def tB(t:TE):TT:=λσ H Q=>t σ H λx H1=>iTB Q x H1
theorem Oy(h:PC X op a b t)(f:behindInMarks op b=Gx:=by first|exact WL _ (by decide) (by decide)|rfl):PT X (.Compare a [op] [b] pos) (tB t):=by intro e s m H Q I hw;refine Nc (Xg (h e s m H _ I hw) λv n f=>Xg f λu o j=>Xg j λc p⟨x,g,i,l,k⟩=>?_) f;have(d,rfl,q):=k;cases l;exact EH ⟨g,i,q⟩
theorem Z1(h:PE X e t)(f:∀a,isTrue e X.env a=(do let v<-a;standAt e.pos;holding [v] (truthy v)):=by intro _;rfl):PT X e (tB t):=by intro a s j H Q I hw;refine C8 (Xg (h a s j H _ I hw) λv k⟨x,b,c,i,g⟩=>?_) (f _);have(d,rfl,q):=g;cases i;exact EH ⟨b,c,q⟩
variable{tA tB':TT}{X8:List D4}
def Q71(t u:TT):TT:=λσ H Q=>t σ H λc H1=>if c=Gi then u σ H1 Q else Q Gx H1
def tOr(t u:TT):TT:=λσ H Q=>t σ H λc H1=>if c=Gi then Q Gi H1 else u σ H1 Q
def KZ(t:TT):TT:=λσ H Q=>t σ H λc H1=>Q (!c) H1
theorem Jk(d:PT X a tA):PW X (.BoolOp .And [a] pos) tA:=by
 intro i b s f H Q I h;refine IA (Xg (d b s f H Q I h) λc g e=>?_);cases c with
 |true=>exact isTrue_and_nil e
 |false=>exact e
theorem Xe(d:PT X a tA):PW X (.BoolOp .Or [a] pos) tA:=by
 intro i b s f H Q I h;refine isTrue_or (Xg (d b s f H Q I h) λc g e=>?_);cases c with
 |false=>exact isTrue_or_nil e
 |true=>exact e
theorem Ii(j:PT X a tA)(k:PW X (.BoolOp .And (b::X8) pos) tB'):PW X (.BoolOp .And (a::b::X8) pos) (Q71 tA tB'):=by
 intro m d s i H Q I h;refine IA (Xg (j d s i H _ I h) λc l⟨e,f,g⟩=>?_);cases c with
 |true=>exact k m d l i e Q f g
 |false=>exact⟨e,f,g⟩
theorem Yv(j:PT X a tA)(k:PW X (.BoolOp .Or (b::X8) pos) tB'):PW X (.BoolOp .Or (a::b::X8) pos) (tOr tA tB'):=by
 intro m d s i H Q I h;refine isTrue_or (Xg (j d s i H _ I h) λc l⟨e,f,g⟩=>?_);cases c with
 |true=>exact⟨e,f,g⟩
 |false=>exact k m d l i e Q f g
theorem Yk(e:PT X a tA):PT X (.UnaryOp .Not a pos) (KZ tA):=by intro b s f H Q I h;exact isTrue_not (e b s f H (λc d=>Q (!c) d) I h)
inductive zW(tb:TE)(σ:St)(Q:VK)(x:V)(H1:Hp):Prop
 |mk (c:_) (h0:x=.bl c) (h1:if c=Gi then tb σ H1 Q else Q (.bl Gx) H1):zW tb σ Q x H1
def KP(ta tb:TE):TE:=λσ H Q=>ta σ H λx H1=>zW tb σ Q x H1
inductive y6(Q:VK)(x:V)(H1:Hp):Prop
 |mk (c:_) (h0:x=.bl c) (h1:Q (.bl (!c)) H1):y6 Q x H1
def Q6p(ta:TE):TE:=λσ H Q=>ta σ H λx H1=>y6 Q x H1
theorem kM{c}(h:PE X a t):PE X (.BoolOp c [a] pos) t:=λb s d H Q I hw=>BoolOp_one (h b s d H Q I hw)
theorem lR(j:PE X a ta)(k:PE X (.BoolOp .And (b::X8) pos) tb):PE X (.BoolOp .And (a::b::X8) pos) (KP ta tb):=by
 intro d s i H Q I h;refine BoolOp_and (Xg (j d s i H _ I h) λv m⟨x,f,g,l,e⟩=>?_);have(c,rfl,e):=e;cases l;refine EH ?_;cases c with
 |true=>exact k d m i f Q g e
 |false=>exact{.bl Gx,f,g,1,e}
theorem PH(g:PE X a ta):PE X (.UnaryOp .Not a pos) (Q6p ta):=by intro b s j H Q I h;refine UnaryOp_ (Xg (g b s j H _ I h) λv k⟨x,e,f,i,d⟩=>?_);have(c,rfl,d):=d;cases i;exact not_of (EH {.bl (!c),e,f,1,d})
def tIf(t:TT)(ta tb:TE):TE:=λσ H Q=>t σ H λc H1=>if c=Gi then ta σ H1 Q else tb σ H1 Q
theorem K1(n:PT X c tA)(l:PE X a ta)(m:PE X b tb):PE X (.IfExp c a b pos) (tIf tA ta tb):=by
 intro e s f H Q I h;refine wpAny_IfExp (Xg (n e s f H _ I h) λd k⟨g,i,j⟩=>?_);cases d with
 |true=>exact l e k f g Q i j
 |false=>exact m e k f g Q i j
end
def Uw(K:Gf)(H:Hp)(a:Gd)(xs:List V):Prop:=
 Rd H a (.lst xs)\/
  ∃(o:S8)(b:Array Gj)(n:Nat),K.lookup a=Ga o/\o.cls=.type "list"/\o.dict=Gq/\o.data=.seq b n/\b.size<=TH/\Yg xs b.toList
def hB(K:Gf)(H:Hp)(a:Gd)(xs:List V):Prop:=
 Rd H a (.tup xs)\/
  ∃(o:S8)(b:Array Gj)(n:Nat),K.lookup a=Ga o/\o.cls=.type "tuple"/\o.data=.seq b n/\b.size<=TH/\Yg xs b.toList
noncomputable def UX:Gj->Option V
 |.none=>Ga .non
 |.bool b=>Ga (.bl b)
 |.int i _=>Ga (.int i)
 |.str x _=>Ga (.str x)
 |.bytes b _=>Ga (.byt b)
 |.float b _=>Ga (.flt b)
 |.ref a=>Ga (.ref a)
 |.type n=>Ga (.ty n)
 |_=>Gq
theorem zu.abs{x:V}(r:zu x u):UX u=Ga x:=by
 cases x with
 |non=>cases r;rfl
 |bl _=>cases r;rfl
 |int _=>have(t,rfl):=r;rfl
 |str _=>have(t,rfl):=r;rfl
 |byt _=>have(t,rfl):=r;rfl
 |flt _=>have(t,rfl):=r;rfl
 |ref _=>cases r;rfl
 |ty _=>cases r;rfl
theorem zu.inj{x y:V}{u:Gj}(r:zu x u)(q:zu y u):x=y:=T3 (r.abs.symm.trans q.abs)
theorem Yg.inj{c a:List V}{b:List Gj}(h:Yg c b)(k:Yg a b):c=a:=by
 induction h generalizing a with
 |nil=>cases k;rfl
 |cons r _ d=>cases k with|cons e f=>rw[r.inj e,d f]
section
variable{X:Cx}{zq:List (Gd×S8)}{σ:St}{H:Hp}{s:Gz}{a:Gd}{xs ys:List V}
theorem Qk(h:H a=Ga (.lst xs)):Uw K H a xs:=.inl (.inl h)
theorem Qj(h:H a=Ga (.tup xs)):hB K H a xs:=.inl (.inl h)
theorem zv.list(I:zv X zq σ H s)(h:Uw X.K H a xs):∃b:List Gj,Yg xs b/\PlainL s.heap a b.toArray/\xs.length<=TH:=by
 rcases h with h|⟨o,b,n,f,c,d,hs,g,r⟩
 .obtain⟨z,b,n,r,e⟩:=h.ok I.Yc;exact{b,r,{_,n,e,111},z}
 .exists b.toList,r,{o,n,I.Rc a o f,c,d,by simpa using hs};have e:=r.length;simp only[DF]at e;ext
theorem zv.tuple(I:zv X zq σ H s)(h:hB X.K H a xs):∃b:List Gj,Yg xs b/\IsTup s.heap a b.toArray/\xs.length<=TH:=by
 rcases h with h|⟨o,b,n,d,c,hs,f,r⟩
 .obtain⟨z,b,r,p⟩:=h.ok I.Yc;exact⟨b,r,p,z⟩
 .exists b.toList,r,{o,I.Rc a o d,c,n,by simpa using hs};have e:=r.length;simp only[DF]at e;ext
theorem zv.rP(I:zv X zq σ H s)(h:Uw X.K H a xs)(j:Uw X.K H a ys):xs=ys:=by
 have(c,r,(o,n,e,_,_,d),_):=I.list h;have(b,k,(m,l,g,_,_,f),_):=I.list j;rw[e]at g;cases g;rw[d]at f;injection f with i _;have:c=b:=by simpa using congrArg C9 i
 subst this;exact r.inj k
theorem zv.SL(I:zv X zq σ H s)(h:hB X.K H a xs)(j:hB X.K H a ys):xs=ys:=by
 have(c,r,(o,e,_,n,d),_):=I.tuple h;have(b,k,(m,g,_,l,f),_):=I.tuple j;rw[e]at g;cases g;rw[d]at f;injection f with i _;have:c=b:=by simpa using congrArg C9 i
 subst this;exact r.inj k
end
noncomputable abbrev Cx.iX(X:Cx)(E:Gj->Gz->Prop):Cx:={X with xe:=E}
noncomputable abbrev Cx.nox(X:Cx):Cx:=X.iX λ_ _=>False
theorem Cx.Ok.iX{X:Cx}(ok:X.Ok)(E:Gj->Gz->Prop):(X.iX E).Ok:=
 {ok.mod,ok.kind,ok.glob,ok.blt,ok.above,ok.inj,ok.has,ok.cab,ok.hd,ok.frames,ok.stk,ok.exf,ok.bs,ok.bsz,ok.Qwu,ok.Qzr,ok.iE,ok.frf}
theorem Cx.Ok.Ri(ok:(X.iX E).Ok):X.Ok:=
 {ok.mod,ok.kind,ok.glob,ok.blt,ok.above,ok.inj,ok.has,ok.cab,ok.hd,ok.frames,ok.stk,ok.exf,ok.bs,ok.bsz,ok.Qwu,ok.Qzr,ok.iE,ok.frf}
section
variable{X:Cx}{zq:List (Gd×S8)}{σ:St}{H:Hp}{s:Gz}{E:Gj->Gz->Prop}
theorem zv.iX(I:zv X zq σ H s)(E:Gj->Gz->Prop):zv (X.iX E) zq σ H s:={I.ok.iX E,I.os,I.bare,I.base,I.loc,I.cell,I.free,I.I8,I.pin,I.Yc,I.len}
theorem zv.Ri(I:zv (X.iX E) zq σ H s):zv X zq σ H s:={I.ok.Ri,I.os,I.bare,I.base,I.loc,I.cell,I.free,I.I8,I.pin,I.Yc,I.len}
theorem SP.Ri{D:Ends}{f:Flow}{c:Gz}(h:SP (X.iX E) zq D f c):SP X zq D f c:=by
 cases f with
 |next=>have(a,b,I,q):=h;exact⟨a,b,I.Ri,q⟩
 |brk=>have(a,b,I,q):=h;exact{a,b,I.Ri,q}
 |cont=>have(a,b,I,q):=h;exact{a,b,I.Ri,q}
 |ret u=>have(v,a,b,I,r,q):=h;exact{v,a,b,I.Ri,r,q}
theorem W0.nox{b:List DR}{t:TS}(h:W0 X.nox b t):W0 X b t:=λa s c H D I hw=>ET (h a s c H D (I.iX _) hw) (λ_ _ q=>q.Ri) λ_ _ z=>False.elim z
end
section
variable{X:Cx}{st:DR}{X8:List DR}{t u:TS}{e:D4}{te:TE}{pos:M3}
def OS:TS:=λD σ H=>D.nx σ H
def KW(t u:TS):TS:=λD σ H=>t {D with nx:=u D} σ H
theorem Qw:W0 X [] OS:=λ_ _ a H _ I h=>Fw ⟨a,H,I,h⟩
theorem Qc(e:PS X st t)(g:W0 X X8 u):W0 X (st::X8) (KW t u):=by
 intro a s j H D I h;refine Bb (Xg (e a s j H {D with nx:=u D} I h) λf i q=>?_);cases f with
 |next=>have(b,c,d,q):=q;exact g a i b c D d q
 |ret v=>exact q
 |brk=>exact q
 |cont=>exact q
theorem Qg(b:PS X st t):W0 X [st] t:=by
 intro a s c H D I h;refine Bb (Xg (b a s c H D I h) λf d q=>?_);cases f with
 |next=>exact Fw q
 |ret v=>exact q
 |brk=>exact q
 |cont=>exact q
def QR:TS:=λD σ H=>D.ct σ H
theorem YR:PS X (.Continue pos) QR:=λ_ _ a H _ I h=>wpAny_Continue ⟨a,H,I,h⟩
theorem zv.quiet(I:zv X zq σ H s):interactive X.env=Gx:=by simp[interactive,I.ok.kind]
def OC(te:TE):TS:=λD σ H=>te σ H λ_ H1=>D.nx σ H1
theorem Zl(f:PE X e te)(hs:swapsWith e Gq pos.line X.env=pure Gx:=by rfl):PS X (.Expr e pos) (OC te):=by intro a s b H D I h;exact wpAny_Expr_any (Xg (f a s b H _ I h) λv j⟨x,c,d,i,g⟩=>⟨b,c,d,g⟩) I.quiet hs
def PQ(te:TE):TS:=λD σ H=>te σ H D.rt
theorem Qt(f:PE X e te):PS X (.Return (Ga e) pos) (PQ te):=by intro a s b H D I h;exact wpAny_Return_some (Xg (f a s b H _ I h) λv j⟨x,c,d,i,g⟩=>⟨x,b,c,d,i,g⟩)
def UT:TS:=λD _ H=>D.rt .non H
theorem OG:PS X (.Return Gq pos) UT:=λ_ _ a H _ I h=>wpAny_Return_none {.non,a,H,I,1,h}
def Qq(c:TT)(t u:TS):TS:=λD σ H=>c σ H λb H1=>if b=Gi then t D σ H1 else u D σ H1
theorem Zb{a b:List DR}{l:TT}(o:PT X c l)(m:W0 X a t)(n:W0 X b u):PS X (.If c a b pos) (Qq l t u):=by
 intro e s f H D I h;refine wpAny_If (Xg (o e s f H _ I h) λd k⟨g,i,j⟩=>?_);cases d with
 |true=>exact m e k f g D i j
 |false=>exact n e k f g D i j
end
abbrev TG:=V->St->Hp->(St->Hp->Prop)->Prop
variable{g:TG}
abbrev je:=List V->St->Hp->(St->Hp->Prop)->Prop
def PG(X:Cx)(a:D4)(t:TG):Prop:=
 ∀(zq:List (Gd×S8))(s:Gz)(σ:St)(H:Hp)(v:V)(u:Gj)(Q:St->Hp->Prop),zv X zq σ H s->zu v u->t v σ H Q->
  wpAny (TU X.prog X.w) X.A (assign a X.env u) (λ_ s'=>∃b H',zv X zq b H' s'/\Q b H') X.xe s
def nL(X:Cx)(ts:List D4)(t:je):Prop:=
 ∀(zq:List (Gd×S8))(s:Gz)(σ:St)(H:Hp)(c:List V)(b:List Gj)(Q:St->Hp->Prop),zv X zq σ H s->Yg c b->t c σ H Q->
  wpAny (TU X.prog X.w) X.A (assignInOrder ((assignEach ts X.env).map (·.2)) b) (λ_ s'=>∃a H',zv X zq a H' s'/\Q a H') X.xe s
abbrev ny:=V->V->V->Hp->(Hp->Prop)->Prop
def vz(X:Cx)(t:ny):Prop:=
 ∀(zq:List (Gd×S8))(s:Gz)(σ:St)(H:Hp)(o i v:V)(ov a u:Gj)(Q:Hp->Prop),zv X zq σ H s->zu o ov->zu i a->zu v u->t o i v H Q->
  wpAny (TU X.prog X.w) X.A (setItem ov a u) (λ_ s'=>∃H',zv X zq σ H' s'/\Q H') X.xe s
section
variable{X:Cx}{pos:M3}
def Ui(i:Nat):TG:=λv σ H Q=>Q (σ.set i (Ga v)) H
theorem Yz(c:X.N.Nodup)(hi:X.N[i]?=Ga x)(e:Loc X.env.scope x)(d:X.fn x=Gi\/X.env.scope.names.lookup x=Ga .local:=by infer_instance):PG X (.Name x pos) (Ui i):=by intro a s g H v u Q I r h;exact RH (A1 I c hi e r (λf b=>{_,H,b,h}) d)
theorem Z5(i:Nat)(a:X.N.Nodup)(hi:X.N[i]?=Ga x:=by rfl)(c:Loc X.env.scope x:=by exact DX Xb)(b:X.fn x=Gi\/X.env.scope.names.lookup x=Ga .local:=by infer_instance):PG X (.Name x pos) (Ui i):=Yz a hi c b
def qe:je:=λa σ H Q=>a=[]/\Q σ H
inductive yZ(t:TG)(u:je)(vs:List V)(σ:St)(H:Hp)(Q:St->Hp->Prop):Prop
 |mk (v:_) (r:_) (h0:vs=v::r) (h1:t v σ H λσ' H'=>u r σ' H' Q):yZ t u vs σ H Q
def md(t:TG)(u:je):je:=λa σ H Q=>yZ t u a σ H Q
theorem Wp:nL X [] qe:=by intro a s b H d c Q I r h;have(e,h):=h;subst e;cases r;exact assignInOrder_nil ⟨b,H,I,h⟩
theorem Zr{b:List D4}{t:TG}{u:je}(i:PG X e t)(j:nL X b u)
  (hs:(assignEach (e::b) X.env).map (·.2)=assign e X.env::(assignEach b X.env).map (·.2):=by rfl):nL X (e::b) (md t u):=by
 intro a s n H d c Q I r h;have(v,o,g,h):=h;subst g;cases r with
 |cons r l=>rw[hs];refine assignInOrder_cons (Xg (i a s n H _ _ _ I r h) λ_ m⟨c,d,f,k⟩=>?_);exact j a m c d _ _ Q f l k
inductive Kq(K:Gf)(n:Nat)(t:je)(v:V)(σ:St)(H:Hp)(Q:St->Hp->Prop):Prop
 |mk (a:_) (xs:_) (h0:v=.ref a) (h1:hB K H a xs) (h2:xs.length=n) (h3:t xs σ H Q):Kq K n t v σ H Q
def qB(K:Gf)(n:Nat)(t:je):TG:=λv σ H Q=>Kq K n t v σ H Q
theorem Uc{d:List D4}{t:je}(p:X.calm=Gi)(h:nL X d t)
  (w:(assignEach d X.env).length=n:=by rfl)(f:(assignEach d X.env).findIdx? (·.1)=Gq:=by rfl):PG X (.Tuple d k pos) (qB X.K n t):=by
 intro c s i H v u Q I r hw;have(a,A,l,x,q,hw):=hw;subst l;cases r;have(z,g,ht,B):=I.tuple x;refine assign_Tuple_tuple (I.ok.hd p) ht (by simp[w,<-q,g.length]) f λm y=>?_;have j:zv X c i H {s with heap:=m}:=I.kept (t':=s.toks) λb o e=>y b o (T2 (Tn e)) e;exact h c _ i H A _ Q j (by simpa using g) hw
def VU(to b:TE)(t:ny):TG:=λv σ H Q=>to σ H λo H1=>b σ H1 λi H2=>t o i v H2 λa=>Q σ a
theorem ke{o i:D4}{e d:TE}{t:ny}(p:PE X o e)(hi:PE X i d)(hs:vz X t)
  (n:∀v,assign (.Subscript o i pos) X.env v=(do
   let ov<-holding [v] (eval o X.env)
   let b<-holding [v,ov] (eval i X.env)
   standAt pos
   holding [v,ov,b] (setItem ov b v)
   release [v,ov,b] []):=by intro _;rfl):PG X (.Subscript o i pos) (VU e d t):=by
 intro a s c H v u Q I r h;rw[n];refine Gb (D9 (Xg (p a s c H _ I h) λov C⟨x,f,k,A,q⟩=>?_));refine Gb (D9 (Xg (hi a C c f _ k q) λb D⟨y,g,l,B,w⟩=>?_));refine Gb (NN (Gb (D9 (Xg (hs a D c g x y v ov b u _ l A B r w) λ_ E⟨j,m,z⟩=>?_))));exact wpAny_release ⟨c,j,m,z⟩
def om(te:TE)(g:TG):TS:=λD σ H=>te σ H λx H1=>g x σ H1 D.nx
theorem Rk(i:PE X e te)(j:PG X tg g)(hs:swapsWithSole [tg] e pos.line X.env=pure Gx:=by rfl)(hw:swappedStores [tg] e X.env=pure Gq:=by rfl)
  (f:(assignEach [tg] X.env).map (·.2)=[assign tg X.env]:=by rfl):PS X (.Assign [tg] e pos) (om te g):=by
 intro a s b H D I h;refine wpAny_Assign_stores (Xg (i a s b H _ I h) λv m⟨x,c,d,l,k⟩=>?_) hs hw;rw[f];exact Xg (j a m b c x v _ d l k) λ_ n q=>q
theorem V5{a:M3}(g:X.N.Nodup)(hi:X.N[i]?=Ga x)(l:Loc X.env.scope x)(j:PE X e te)(hs:swapsWith e (Ga (.Name x a)) pos.line X.env=pure Gx:=by rfl)(k:X.fn x=Gi\/X.env.scope.names.lookup x=Ga .local:=by infer_instance):
  PS X (.Assign [.Name x a] e pos) (om te (Ui i)):=by
 intro b s o H D I h;refine wpAny_Assign_Name (Xg (j b s o H _ I h) λv p⟨y,c,d,n,m⟩=>?_) hs;exact A1 d g hi l n (λr f=>{_,c,f,m}) k
theorem Qz(i:Nat){a:M3}(b:X.N.Nodup)(c:PE X e te)(hi:X.N[i]?=Ga x:=by rfl)(f:Loc X.env.scope x:=by exact DX Xb)(hs:swapsWith e (Ga (.Name x a)) pos.line X.env=pure Gx:=by rfl)(d:X.fn x=Gi\/X.env.scope.names.lookup x=Ga .local:=by infer_instance):PS X (.Assign [.Name x a] e pos) (om te (Ui i)):=V5 b hi f c hs d
def uw(c:TT)(tb:TS):TS:=λD σ H=>∃W:Nat->St->Hp->Prop,(∃m,W m σ H)/\∀m σ H,W m σ H->
 c σ H λb H1=>if b=Gi then∃N:St->Hp->Prop,(∀a H',N a H'->∃d,d<m/\W d a H')/\tb {D with nx:=N,ct:=N,bk:=D.nx} σ H1 else D.nx σ H1
theorem Ww{y:TT}(x:PassesOwn (TU X.prog X.w) X.A X.env X.xe)(B:PT X c y)(A:W0 X body tb):PS X (.While c body [] pos) (uw y tb):=by
 intro a s L H D I h;have(W,(C,J),turn):=h;refine wpAny_While (codeAny_whileLoop (λn E=>∃i q,zv X a i q E/\W n i q) ?_ C ⟨L,H,I,J⟩);rintro n F ⟨e,r,z,K⟩;refine Sz x (Xg (B a F e r _ z (turn n e r K)) λb G⟨t,u,j⟩=>?_);cases b with
 |true=>
  have(N,w,j):=j;rw[GV rfl];refine Sz x (Xg (A a G e t _ u j) λf M k=>?_);cases f with
  |next=>have(d,g,l,n3):=k;have(o,m,p):=w d g n3;exact⟨o,m,d,g,l,p⟩
  |cont=>have(d,g,l,n3):=k;have(o,m,p):=w d g n3;exact⟨o,m,d,g,l,p⟩
  |brk=>exact k
  |ret v=>exact k
 |false=>rw[Gs TD];exact Fw ⟨e,t,u,j⟩
end
structure It where
 go:Nat->Hp->Prop
 yld:Nat->Hp->V->Hp->Prop
 stop:Nat->Hp->Prop
def ix(X:Cx)(zq:List (Gd×S8))(H:Hp)(b:Gd):Prop:=
 H b=Gq/\b≠X.env.locals/\b∉X.fs/\(b∈X.ex\/X.s₀.heap.objs.size<=b)/\(∀x c,X.env.cells.lookup x=Ga c->c≠b)/\∀p∈X.pn++zq,p.1≠b
theorem zv.jk{d:Hp}(I:zv X zq σ H s)(a:s.heap.objs.size<=b)(f:d b=Gq):ix X zq d b:=by
 refine{f,DB (TZ I.lt a),I.Q8q a,.inr (DA I.sz a),λx c e z=>?_,λp g z=>?_}
 .obtain⟨v,q⟩:=I.cell x c e;exact absurd (TZ q.lt (by rw[z];exact a)) (EF _)
 .exact absurd (TZ (Tn (I.pin p g).1) (by rw[z];exact a)) (EF _)
structure jf(P:Gn)(w:Tg)(K:Gf)(tg:D4)(J:It)(fp:List Gd)(it:Gd)(tn:Nat->Heap->Prop):Prop where
 mem:it∈fp
 obj:∀i h,tn i h->∀b∈fp,∃o,h.get? b=Ga o/\∀v,o.data≠.cell v
 keep:∀i h h',tn i h->(∀b∈fp,∀o,h.get? b=Ga o->h'.get? b=Ga o)->tn i h'
 item:∀(X:Cx),X.prog=P->X.w=w->X.K=K->X.calm=Gi->∀(i:Nat)(zq:List (Gd×S8))(s:Gz)(σ:St)(H:Hp)(E:Gj->Gz->Prop),zv X zq σ H s->(∀b∈fp,ix X zq H b)->tn i s.heap->J.go i H->
  wpAny (TU P w) X.A (pyNext (.ref it)) (λr s1=>∃u,r=Ga u/\
   wpAny (TU P w) X.A (letOwnedTupleGo tg (.ref it) u) (λ_ s2=>∃x H',zv X zq σ H' s2/\zu x u/\J.yld i H x H'/\tn (i+1) s2.heap/\∀b∈fp,H' b=Gq) E s1) E s
 done:∀(X:Cx),X.prog=P->X.w=w->X.K=K->X.calm=Gi->∀(i:Nat)(zq:List (Gd×S8))(s:Gz)(σ:St)(H:Hp)(E:Gj->Gz->Prop),zv X zq σ H s->(∀b∈fp,ix X zq H b)->tn i s.heap->J.stop i H->
  wpAny (TU P w) X.A (pyNext (.ref it)) (λr s1=>r=Gq/\zv X zq σ H s1) E s
 self:∀(A:DT)(i:Nat)(s:Gz)(Q:Gj->Gz->Prop)(E:Gj->Gz->Prop),tn i s.heap->Q (.ref it) s->wpAny (TU P w) A (pyIter (.ref it)) Q E s
abbrev TI:=St->Hp->(It->Hp->Prop)->Prop
def Kn(X:Cx)(zq:List (Gd×S8))(σ:St)(tg:D4)(R:It->Hp->Prop)(a:Gj)(d:Gz):Prop:=
 ∃(c:Gd)(fp:List Gd)(e:Nat->Heap->Prop)(J:It)(H':Hp),a=.ref c/\zv X zq σ H' d/\jf X.prog X.w X.K tg J fp c e/\e 0 d.heap/\(∀b∈fp,ix X zq H' b)/\R J H'
def PI(X:Cx)(tg iter:D4)(wi:TI):Prop:=
 ∀(zq:List (Gd×S8))(s:Gz)(σ:St)(H:Hp)(R:It->Hp->Prop),zv X zq σ H s->wi σ H R->
  wpAny (TU X.prog X.w) X.A (eval iter X.env) (λv a=>wpAny (TU X.prog X.w) X.A (pyIter v) (Kn X zq σ tg R) X.xe a) X.xe s
theorem kX      {b : Gd}   {n : String} {c : Array Gj} {Q : Unit -> Gz -> Prop} (g : s.heap.get? b = Ga o) (d : o.cls = .type n) (e : o.data = .fields c)
    (f : ["enumerate", "zip", "dict_itemiterator", "dict_reverseitemiterator", "odict_iterator", "itertools.zip_longest", "itertools.pairwise"].contains n = Gx) (a : Q () s) : wpAny M A (letOwnedTupleGo tg (.ref b) u) Q E s := by
  unfold letOwnedTupleGo
  cases tg <;> first
    | exact Gm a
    | (cases u <;> first
        | exact Gm a
        | (refine Gb (wpAny_load g ?_)
           rw [d, e]
           show wpAny M A (if (["enumerate", "zip", "dict_itemiterator", "dict_reverseitemiterator", "odict_iterator", "itertools.zip_longest", "itertools.pairwise"].contains n && c[0]? == Ga (rawInt _)) = Gi then _ else _) Q E s
           rw [Gs (by intro h; rw [f, Bool.false_and] at h; cases h)]
           exact Gm a))
def iT(K:Gf)(a:Gd):It:=
 {λi H=>∃xs x,Uw K H a xs/\xs[i]?=Ga x,λi H x H'=>H'=H/\∀xs,Uw K H a xs->xs[i]?=Ga x,λi H=>∃xs,Uw K H a xs/\xs.length<=i}
def ju(K:Gf)(a:Gd):It:=
 {λi H=>∃xs x,hB K H a xs/\xs[i]?=Ga x,λi H x H'=>H'=H/\∀xs,hB K H a xs->xs[i]?=Ga x,λi H=>∃xs,hB K H a xs/\xs.length<=i}
def jZ(lo:Int)(n:Nat):It:={λi _=>i<n,λi H x H'=>H'=H/\x=.int (lo+i),λi _=>n<=i}
theorem UJ(a l:Gd):jf P w K tg (iT K a) [l] l (λi h=>h.IsListIter l a i) where
 mem:=by simp
 obj:=λi h f b j=>by
  have e:b=l:=by simpa using j
  subst e;have(o,e,c,d):=f;exact{o,e,λv z=>by rw[d]at z;cases z}
 keep:=λi h n f k=>f.at λo e=>k l (by simp) o e
 item:=by intro X F hw D N i g s O H E I q f G;subst F hw D;have(W,x,r,J):=G;have(L,M,p,T):=I.list r;have(u,R,U):=M.get J;have(t,y,Q,A,B,C):=q l (by simp);refine wpAny_pyNext_list_item f p.isList (x:=u) (by simpa using R) λn m V=>?_;have v:zv X g O H {s with heap:=n}:=I.turned (t':=s.toks) (λb o j e=>(V.2 b j).trans e) t y A B C;have(o,e,c,d):=id m;exact{u,1,kX (s:={s with heap:=n}) e c d (by decide) {x,H,v,U,{1,λY S=>by rw[I.rP S r];exact J},m,λb j=>(q b j).1}}
 done:=by intro X F hw D N i g s O H E I q f G;subst F hw D;have(W,r,J):=G;have(L,M,p,T):=I.list r;have(t,y,Q,A,B,C):=q l (by simp);have v:=M.length;exact wpAny_pyNext_list_end (I.ok.hd N) f p.isList (by simp;lia) λn m=>{1,I.turned (t':=s.toks) (λb o j e=>m b o j e) t y A B C}
 self:=λ_ _ _ _ _ f h=>wpAny_pyIter_listiter f h
theorem Pc(a l:Gd):jf P w K tg (ju K a) [l] l (λi h=>h.IsTupleIter l a i) where
 mem:=by simp
 obj:=λi h f b j=>by
  have e:b=l:=by simpa using j
  subst e;have(o,e,c,d):=f;exact{o,e,λv z=>by rw[d]at z;cases z}
 keep:=λi h q f k=>f.at λo e=>k l (by simp) o e
 item:=by intro X G hw F N i g s O H E I r f J;subst G hw F;have(W,x,t,L):=J;have(m,M,p,T):=I.tuple t;have(u,R,U):=M.get L;have(y,A,Q,B,C,D):=r l (by simp);refine wpAny_pyNext_tuple_item f (show s.heap.IsTuple a m.toArray from p) (x:=u) (by simpa using R) λq n V=>?_;have v:zv X g O H {s with heap:=q}:=I.turned (t':=s.toks) (λb o j e=>(V.2 b j).trans e) y A B C D;have(o,e,c,d):=id n;exact{u,1,kX (s:={s with heap:=q}) e c d (by decide) {x,H,v,U,{1,λY S=>by rw[I.SL S t];exact L},n,λb j=>(r b j).1}}
 done:=by intro X G hw F N i g s O H E I r f J;subst G hw F;have(W,t,L):=J;have(m,M,p,T):=I.tuple t;have(y,A,Q,B,C,D):=r l (by simp);have v:=M.length;exact wpAny_pyNext_tuple_end (I.ok.hd N) f (show s.heap.IsTuple a m.toArray from p) (by simp;ext) λq n=>{1,I.turned (t':=s.toks) (λb o j e=>n b o j e) y A B C D}
 self:=λ_ _ _ _ _ f h=>wpAny_pyIter_tupleiter f h
theorem Qnj(c:Gd)(m:Int)(n:Nat):jf P w K tg (jZ m n) [c] c (λi h=>Np h c (m+(i:Nat)*1) ((n:Int) - (i:Nat)) 1) where
 mem:=by simp
 obj:=λi h a b f=>by
  have e:b=c:=by simpa using f
  subst e;exact{_,a,λv z=>by have g:Hx _=I7 v:=z;cases g}
 keep:=λi h j a k=>k c (by simp) _ a
 item:=by intro X A hw y B i d s F H E I l a C;subst A hw y;have(p,q,J,r,u,x):=l c (by simp);have W:=Hy (prog:=X.prog) (w:=X.w) (I.ok.hd B) c m 1 n;refine W.item i s _ _ C a λv j D L g M=>?_;have(t,rfl):=L;have G:zv X d F H {s with heap:=j,toks:=D}:=I.turned (λb o f e=>M b o (by simpa using f) e) p q r u x;refine{0,kX (s:={s with heap:=j,toks:=D}) (n:="range_iterator") g rfl rfl (by decide) {.int (m+i),H,G,{t,?_},⟨Xb,Xb⟩,g,λb f=>(l b f).1}};rw[Int.mul_one]
 done:=by intro X A hw y B i d s F H E I l a C;subst A hw y;have(p,q,J,r,u,x):=l c (by simp);exact MQ (I.ok.hd B) a (by have:n<=i:=C;lia) λj g=>{1,I.turned (t':=s.toks) (λb o f e=>g b o f e) p q r u x}
 self:=λ_ _ _ _ _ a h=>MR a h
section
variable{X:Cx}{tg:D4}
inductive zl(K:Gf)(R:It->Hp->Prop)(x:V)(H1:Hp):Prop
 |mk (a:_) (h0:x=.ref a) (h1:(∃xs,Uw K H1 a xs)) (h2:R (iT K a) H1):zl K R x H1
def Q63(K:Gf)(tl:TE):TI:=λσ H R=>tl σ H λx H1=>zl K R x H1
inductive xT(K:Gf)(R:It->Hp->Prop)(x:V)(H1:Hp):Prop
 |mk (a:_) (h0:x=.ref a) (h1:(∃xs,hB K H1 a xs)) (h2:R (ju K a) H1):xT K R x H1
def WY(K:Gf)(tl:TE):TI:=λσ H R=>tl σ H λx H1=>xT K R x H1
theorem Yh{l:D4}{g:TE}(k:PE X l g):PI X tg l (Q63 X.K g):=by
 intro c s u H R I h;refine Xg (k c s u H _ I h) λv f⟨x,i,d,t,r⟩=>?_;have(a,e,(z,m),q):=r;subst e;cases t;have(n,y,p,w):=d.list m;refine wpAny_pyIter_list p.isList ?_;refine{f.heap.objs.size,[f.heap.objs.size],2,i,1,d.kept (t':=f.toks) λb o e=>Gp _ e,UJ a _,{_,To _ Xb,11},λb j=>?_,q};have e:b=f.heap.objs.size:=by simpa using j
 subst e;exact d.jk (GJ _) (d.Yc.fresh (GJ _))
theorem Jd{l:D4}{i:TE}(m:PE X l i):PI X tg l (WY X.K i):=by
 intro c s u H R I h;refine Xg (m c s u H _ I h) λv d⟨x,j,f,t,r⟩=>?_;have(a,e,(z,n),q):=r;subst e;cases t;have(g,y,p,w):=f.tuple n;refine FP (show d.heap.IsTuple a g.toArray from p) ?_;refine{d.heap.objs.size,[d.heap.objs.size],2,j,1,f.kept (t':=d.toks) λb o e=>Gp _ e,Pc a _,{_,To _ Xb,11},λb k=>?_,q};have e:b=d.heap.objs.size:=by simpa using k
 subst e;exact f.jk (GJ _) (f.Yc.fresh (GJ _))
theorem Q2{R:It->Hp->Prop}{a hi:Int}{t u v:J4}{d:Nat}(I:zv X zq σ H s)(h: -(2^62)<=a)(i:a<2^62)(j: -(2^62)<=hi)(k:hi<2^62)
  (q:R (jZ a (hi - a).toNat) H):wpAny (TU X.prog X.w) X.A (pyIter (.ref s.heap.objs.size)) (Kn X zq σ tg R) E {s with heap:=s.heap.push {cls:=.type "range",data:=.fields #[.int a t,.int hi u,.int 1 v]},toks:=d}:=by
 refine NT (Hz ..) (small_one h i j k) ?_;have c:zv X zq σ H {s with heap:=s.heap.push {cls:=.type "range",data:=.fields #[.int a t,.int hi u,.int 1 v]},toks:=d}:=I.kept λb o e=>Gp _ e;refine⟨(s.heap.push {cls:=.type "range",data:=.fields #[.int a t,.int hi u,.int 1 v]}).objs.size,[(s.heap.push {cls:=.type "range",data:=.fields #[.int a t,.int hi u,.int 1 v]}).objs.size],_,_,H,Xb,
  c.kept (t':=d) λb o e=>Gp _ e,Qnj _ a (hi - a).toNat,?_,λb l=>?_,q⟩
 .have f:a+((0:Nat):Int)*1=a:=by simp
  have g:(((hi - a).toNat:Nat):Int) - ((0:Nat):Int)=SU a hi 1:=by rw[rangeSize_one];split<;>lia
  show Np _ _ (a+((0:Nat):Int)*1) ((((hi - a).toNat:Nat):Int) - ((0:Nat):Int)) 1;rw[f,g];exact To _ rfl
 .have e:b=(s.heap.push {cls:=.type "range",data:=.fields #[.int a t,.int hi u,.int 1 v]}).objs.size:=by simpa using l
  subst e;exact c.jk (GJ _) (c.Yc.fresh (GJ _))
inductive yj(R:It->Hp->Prop)(vs:List V)(H1:Hp):Prop
 |mk (j:Int) (h0:vs=[.int j]) (h1: -(2^62)<=j) (h2:j<2^62) (h3:R (jZ 0 j.toNat) H1):yj R vs H1
def KC(ta:TA):TI:=λσ H R=>ta σ H λa H1=>yj R a H1
theorem V4{a:D4}{d:TA}{p:M3}(i:Gl X "range")(k:X.mg "range"=Gq)(g:PA X [a] d)(hs:T4 [a] X.env=[(Gx,eval a X.env)]:=by rfl):PI X tg (.Call (.Name "range" p) [a] [] pos) (KC d):=by
 intro b s o H R I h;refine JV (Uy I i k IB (ED (Xg (g pos b s o H _ I h) λw v⟨x,u,f,m,c⟩=>?_) hs Xb));have(j,e,c,l,q):=c;subst e;cases m with
 |cons r n=>cases n;have(t,rfl):=r;exact call_range_1 (Q2 f (by ext) (by ext) c l (by simpa using q))
def K0(wi:TI)(g:TG)(tb:TS):TS:=λD σ H=>wi σ H λJ H1=>∃W:Nat->Nat->St->Hp->Prop,(∃m,W 0 m σ H1)/\∀i m σ H,W i m σ H->
 (J.stop i H/\D.nx σ H)\/(J.go i H/\∃N:St->Hp->Prop,(∀a H',N a H'->∃c,c<m/\W (i+1) c a H')/\∀x H',J.yld i H x H'->g x σ H' λb H2=>tb {D with nx:=N,ct:=N,bk:=D.nx} b H2)
def lX(fp:List Gd)(h:Heap):List (Gd×S8):=fp.filterMap λb=>(h.get? b).map λo=>(b,o)
theorem Ir{h:Heap}(a:b∈fp)(e:h.get? b=Ga o):(b,o)∈lX fp h:=FQ.mpr {b,a,by rw[e];rfl}
theorem QZ{h:Heap}{p:Gd×S8}(d:p∈lX fp h):p.1∈fp/\h.get? p.1=Ga p.2:=by
 have(b,c,e):=FQ.mp d;cases q:h.get? b with
 |none=>rw[q]at e;cases e
 |some o=>rw[q]at e;have a:(b,o)=p:=T3 e;subst a;exact⟨c,q⟩
theorem zv.pinned(I:zv X zq σ H s)(i:∀b∈fp,ix X zq H b)(j:∀b∈fp,∃o,s.heap.get? b=Ga o/\∀v,o.data≠.cell v):zv X (zq++lX fp s.heap) σ H s:=
 I.yc λp k=>(Gh.mp k).elim (λz=>I.pin p (TL _ z)) λz=>by have(c,e):=QZ z;have(f,g,h,_):=i p.1 c;have(o,a,d):=j p.1 c;rw[e]at a;cases a;exact⟨e,f,g,h,d⟩
theorem zv.oF{b:List (Gd×S8)}(I:zv X (zq++b) σ H s):zv X zq σ H s:=I.yc λp a=>I.pin p (TL _ (Gu _ a))
theorem Yb{iter:D4}{N:TI}(p:PassesOwn (TU X.prog X.w) X.A X.env X.xe)(G:X.calm=Gi)(hi:PI X tg iter N)(hg:PG X tg g)(e:W0 X body tb)
  (hs:∀x,foldedSetIterable iter X.env x=pure x:=by intro _;rfl):PS X (.For tg iter body [] pos) (K0 N g tb):=by
 intro k s O P ai S ad;refine wpAny_For (Xg (hi k s O P _ S ad) λag s1 h1=>Xg h1 λak s2 h2=>?_) hs;have(it,o,M,aj,Q,m,T,l,af,E,W,(m0,w0),turn):=h2;subst m;have B:∀{h:Hp},(∀a∈o,h a=Gq)->∀a∈o,ix X k h a:=λhn a e=>{hn a e,(E a e).2};refine codeAny_forLoop_any (λn I=>∃i r h,zv X k r h I/\M i I.heap/\(∀a∈o,h a=Gq)/\W i n r h) ?_ m0 {(0),O,Q,T,af,λa e=>(E a e).1,w0};rintro n J ⟨i,t,v,D,L,F,w3⟩;rcases turn i n t v w3 with⟨stop,qn⟩|⟨go,aa,hN,step⟩
 .refine Sz p (Xg (l.done X rfl rfl rfl G i k J t v X.xe D (B F) L stop) λae s4⟨w,U⟩=>?_);subst w;exact Fw ⟨t,v,U,qn⟩
 .refine Sz p (Xg (l.item X rfl rfl rfl G i k J t v X.xe D (B F) L go) λae s4⟨u,w,h4⟩=>?_);subst w;refine Sz p (Xg h4 λ_ K⟨x,C,V,r5,y5,A,ac⟩=>?_);have Y:=V.pinned (B ac) (l.obj _ _ A);refine Sz p (Xg (hg _ K t C x u _ Y r5 (step x C y5)) λ_ s6⟨ah,R,Z,q6⟩=>?_);refine Sz p (Xg (e _ s6 ah R _ Z q6) λab z j=>?_);have again:∀{f:St}{b:Hp},zv X (k++lX o K.heap) f b z->aa f b->∃H,H<n/\∃i r h,zv X k r h z/\M i z.heap/\(∀a∈o,h a=Gq)/\W i H r h:=λ{f b}c q=>by have(m',hm,w7):=hN f b q;refine{m',hm,i+1,f,b,c.oF,l.keep _ _ _ A λa e y m=>(c.pin (a,y) (TL _ (TL _ (Ir e m)))).1,λa e=>?_,w7};have(y,m,d):=l.obj _ _ A a e;exact(c.pin (a,y) (TL _ (TL _ (Ir e m)))).2.1
  cases ab with
  |next=>have(f,b,c,q):=j;exact again c q
  |cont=>have(f,b,c,q):=j;exact again c q
  |brk=>have(f,b,c,j):=j;exact{f,b,c.oF,j}
  |ret ag=>have(x7,f,b,c,r7,j):=j;exact{x7,f,b,c.oF,r7,j}
end
theorem Yw(b:Nat->St->Hp->Prop)(k:b 0 σ H)(n:∀i σ H,i<=xs.length->b i σ H->Uw K H a xs)
  (hs:∀i x σ H,xs[i]?=Ga x->b i σ H->g x σ H λf H2=>tb {D with nx:=b (i+1),ct:=b (i+1),bk:=D.nx} f H2)(l:∀σ H,b xs.length σ H->D.nx σ H):
  ∃W:Nat->Nat->St->Hp->Prop,(∃m,W 0 m σ H)/\∀i m σ H,W i m σ H->
   ((iT K a).stop i H/\D.nx σ H)\/((iT K a).go i H/\∃N:St->Hp->Prop,(∀d c,N d c->∃j,j<m/\W (i+1) j d c)/\∀x c,(iT K a).yld i H x c->g x σ c λf H2=>tb {D with nx:=N,ct:=N,bk:=D.nx} f H2):=by
 exists λi m σ H=>m=xs.length - i/\i<=xs.length/\b i σ H,{xs.length,by simp,Tu _,k};rintro i m σ H ⟨rfl,hi,p⟩;have q:=n i σ H hi p;by_cases h:i<xs.length
 .refine .inr {{xs,xs[i],q,by simp[h]},b (i+1),λd c j=>{xs.length - (i+1),by ext,1,h,j},λx c y=>?_};have(e,y):=y;subst e;exact hs i x σ _ (y xs q) p
 .have e:i=xs.length:=by ext
  subst e;exact .inl {{xs,q,GJ _},l σ H p}
theorem p6(b:Nat->St->Hp->Prop)(k:b 0 σ H)(n:∀i σ H,i<=xs.length->b i σ H->hB K H a xs)
  (hs:∀i x σ H,xs[i]?=Ga x->b i σ H->g x σ H λf H2=>tb {D with nx:=b (i+1),ct:=b (i+1),bk:=D.nx} f H2)(l:∀σ H,b xs.length σ H->D.nx σ H):
  ∃W:Nat->Nat->St->Hp->Prop,(∃m,W 0 m σ H)/\∀i m σ H,W i m σ H->
   ((ju K a).stop i H/\D.nx σ H)\/((ju K a).go i H/\∃N:St->Hp->Prop,(∀d c,N d c->∃j,j<m/\W (i+1) j d c)/\∀x c,(ju K a).yld i H x c->g x σ c λf H2=>tb {D with nx:=N,ct:=N,bk:=D.nx} f H2):=by
 exists λi m σ H=>m=xs.length - i/\i<=xs.length/\b i σ H,{xs.length,by simp,Tu _,k};rintro i m σ H ⟨rfl,hi,p⟩;have q:=n i σ H hi p;by_cases h:i<xs.length
 .refine .inr {{xs,xs[i],q,by simp[h]},b (i+1),λd c j=>{xs.length - (i+1),by ext,1,h,j},λx c y=>?_};have(e,y):=y;subst e;exact hs i x σ _ (y xs q) p
 .have e:i=xs.length:=by ext
  subst e;exact .inl {{xs,q,GJ _},l σ H p}
theorem Ua{lo:Int}(b:Nat->St->Hp->Prop)(j:b 0 σ H)
  (hs:∀i σ H,i<n->b i σ H->g (.int (lo+i)) σ H λf H2=>tb {D with nx:=b (i+1),ct:=b (i+1),bk:=D.nx} f H2)(k:∀σ H,b n σ H->D.nx σ H):
  ∃W:Nat->Nat->St->Hp->Prop,(∃m,W 0 m σ H)/\∀i m σ H,W i m σ H->
   ((jZ lo n).stop i H/\D.nx σ H)\/((jZ lo n).go i H/\∃N:St->Hp->Prop,(∀d a,N d a->∃h,h<m/\W (i+1) h d a)/\∀x a,(jZ lo n).yld i H x a->g x σ a λf H2=>tb {D with nx:=N,ct:=N,bk:=D.nx} f H2):=by
 exists λi m σ H=>m=n - i/\i<=n/\b i σ H,{n,by simp,Tu _,j};rintro i m σ H ⟨rfl,hi,p⟩;by_cases c:i<n
 .refine .inr {c,b (i+1),λd a h=>{n - (i+1),by ext,1,c,h},λx a y=>?_};have(e,y):=y;subst e y;exact hs i σ _ c p
 .have e:i=n:=by ext
  subst e;exact .inl {GJ _,k σ H p}
abbrev R2:=V->V->Hp->VK->Prop
variable{r:R2}
def hA(X:Cx)(f:Gj->Gj->J8 Gj)(r:R2):Prop:=
 ∀(zq:List (Gd×S8))(s:Gz)(σ:St)(H:Hp)(x y:V)(v u:Gj)(Q:VK),zv X zq σ H s->zu x v->zu y u->r x y H Q->
  wpAny (TU X.prog X.w) X.A (f v u) (EP X zq σ Q) X.xe s
def rE(X:Cx)(f:Gj->J8 Gj)(r:V->Hp->VK->Prop):Prop:=
 ∀(zq:List (Gd×S8))(s:Gz)(σ:St)(H:Hp)(x:V)(v:Gj)(Q:VK),zv X zq σ H s->zu x v->r x H Q->
  wpAny (TU X.prog X.w) X.A (f v) (EP X zq σ Q) X.xe s
def Ur(X:Cx)(f:Gj)(r:List V->Hp->VK->Prop):Prop:=
 ∀(zq:List (Gd×S8))(s:Gz)(σ:St)(H:Hp)(xs:List V)(a:List Gj)(Q:VK),zv X zq σ H s->Yg xs a->r xs H Q->
  wpAny (TU X.prog X.w) X.A (call f a) (EP X zq σ Q) X.xe s
def Q8u(X:Cx)(r:V->Hp->(Bool->Hp->Prop)->Prop):Prop:=
 ∀(zq:List (Gd×S8))(s:Gz)(σ:St)(H:Hp)(x:V)(v:Gj)(Q:Bool->Hp->Prop),zv X zq σ H s->zu x v->r x H Q->
  wpAny (TU X.prog X.w) X.A (truthy v) (TP X zq σ Q) X.xe s
def tOp(r:R2)(ta tb:TE):TE:=λσ H Q=>ta σ H λx H1=>tb σ H1 λy H2=>r x y H2 Q
def tUn(r:V->Hp->VK->Prop)(ta:TE):TE:=λσ H Q=>ta σ H λx H1=>r x H1 Q
inductive iRI(C:Int->Int->Prop)(g:Int->Int->V)(x:V)(y:V)(H:Hp)(Q:VK):Prop
 |mk (i:_) (j:_) (h0:x=.int i) (h1:y=.int j) (h2:C i j) (h3:Q (g i j) H):iRI C g x y H Q
def rI(C:Int->Int->Prop)(g:Int->Int->V):R2:=λx y H Q=>iRI C g x y H Q
inductive A2(g:Int->Int->V)(x:V)(y:V)(H:Hp)(Q:VK):Prop
 |mk (i:_) (j:_) (h0:x=.int i) (h1:y=.int j) (h2:Q (g i j) H):A2 g x y H Q
def rI0(g:Int->Int->V):R2:=λx y H Q=>A2 g x y H Q
inductive iRU(g:Int->V)(x:V)(H:Hp)(Q:VK):Prop
 |mk (i:_) (h0:x=.int i) (h1:Q (g i) H):iRU g x H Q
def rU(g:Int->V):V->Hp->VK->Prop:=λx H Q=>iRU g x H Q
section
variable{X:Cx}{a b c:D4}{ta tb tc:TE}{pos:M3}
theorem qp(j:PE X a ta)(k:PE X b tb){R:V->V->Hp->Prop}(I:zv X zq σ H s)
  (h:ta σ H λx H1=>tb σ H1 λy H2=>R x y H2)
  (l:∀v u e x y H2,zv X zq σ H2 e->zu x v->zu y u->R x y H2->wpAny (TU X.prog X.w) X.A (f v u) Q X.xe e):
  wpAny (TU X.prog X.w) X.A (eval a X.env) (λv c=>wpAny (TU X.prog X.w) X.A (eval b X.env) (λu d=>wpAny (TU X.prog X.w) X.A (f v u) Q X.xe d) X.xe c) X.xe s:=by
 refine Xg (j zq s σ H _ I h) λv q⟨x,H1,g,o,m⟩=>?_;refine Xg (k zq q σ H1 _ g m) λu e⟨y,H2,i,p,n⟩=>?_;exact l v u e x y H2 i o p n
theorem Zf{d:Operator}(j:hA X (binaryOp d) r)(g:PE X a ta)(i:PE X b tb):PE X (.BinOp a d b pos) (tOp r ta tb):=by intro c s n H Q I h;exact wpAny_BinOp (qp g i I h λv u m x y e f k l q=>j c m n e x y v u Q f k l q)
theorem Js{c:UnaryOp}{r:V->Hp->VK->Prop}(i:rE X (unaryOp c) r)(g:PE X a ta):PE X (.UnaryOp c a pos) (tUn r ta):=by intro b s d H Q I h;exact UnaryOp_ (Xg (g b s d H _ I h) λv l⟨x,e,f,k,j⟩=>i b l d e x v Q f k j)
theorem opI{C:Int->Int->Prop}{g:Int->Int->Int}
  (rule:∀(i j:Int)(t u:J4)(s:Gz)(Q:Gj->Gz->Prop)(E:Gj->Gz->Prop),C i j->Q (.int (g i j) s.toks) {s with toks:=s.toks+1}->wpAny (TU X.prog X.w) X.A (f (.int i t) (.int j u)) Q E s):
  hA X f (rI C λi j=>.int (g i j)):=by
 intro a s k H x y v u Q I c d h;have(i,j,rfl,rfl,b,q):=h;have(t,rfl):=c;have(e,rfl):=d;exact rule i j t e s _ _ b {.int (g i j),H,I.tok _,{40},q}
theorem uD{g:Int->Int->Int}
  (rule:∀(i j:Int)(t u:J4)(s:Gz)(Q:Gj->Gz->Prop)(E:Gj->Gz->Prop),Q (.int (g i j) s.toks) {s with toks:=s.toks+1}->wpAny (TU X.prog X.w) X.A (f (.int i t) (.int j u)) Q E s):
  hA X f (rI0 λi j=>.int (g i j)):=by
 intro a s e H x y v u Q I b c h;have(i,j,rfl,rfl,q):=h;have(t,rfl):=b;have(d,rfl):=c;exact rule i j t d s _ _ {.int (g i j),H,I.tok _,{40},q}
theorem oG{g:Int->Int->Bool}
  (rule:∀(i j:Int)(t u:J4)(s:Gz)(Q:Gj->Gz->Prop)(E:Gj->Gz->Prop),Q (.bool (g i j)) s->wpAny (TU X.prog X.w) X.A (f (.int i t) (.int j u)) Q E s):
  hA X f (rI0 λi j=>.bl (g i j)):=by
 intro a s e H x y v u Q I b c h;have(i,j,rfl,rfl,q):=h;have(t,rfl):=b;have(d,rfl):=c;exact rule i j t d s _ _ {.bl (g i j),H,I,1,q}
def zr(i j:Int):Prop:=0<j/\j<1073741824
def Q8h(i j:Int):Prop:=0<=j/\j<=1000000/\i.natAbs<2^64
def qN(i j:Int):Prop:=(-(2^64)<i/\i<2^64)\/(-(2^64)<j/\j<2^64)
theorem qN.ok{i j:Int}(h:qN i j):IntMulOk i j:=by
 rcases h with⟨a,b⟩|⟨a,b⟩
 .exact .of_left (Cm a b)
 .exact .of_right (Cm a b)
theorem Vl:hA X (binaryOp .Add) (rI0 λi j=>.int (i+j)):=uD λ_ _ _ _ _ _ _ q=>add_int q
theorem Rm:hA X (binaryOp .Sub) (rI0 λi j=>.int (i - j)):=uD λ_ _ _ _ _ _ _ q=>sub_int q
theorem sU:hA X (binaryOp .Mult) (rI qN λi j=>.int (i*j)):=opI λ_ _ _ _ _ _ _ a q=>mul_int q a.ok
theorem Wr:hA X (binaryOp .FloorDiv) (rI zr λi j=>.int (i / j)):=opI λi j _ _ _ _ _ a q=>by have b:(0:Int)<j:=a.1;have c:j<1073741824:=a.2;exact floordiv_int (by ext) (by rw[Int.fdiv_eq_ediv_of_nonneg i (by ext)];exact q) (.inl (MT (by ext)))
theorem Wn:hA X (binaryOp .Mod) (rI (λ_ j=>0<j) λi j=>.int (i % j)):=opI λi j _ _ _ _ _ a q=>by have b:(0:Int)<j:=a;exact mod_int' (by ext) (by rw[Int.fmod_eq_emod_of_nonneg i (by ext)];exact q)
theorem xI:hA X (binaryOp .Pow) (rI Q8h λi j=>.int (i^j.toNat)):=opI λ_ _ _ _ _ _ _ a q=>pow_int_small a.1 a.2.1 a.2.2 q
theorem unI{f:Gj->J8 Gj}{g:Int->Int}
  (rule:∀(i:Int)(t:J4)(s:Gz)(Q:Gj->Gz->Prop)(E:Gj->Gz->Prop),Q (.int (g i) s.toks) {s with toks:=s.toks+1}->wpAny (TU X.prog X.w) X.A (f (.int i t)) Q E s):
  rE X f (rU λi=>.int (g i)):=by
 intro a s c H x v Q I b h;have(i,rfl,q):=h;have(t,rfl):=b;exact rule i t s _ _ {.int (g i),H,I.tok _,{40},q}
theorem Ud:rE X (unaryOp .USub) (rU λi=>.int (-i)):=unI λ_ _ _ _ _ q=>neg_int q
end
noncomputable def zc:V->V->Bool
 |.non,.non=>Gi|.non,.int _=>Gi|.int _,.non=>Gi|.non,.bl _=>Gi|.bl _,.non=>Gi|.non,.str _=>Gi|.str _,.non=>Gi
 |.int _,.int _=>Gi|.bl _,.bl _=>Gi|.str _,.str _=>Gi|.byt _,.byt _=>Gi
 |.int _,.str _=>Gi|.str _,.int _=>Gi|.bl _,.str _=>Gi|.str _,.bl _=>Gi
 |_,_=>Gx
def rEq:R2:=λx y H Q=>zc x y=Gi/\Q (.bl (decide (x=y))) H
def rNe:R2:=λx y H Q=>zc x y=Gi/\Q (.bl (!decide (x=y))) H
theorem Jo{i j:Int}:decide (V.int i=V.int j)=(i==j):=by rw[LP];simp
theorem vM{i j:Bool}:decide (V.bl i=V.bl j)=(i==j):=by rw[LP];simp
theorem Zg{i j:TQ}:decide (V.str i=V.str j)=(i==j):=by rw[LP];simp
theorem wN{i j:Array UInt8}:decide (V.byt i=V.byt j)=(i.toList==j.toList):=by rw[LP];cases i;cases j;simp
section
variable{X:Cx}{a b c:D4}{ta tb tc:TE}{pos:M3}
theorem Yo{Q:VK}{k a:Bool}(I:zv X zq σ H s)(q:Q (.bl k) H)(e:k=a):EP X zq σ Q (.bool a) s:=by subst e;exact{.bl k,H,I,1,q}
theorem Xu:hA X (Ee .Eq) rEq:=by
 intro d s e H x y v u Q I c a h;have(hs,q):=h;cases x with
 |non=>
  cases c;cases y with
  |non=>cases a;exact BU (Yo I q (by simp))
  |bl j=>cases a;exact BV (Yo I q (by simp))
  |int j=>have(b,rfl):=a;exact Co (Yo I q (by simp))
  |str j=>have(b,rfl):=a;exact Cp (Yo I q (by simp))
  |_=>exact absurd (show Gx=Gi from hs) TD
 |bl i=>
  cases c;cases y with
  |non=>cases a;exact BW (Yo I q (by simp))
  |bl j=>cases a;exact eq_bool (Yo I q vM)
  |str j=>have(b,rfl):=a;exact BX (Yo I q (by simp))
  |_=>exact absurd (show Gx=Gi from hs) TD
 |int i=>
  have(t,rfl):=c;cases y with
  |non=>cases a;exact Cq (Yo I q (by simp))
  |int j=>have(b,rfl):=a;exact eq_int (Yo I q Jo)
  |str j=>have(b,rfl):=a;exact Cr (Yo I q (by simp))
  |_=>exact absurd (show Gx=Gi from hs) TD
 |str i=>
  have(t,rfl):=c;cases y with
  |non=>cases a;exact Cs (Yo I q (by simp))
  |bl j=>cases a;exact BY (Yo I q (by simp))
  |int j=>have(b,rfl):=a;exact Ct (Yo I q (by simp))
  |str j=>have(b,rfl):=a;exact eq_str (Yo I q Zg)
  |_=>exact absurd (show Gx=Gi from hs) TD
 |byt i=>
  have(t,rfl):=c;cases y with
  |byt j=>have(b,rfl):=a;exact JA (Yo I q wN)
  |_=>exact absurd (show Gx=Gi from hs) TD
 |_=>cases y<;>exact absurd (show Gx=Gi from hs) TD
theorem Wh:hA X (Ee .NotEq) rNe:=by
 intro d s e H x y v u Q I c a h;have(hs,q):=h;cases x with
 |non=>
  cases c;cases y with
  |non=>cases a;exact BZ (Yo I q (by simp))
  |bl j=>cases a;exact B4 (Yo I q (by simp))
  |int j=>have(b,rfl):=a;exact Cu (Yo I q (by simp))
  |str j=>have(b,rfl):=a;exact Cv (Yo I q (by simp))
  |_=>exact absurd (show Gx=Gi from hs) TD
 |bl i=>
  cases c;cases y with
  |non=>cases a;exact B5 (Yo I q (by simp))
  |bl j=>cases a;exact ne_bool (Yo I q (congrArg not vM))
  |str j=>have(b,rfl):=a;exact B6 (Yo I q (by simp))
  |_=>exact absurd (show Gx=Gi from hs) TD
 |int i=>
  have(t,rfl):=c;cases y with
  |non=>cases a;exact Cw (Yo I q (by simp))
  |int j=>have(b,rfl):=a;exact ne_int (Yo I q (congrArg not Jo))
  |str j=>have(b,rfl):=a;exact Cy (Yo I q (by simp))
  |_=>exact absurd (show Gx=Gi from hs) TD
 |str i=>
  have(t,rfl):=c;cases y with
  |non=>cases a;exact Cz (Yo I q (by simp))
  |bl j=>cases a;exact B7 (Yo I q (by simp))
  |int j=>have(b,rfl):=a;exact CA (Yo I q (by simp))
  |str j=>have(b,rfl):=a;exact ne_str (Yo I q (congrArg not Zg))
  |_=>exact absurd (show Gx=Gi from hs) TD
 |byt i=>
  have(t,rfl):=c;cases y with
  |byt j=>have(b,rfl):=a;exact JB (Yo I q (congrArg not wN))
  |_=>exact absurd (show Gx=Gi from hs) TD
 |_=>cases y<;>exact absurd (show Gx=Gi from hs) TD
theorem Vg:hA X (Ee .Lt) (rI0 λi j=>.bl (decide (i<j))):=oG λ_ _ _ _ _ _ _ q=>lt_int q
theorem jV:hA X (Ee .LtE) (rI0 λi j=>.bl (decide (i<=j))):=oG λ_ _ _ _ _ _ _ q=>le_int q
theorem ou:hA X (Ee .Gt) (rI0 λi j=>.bl (decide (j<i))):=oG λ_ _ _ _ _ _ _ q=>gt_int q
theorem lU:hA X (Ee .GtE) (rI0 λi j=>.bl (decide (j<=i))):=oG λ_ _ _ _ _ _ _ q=>ge_int q
theorem UG:hA X (Ee .Is) (λx y H Q=>y=.non/\Q (.bl (decide (x=.non))) H):=by
 intro a s d H x y v u Q I b c h;have(rfl,q):=h;cases c;refine Hw (Yo I q ?_);cases x<;>first
  |(cases b;rfl)
  |(have(t,rfl):=b;rfl)
theorem lW:hA X (Ee .IsNot) (λx y H Q=>y=.non/\Q (.bl (!decide (x=.non))) H):=by
 intro a s d H x y v u Q I b c h;have(rfl,q):=h;cases c;refine BH (Yo I q ?_);cases x<;>first
  |(cases b;rfl)
  |(have(t,rfl):=b;rfl)
theorem Qu(b:D4)(h:op≠.In:=by decide)(d:op≠.NotIn:=by decide):behindInMarks op b=Gx:=by
 have a:(op==JU)=Gx:=by cases op<;>first|rfl|exact absurd rfl h
 have c:(op==Hv)=Gx:=by cases op<;>first|rfl|exact absurd rfl d
 cases b<;>simp[behindInMarks,a,c]
theorem Vh(j:hA X (Ee op) r)(f:PE X a ta)(g:PE X b tb)(i:behindInMarks op b=Gx):PE X (.Compare a [op] [b] pos) (tOp r ta tb):=by intro c s n H Q I h;exact wpAny_Compare1 (qp f g I h λv u m x y d e k l q=>j c m n d x y v u Q e k l q) i
inductive Al(Q:Bool->Hp->Prop)(x:V)(H':Hp):Prop
 |mk (k:_) (h0:x=.bl k) (h1:Q k H'):Al Q x H'
def y0(t:TE):TT:=λσ H Q=>t σ H λx H'=>Al Q x H'
theorem Qp(t:hA X (Ee op) r)(o:PE X a ta)(p:PE X b tb)(q:behindInMarks op b=Gx):PT X (.Compare a [op] [b] pos) (y0 (tOp r ta tb)):=by
 intro d s f H Q I h;refine Nc (Xg (o d s f H _ I h) λv F⟨x,g,l,C,w⟩=>Xg (p d F f g _ l w) λu G⟨y,i,m,D,A⟩=>Xg (t d G f i x y v u _ m C D A) λc J⟨z,j,n,E,k,e,B⟩=>?_) q
 subst e;cases E;exact EH ⟨j,n,B⟩
inductive yR(r':R2)(tc:TE)(σ:St)(Q:VK)(y:V)(z:V)(H3:Hp):Prop
 |mk (k:_) (h0:z=.bl k) (h1:(if k=Gi then tc σ H3 λw' H4=>r' y w' H4 Q else Q (.bl Gx) H3)):yR r' tc σ Q y z H3
def Q4m(r b:R2)(ta tb tc:TE):TE:=λσ H Q=>ta σ H λx H1=>tb σ H1 λy H2=>r x y H2 λz a=>yR b tc σ Q y z a
theorem wU{g:CmpOp}{o:R2}(M:hA X (Ee op) r)(j:hA X (Ee g) o)(G:PE X a ta)(J:PE X b tb)(K:PE X c tc)
  (L:lastMarks [op,g] [b,c]=Gx:=by with_unfolding_all rfl):PT X (.Compare a [op,g] [b,c] pos) (y0 (Q4m r o ta tb tc)):=by
 intro f s i H Q I h;refine isTrue_chain (Xg (G f s i H _ I h) λv V⟨x,q,B,R,N⟩=>test_link (Xg (J f V i q _ B N) λu W⟨y,t,C,p,O⟩=>Xg (M f W i t x y v u _ C R p O) λd Y⟨z,l,m,S,k,e,n⟩=>?_)) L
 subst e;cases S;refine EH ?_;cases k with
 |false=>have(D,w,A):=n;cases w;exact ite_ff ⟨l,m,A⟩
 |true=>refine ite_tt (test_last (Xg (K f Y i l _ m n) λZ s4⟨z',w,D,T,P⟩=>Xg (j f s4 i w y z' u Z _ D p T P) λd' s5⟨z2,A,E,U,k2,F,Q⟩=>?_));subst F;cases U;exact EH ⟨A,E,Q⟩
def Kb(K:Gf)(x:V)(H:Hp)(k:Bool):Prop:=
 match x with
 |.non=>k=Gx
 |.bl b=>k=b
 |.int i=>k=(i !=0)
 |.str y=>y.length<=TH/\k=((y.length:Int) !=0)
 |.byt y=>y.size<=TH/\k=((y.size:Int) !=0)
 |.ref p=>(∃xs,Uw K H p xs/\k= !xs.isEmpty)\/(∃xs,hB K H p xs/\k= !xs.isEmpty)\/∃zw,H p=Ga (.dK zw)/\k= !zw.isEmpty
 |_=>False
theorem Qn8{c:Type}{a:List (c×V)}{b:List (c×Gj)}(r:KV a b):(!b.isEmpty)= !a.isEmpty:=by cases r<;>rfl
theorem y9{a:List Gj}(r:Yg xs a):(!a.toArray.isEmpty)= !xs.isEmpty:=by cases r<;>simp
theorem O8:(TH:Nat)<2^63:=by rw[TJ];decide
theorem yB:Q8u X (λx H Q=>∃k,Kb X.K x H k/\Q k H):=by
 intro u s B H x v Q I f h;have(k,e,q):=h;have A:=O8;have hs:TH=16777216:=TJ;cases x with
 |non=>cases f;have a:k=Gx:=e;subst a;exact truthy_none ⟨H,I,q⟩
 |bl b=>cases f;have a:k=b:=e;subst a;exact EH ⟨H,I,q⟩
 |int i=>have(t,rfl):=f;have a:k=(i !=0):=e;subst a;exact IC ⟨H,I,q⟩
 |str y=>have(t,rfl):=f;obtain⟨z,a⟩:y.length<=TH/\k=((y.length:Int) !=0):=e;subst a;exact ID (by lia) {H,I.tok _,q}
 |byt y=>have(t,rfl):=f;obtain⟨z,a⟩:y.size<=TH/\k=((y.size:Int) !=0):=e;subst a;exact HC (by lia) {H,I.tok _,q}
 |ref p=>
  cases f;have a:(∃d,Uw X.K H p d/\k= !d.isEmpty)\/(∃d,hB X.K H p d/\k= !d.isEmpty)\/∃b,H p=Ga (.dK b)/\k= !b.isEmpty:=e;rcases a with⟨d,g,a⟩|⟨d,g,a⟩|⟨b,g,a⟩
  .subst a;have(l,r,n,o):=I.list g;have c:=r.length;exact wpAny_truthy_list n.isList (by simp only[Tq];lia) {H,I.tok _,by rw[y9 r];exact q}
  .subst a;have(l,r,n,o):=I.tuple g;have c:=r.length;exact truthy_tuple n (by simp only[Tq];lia) {H,I.tok _,by rw[y9 r];exact q}
  .subst a;obtain⟨o,w,j,r,m⟩:b.length<=TH/\(p==Ef)=Gx/\∃j,KV b j/\s.heap.DictOf (Xc X.prog X.w) p j:=I.Yc p _ g;have c:b.length=j.length:=GQ r;exact wpAny_truthy_dict w m (by lia) {H,I.tok _,by rw[Qn8 r];exact q}
 |_=>exact(show False from e).elim
theorem Da(e:PE X a ta)(f:∀b,isTrue a X.env b=(do let v<-b;standAt a.pos;holding [v] (truthy v))):
  PT X a (λσ H Q=>ta σ H λx H'=>∃k,Kb X.K x H' k/\Q k H'):=by
 intro c s σ H Q I h;exact C8 (Xg (e c s σ H _ I h) λv j⟨x,b,d,i,g⟩=>yB c j σ b x v Q d i g) (f _)
theorem KB:hA X (binaryOp .Add) (λx y H Q=>∃i j,x=.str i/\y=.str j/\i.length+j.length<=TH/\Q (.str (i++j)) H):=by intro a s g H x y v u Q I c d h;have(i,j,rfl,rfl,b,q):=h;have(t,rfl):=c;have(e,rfl):=d;exact add_str (λe f=>{.str (i++j),H,I.tok _,{40},q}) b
theorem vals1{x:V}(r:Yg [x] us):∃u,us=[u]/\zu x u:=by
 cases r with
 |cons a b=>cases b;exact{0,a}
theorem vals2{x y:V}(r:Yg [x,y] us):∃u a,us=[u,a]/\zu x u/\zu y a:=by
 cases r with
 |cons b c=>
  cases c with
  |cons d e=>cases e;exact{30,b,d}
theorem Qwr:Ur X (.builtin "abs") (λxs H Q=>∃i,xs=[.int i]/\Q (.int (if i<0 then -i else i)) H):=by intro a s d H xs c Q I r h;have(i,rfl,q):=h;have(u,rfl,t,rfl):=vals1 r;exact call_abs_int λu b=>{.int (if i<0 then -i else i),H,I.tok _,{40},q}
theorem WQ(c:X.calm=Gi):Ur X (.builtin "min") (λxs H Q=>∃i j,xs=[.int i,.int j]/\Q (.int (if j<i then j else i)) H):=by
 intro b s m H xs g Q I r h;have(i,j,rfl,q):=h;have(u,l,rfl,(t,rfl),(e,rfl)):=vals2 r;refine min_two_ints (I.ok.hd c) λd f k=>{_,H,I.kept k,?_,q};by_cases a:j<i
 .rw[GV a,GV a];exact{40}
 .rw[Gs a,Gs a];exact{40}
theorem ZL:Ur X (.type "int") (λxs H Q=>(∃i,xs=[.int i]/\Q (.int i) H)\/∃k,xs=[.bl k]/\Q (.int (if k then 1 else 0)) H):=by
 intro a s d H xs c Q I r h;rcases h with⟨i,rfl,q⟩|⟨k,rfl,q⟩
 .obtain⟨u,rfl,t,rfl⟩:=vals1 r;exact call_int_int {.int i,H,I,{40},q}
 .obtain⟨u,rfl,b⟩:=vals1 r;cases b;exact call_int_bool {.int (if k then 1 else 0),H,I.tok _,{40},q}
def Pk(K:Gf)(x:V)(H:Hp)(n:Nat):Prop:=
 match x with
 |.str y=>y.length<=TH/\n=y.length
 |.byt y=>y.size<=TH/\n=y.size
 |.ref p=>(∃xs,Uw K H p xs/\n=xs.length)\/∃xs,hB K H p xs/\n=xs.length
 |_=>False
theorem Zc:Ur X (.builtin "len") (λxs H Q=>∃x n,xs=[x]/\Pk X.K x H n/\Q (.int n) H):=by
 intro j s v H xs o Q I r h;have(x,n,rfl,e,q):=h;have(u,rfl,i):=vals1 r;have m:=O8;have hs:TH=16777216:=TJ;cases x with
 |str y=>have(t,rfl):=i;obtain⟨k,b⟩:y.length<=TH/\n=y.length:=e;subst b;exact len_str (by ext) {.int _,H,I.tok _,{40},q}
 |byt y=>have(t,rfl):=i;obtain⟨k,b⟩:y.size<=TH/\n=y.size:=e;subst b;exact IP (by ext) {.int _,H,I.tok _,{40},q}
 |ref p=>
  cases i;have b:(∃xs,Uw X.K H p xs/\n=xs.length)\/∃xs,hB X.K H p xs/\n=xs.length:=e;rcases b with⟨xs,c,b⟩|⟨xs,c,b⟩
  .subst b;have(d,g,f,l):=I.list c;have a:=g.length;exact NC f.isList (by simp only[Tq];ext) {.int xs.length,H,I.tok _,{_,by simp only[Tq];rw[a]},q}
  .subst b;have(d,g,f,l):=I.tuple c;have a:=g.length;exact len_tuple f (by simp only[Tq];ext) {.int xs.length,H,I.tok _,{_,by simp only[Tq];rw[a]},q}
 |_=>exact(show False from e).elim
end
structure jP(h:Heap)(x dx C:Gd)(mA:TQ->Option Gj):Prop where
 obj:h.get? x=Ga (Sc C dx)
 ns:h.Ns1 dx mA
 ne:dx≠x
theorem XH{h:Heap}{d:Gd}{g:TQ->Option Gj}(n:h.Ns1 d g):∃i,h.get? d=Ga i/\∀b,FR b i=Ga (g b):=by
 have(o,f,s,p,k,l,_,m):=n;refine{o,p,λb=>?_};have e:=m b;unfold nsFind findBy at e;rw[<-Array.find?_toList]at e;unfold FR;rw[k];dsimp only;split
 .rename_i y q
  rw[q]at e;exact congrArg Ga e
 .rename_i q
  rw[q]at e;have a:f.toList.any (·.refKey)=Gx:=by rw[Mn];intro y r;have(z,t,c):=l y (Array.mem_toList_iff.mp r);simp[JC,c]
  have j:¬f.toList.any (·.refKey)=Gi:=by rw[a];exact TD
  rw[Gs j];exact congrArg Ga e
theorem jP.look{h:Heap}{x c:Gd}{d:TQ->Option Gj}(I:jP h x c C d):∃b,JW h x (Sc C c) C (Ga b)/\∀a,FR a b=Ga (d a):=
 let⟨b,ho,hl⟩:=XH I.ns
 {b,{I.obj,11,ho},hl}
section
variable{prog:Gn}{w:Tg}{A:DT}{E:Gj->Gz->Prop}{s:Gz}{K:Gf}{x dx C f:Gd}{mA:TQ->Option Gj}{name:TQ}{v:Gj}
theorem KG{a:Bool}(X:K.In s.heap)(I:jP s.heap x dx C mA)(d:EA K C name=Gi)(e:EG K C=Gi)
  (c:TM K (.ref C) name=Ga Gq)(g:mA name=Ga v)(b:Bc v=Gi)(h:Q v {s with toks:=s.toks+1}):
  wpAny (TU prog w) A (getAttr (.ref x) name a) Q E s:=by
 have(i,J,f):=I.look;exact IQ X J (FF d).1 (HR e c rfl (by rw[f,g])) b h
theorem Qwt{Q:Gj×List Gj->Gz->Prop}(X:K.In s.heap)(I:jP s.heap x dx C mA)(a:EA K C name=Gi)
  (b:TM K (.ref C) name=Ga (Ga (.ref f)))(ht:De K (.ref f)=Gi)(d:mA name=Gq)(h:Q (.ref f,[.ref x]) s):
  wpAny (TU prog w) A (getMethod (.ref x) name pl) Q E s:=by
 have(e,J,c):=I.look;exact IR X J (FF a).1 (FF a).2 b (FS.mp ht) (by show(FR name e).map (·.isSome)=Ga Gx;rw[c,d];rfl) h
theorem YS{j:List TQ}{Q:Unit->Gz->Prop}(X:K.In s.heap)(I:jP s.heap x dx C mA)
  (hs:TM K (.ref C) "__setattr__"=Ga (Ga (.builtin "object.__setattr__")))(o:E7 K C=Gi)(ht:M4 K C name=Ga Gq)(n:EG K C=Gi)
  (hw:RG mA j)(p:j.length<=TH)
  (h:∀d,jP d x dx C (λy=>if y=name then Ga v else mA y)->Ew dx s.heap d->Q () {s with heap:=d,toks:=s.toks+2}):
  wpAny (TU prog w) A (setAttr (.ref x) name v) Q E s:=by
 have(u,J,p):=I.look;refine IS X J hs (JD (s:={s with toks:=s.toks+1}) (r:=Gq) X J o ht λb=>?_);have(r,m,f):=JE n;have q:s.heap.get? x=Ga {.ref C,Ga dx,.plain,#[]}:=I.obj;refine Gb (Gm (Gb (Gb (wpAny_loadPart q (Gb (IE (s:={s with toks:=s.toks+1}) (HS X m) ?_))))));rw[f];refine Gm (a:=Ga dx) (Gb (Gm (Gb ?_)));refine wpAny_nsSet1 (s:={s with toks:=s.toks+1}) I.ns λd a c=>?_;have(t,l,k,i,g,e):=a.count (IT name v hw);refine Gb (wpAny_lookBehind i (by rw[g];exact pastItsLine_dict (DA e (by rw[TB];ext))) ?_);exact Gm (h _ {(c.2 _ (Ta I.ne)).trans I.obj,a,I.ne} c)
theorem US{R:Ha->Gz->Prop}{b:List Gj}(X:K.In s.heap)(e:Sy K C=Gi)
  (hi:TM K (.ref C) "__init__"=Ga (Ga (.ref f)))(c:JX K (.ref f)=Ga (.type "function"))
  (h:codeAny (TU prog w) (A.under (.builtin "type.__call__" {.ref C::b,kw})) (.call (.ref f) {.ref (s.heap.objs.size+1)::b,kw}) (JF (s.heap.objs.size+1) R)
   {s with heap:=(s.heap.push Ep).push (Sc C s.heap.objs.size)}):
  codeAny (TU prog w) A (.call (.ref C) ⟨b,kw⟩) R s:=by
 have(a,g,d,t,os):=s;exact IU (JG X e) (HG X hi) (λa=>JQ X a c) (.inl Xb) h
end
noncomputable def Y0(f:TQ)(v:V):List (TQ×V)->List (TQ×V)
 |[]=>[(f,v)]
 |(g,x)::r=>if g=f then(g,v)::r else(g,x)::Y0 f v r
theorem zY(f g:TQ)(v:V):∀c:List (TQ×V),(Y0 f v c).lookup g=if g=f then Ga v else c.lookup g
 |[]=>by
  show LV g [(f,v)]=_;by_cases h:g=f
  .have a:(g==f)=Gi:=FS.mpr h;simp only[LV,a,GV h]
  .have a:(g==f)=Gx:=EK.mpr h;simp only[LV,a,Gs h]
 |(k,x)::r=>by
  have d:=zY f g v r;rw[show Y0 f v ((k,x)::r)=(if k=f then(k,v)::r else(k,x)::Y0 f v r)from rfl];by_cases b:k=f
  .rw[GV b];by_cases h:g=k
   .have a:(g==k)=Gi:=FS.mpr h;simp only[LV,a,GV (h.trans b)]
   .have a:(g==k)=Gx:=EK.mpr h;simp only[LV,a,Gs (λe:g=f=>h (e.trans b.symm))]
  .rw[Gs b];by_cases h:g=k
   .have a:(g==k)=Gi:=FS.mpr h;simp only[LV,a,Gs (λe:g=f=>b (h.symm.trans e))]
   .have a:(g==k)=Gx:=EK.mpr h;simp only[LV,a];exact d
theorem oX(f:TQ)(v:V):∀a:List (TQ×V),f∈(Y0 f v a).map (·.1)/\∀g,g∈a.map (·.1)->g∈(Y0 f v a).map (·.1)
 |[]=>{by simp[Y0],λg h=>by simp at h}
 |(k,x)::r=>by
  have(c,d):=oX f v r;rw[show Y0 f v ((k,x)::r)=(if k=f then(k,v)::r else(k,x)::Y0 f v r)from rfl];by_cases b:k=f
  .rw[GV b];subst b;exact{by simp,λg h=>by simpa using h}
  .rw[Gs b];refine{?_,λg h=>?_}
   .rw[Tp];exact Gr _ c
   .rw[Tp]at h⊢;rcases Tf.mp h with e|e
    .exact Tf.mpr (.inl e)
    .exact Gr _ (d g e)
theorem wq(f:TQ)(v:V):∀a:List (TQ×V),(Y0 f v a).length<=a.length+1
 |[]=>by simp[Y0]
 |(k,x)::r=>by
  have c:=wq f v r;rw[show Y0 f v ((k,x)::r)=(if k=f then(k,v)::r else(k,x)::Y0 f v r)from rfl];by_cases b:k=f
  .rw[GV b,TB,TB];lia
  .rw[Gs b,TB,TB];lia
theorem Rj.some_of{o:Option Gj}(r:Rj (Ga v) o):∃u,o=Ga u/\zu v u:=by
 cases o with
 |none=>exact(show False from r).elim
 |some u=>exact⟨u,Xb,r⟩
theorem Rj.none_of{o:Option Gj}(r:Rj Gq o):o=Gq:=by
 cases o with
 |none=>rfl
 |some u=>exact(show False from r).elim
theorem Qq9(r:zu v u):Bc u=Gi:=by
 cases v with
 |non=>cases(show u=DE from r);rfl
 |bl b=>cases(show u=La b from r);rfl
 |int i=>have(t,e):=(show∃t,u=FJ i t from r);cases e;rfl
 |str x=>have(t,e):=(show∃t,u=FK x t from r);cases e;rfl
 |byt b=>have(t,e):=(show∃t,u=Hs b t from r);cases e;rfl
 |flt b=>have(t,e):=(show∃t,u=Nm b t from r);cases e;rfl
 |ref a=>cases(show u=Tk a from r);rfl
 |ty n=>cases(show u=Lb n from r);rfl
section
variable{P:Gn}{w:Tg}{H H':Hp}{h h':Heap}{a C dx:Gd}{fs fs':List (TQ×V)}
theorem og(c:O2 P w H h)(e:H a=Ga (.ins C dx fs)):∃b,jP h a dx C b/\(∀f,Rj (fs.lookup f) (b f))/\RG b (fs.map (·.1))/\fs.length<=1000/\H dx=Ga (.own a):=by have(d,z,f,g,b,n,r,q):=(show Yj P w H h a (.ins C dx fs)from c a _ e);exact{b,⟨g,n,f⟩,r,q,z,d}
end
structure ic(K:Gf)(C:Gd):Prop where
 pg:EA K C Lp=Gi
 hd:EG K C=Gi
 po:E7 K C=Gi
 sa:TM K (.ref C) "__setattr__"=Ga (Ga (.builtin "object.__setattr__"))
theorem ic.get(c:ic K C)(f:TQ):EA K C f=Gi:=c.pg
def Xf(K:Gf)(C:Gd)(f:TQ):Prop:=TM K (.ref C) f=Ga Gq
theorem Xf.QG{f:TQ}(n:Xf K C f):M4 K C f=Ga Gq:=by unfold M4;rw[show TM K (.ref C) f=Ga Gq from n];rfl
structure Yq(K:Gf)(C:Gd)(m:TQ)(f:Gd):Prop where
 at_:TM K (.ref C) m=Ga (Ga (.ref f))
 fn:De K (.ref f)=Gi
 kp:DY K (.ref f)=Gi
section
variable{X:Cx}{zq:List (Gd×S8)}{σ:St}{H:Hp}{s:Gz}{a C dx:Gd}{fs:List (TQ×V)}{f:TQ}{v:V}{A:DT}{E:Gj->Gz->Prop}
theorem UZ{b:Bool}(I:zv X zq σ H s)(e:H a=Ga (.ins C dx fs))(c:ic X.K C)(n:Xf X.K C f)(l:fs.lookup f=Ga v)
  (h:∀u g,zv X zq σ H g->zu v u->Q u g):wpAny (TU X.prog X.w) A (getAttr (.ref a) f b) Q E s:=by
 have(j,O,r,_,_,_):=og I.Yc e;have(u,i,d):=Rj.some_of (v:=v) (o:=j f) (by rw[<-l];exact r f);exact KG I.Rc O (c.get f) c.hd n i (Qq9 d) (h u _ (I.tok _) d)
theorem O9{m:TQ}{g:Gd}{Q:Gj×List Gj->Gz->Prop}(I:zv X zq σ H s)(e:H a=Ga (.ins C dx fs))(c:ic X.K C)(k:Yq X.K C m g)(l:fs.lookup m=Gq)
  (h:Q (.ref g,[.ref a]) s):wpAny (TU X.prog X.w) A (getMethod (.ref a) m pl) Q E s:=by
 have(d,O,r,_,_,_):=og I.Yc e;have b:d m=Gq:=Rj.none_of (by rw[<-l];exact r m);exact Qwt I.Rc O (c.get m) k.at_ k.fn b h
theorem QQ{y:V}{Q:Unit->Gz->Prop}(I:zv X zq σ H s)(e:H a=Ga (.ins C dx fs))(c:ic X.K C)(n:Xf X.K C f)(b:fs.length<1000)(w:zu y u)
  (h:∀b,zv X zq σ (zj H a (.ins C dx (Y0 f y fs))) b->Q () b):wpAny (TU X.prog X.w) A (setAttr (.ref a) f u) Q E s:=by
 have(j,O,r,k,_,i):=og I.Yc e;have v:(fs.map (·.1)).length<=TH:=by rw[Gv,TJ];ext
 refine YS I.Rc O c.sa c.po n.QG c.hd k v λl d x=>h _ ?_;have p:∃o,l.get? dx=Ga o:=let⟨o,_,_,e',_⟩:=d.ns;⟨o,e'⟩;refine I.write (x:=a) (e:=dx) (by rw[e];exact DJ) (.inr i) (λb q m z=>(x.2 b m).trans z) p ?_;refine{by rw[Qh O.ne];exact i,?_,O.ne,d.obj,_,d.ns,λg=>?_,λg t=>?_}
 .have:=wq f y fs;ext
 .show Rj ((Y0 f y fs).lookup g) (if g=f then Ga u else j g);rw[zY];by_cases q:g=f
  .rw[GV q,GV q];exact w
  .rw[Gs q,Gs q];exact r g
 .by_cases q:g=f
  .rw[q];exact(oX f y fs).1
  .refine(oX f y fs).2 g (k g λz=>t ?_);show(if g=f then Ga u else j g)=Gq;rw[Gs q];exact z
theorem zv.made(I:zv X zq σ H s):zv X zq σ (zj (zj H s.heap.objs.size (.own (s.heap.objs.size+1))) (s.heap.objs.size+1) (.ins C s.heap.objs.size []))
  {s with heap:=(s.heap.push Ep).push (Sc C s.heap.objs.size)}:=by
 have a:(s.heap.push Ep).get? s.heap.objs.size=Ga Ep:=To s.heap rfl;have f:((s.heap.push Ep).push (Sc C s.heap.objs.size)).get? (s.heap.objs.size+1)=Ga (Sc C s.heap.objs.size):=by have:=To (s.heap.push Ep) (o:=Sc C s.heap.objs.size) rfl;rwa[Sm]at this
 have g:(s.heap.push Ep).Ns s.heap.objs.size (λ_=>Gq):={Ep,#[],_,a,1,(λe h=>absurd h (by simp)),λ_=>rfl};have d:=I.laid (a:=s.heap.objs.size) (o:=.own (s.heap.objs.size+1)) (h':=s.heap.push Ep) (t':=s.toks) (λb u q=>Gp _ q) (GJ _) {_,a};refine d.laid (a:=s.heap.objs.size+1) (o:=.ins C s.heap.objs.size []) (t':=s.toks) (λb u q=>Gp _ q) (FH (Sm _ _)) ?_;have c:s.heap.objs.size≠s.heap.objs.size+1:=T2 (ER _);refine{by rw[Qh c,Qb],Tu _,c,f,λ_=>Gq,(IV g).at λo q=>Gp _ q,λ_=>DJ,λy i=>absurd rfl i}
theorem Pp{b:Gn}{a:Bv}{f:TQ}{s:Gz}(d:attributeBase e f a (eval e a)=eval e a)
  (h:wpAny (TU b w) A (eval e a) (λo c=>wpAny (TU b w) A (getAttr o f Gi) Q E c) E s):wpAny (TU b w) A (eval (.Attribute e f pos) a) Q E s:=
 Attribute_any_ h (by rw[arm_eval_Attribute,d])
end
inductive zR(K:Gf)(f:TQ)(Q:VK)(x:V)(H1:Hp):Prop
 |mk (a:_) (C:_) (dx:_) (fs:_) (v:_) (h0:x=.ref a) (h1:H1 a=Ga (.ins C dx fs)) (h2:ic K C) (h3:Xf K C f) (h4:fs.lookup f=Ga v) (h5:Q v H1):zR K f Q x H1
def nQ(K:Gf)(ta:TE)(f:TQ):TE:=λσ H Q=>ta σ H λx H1=>zR K f Q x H1
inductive vY(K:Gf)(f:TQ)(D:Ends)(σ:St)(y:V)(x:V)(H2:Hp):Prop
 |mk (a:_) (C:_) (dx:_) (fs:_) (h0:x=.ref a) (h1:H2 a=Ga (.ins C dx fs)) (h2:ic K C) (h3:Xf K C f) (h4:fs.length<1000) (h5:D.nx σ (zj H2 a (.ins C dx (Y0 f y fs)))):vY K f D σ y x H2
def Pg(K:Gf)(ta tv:TE)(f:TQ):TS:=λD σ H=>tv σ H λy H1=>ta σ H1 λx H2=>vY K f D σ y x H2
section
variable{X:Cx}{o e value:D4}{f:TQ}{pos pos' tpos:M3}{ta tv:TE}
theorem Qx(o:PE X e ta)(m:attributeBase e f X.env (eval e X.env)=eval e X.env):PE X (.Attribute e f pos) (nQ X.K ta f):=by intro b s t H Q I h;refine Pp m (Xg (o b s t H _ I h) λu z⟨x,d,g,r,a,C,w,y,v,k,j,c,n,l,q⟩=>?_);subst k;obtain rfl:u=Tk a:=r;exact UZ g j c n l λB A i p=>⟨v,d,i,p,q⟩
theorem Xm(p:PE X o ta)(r:PE X value tv)(hs:swapsWith value (Ga (.Attribute o f pos')) pos.line X.env=pure Gx):PS X (.Assign [.Attribute o f pos'] value pos) (Pg X.K ta tv f):=by intro b s d H D I h;refine plainObj_wpAny_Assign_Attribute (Xg (r b s d H _ I h) λu z⟨y,e,g,w,q⟩=>Xg (p b z d e _ g q) λov F⟨x,A,i,v,a,C,B,E,m,k,c,n,l,t⟩=>?_) hs;subst m;obtain rfl:ov=Tk a:=v;exact QQ i k c n l w λG j=>{d,_,j,t}
theorem Q1h{m:TQ}{b:M3}{args:List D4}(r:PE X e te)(I:zv X zq σ H s)
  (h:te σ H λx H1=>∃a C n i g,x=.ref a/\H1 a=Ga (.ins C n i)/\ic X.K C/\Yq X.K C m g/\i.lookup m=Gq/\
   ∀d,zv X zq σ H1 d->wpAny (TU X.prog X.w) X.A (callWith pos (.ref g) [.ref a] (Sf pos (T4 args X.env)) (backToKw pos (keywordEach [] X.env))) Q X.xe d)
  (ht:eval (.Call (.Attribute e m b) args [] pos) X.env=(do
   let ov<-eval e X.env
   standAt b.atName
   let(f,first)<-holding [ov] (getMethod ov m pl)
   callWith pos f first (Sf pos (T4 args X.env)) (backToKw pos (keywordEach [] X.env)))):
  wpAny (TU X.prog X.w) X.A (eval (.Call (.Attribute e m b) args [] pos) X.env) Q X.xe s:=by
 refine Fa (pl:=pl) (Xg (r zq s σ H _ I h) λu d h=>?_) ht;have(x,H1,j,t,a,C,n,i,g,p,o,c,k,l,q):=h;subst p;obtain rfl:u=Tk a:=t;exact O9 j o c k l (q d j)
end
section
variable{X:Cx}{zq:List (Gd×S8)}{σ:St}{H:Hp}{s:Gz}{A:DT}{E:Gj->Gz->Prop}{Q:Gj->Gz->Prop}{c:Gj}{b:Bool}
inductive Om(K:Gf)(H:Hp):V->Gj->Prop where
 |non:Om K H .non (.type "NoneType")
 |bl (x:Bool):Om K H (.bl x) (.type "bool")
 |int (i:Int):Om K H (.int i) (.type "int")
 |str (x:TQ):Om K H (.str x) (.type "str")
 |flt (x:UInt64):Om K H (.flt x) (.type "float")
 |lst {a:Gd} {xs:List V} (e:H a=Ga (.lst xs)):Om K H (.ref a) (.type "list")
 |frz {a:Gd} {o:S8} {xs:List V} (e:H a=Ga (.frz o (.lst xs))):Om K H (.ref a) (.type "list")
 |tup {a:Gd} {xs:List V} (e:H a=Ga (.tup xs)):Om K H (.ref a) (.type "tuple")
 |dK {a:Gd} {zw:List (Wi×V)} (e:H a=Ga (.dK zw)):Om K H (.ref a) (.type "dict")
 |dT {a:Gd} {zw:List (List Wi×V)} (e:H a=Ga (.dT zw)):Om K H (.ref a) (.type "dict")
 |ins {a C dx:Gd} {fs:List (TQ×V)} (e:H a=Ga (.ins C dx fs)) (cl:ic K C) (ha:TM K (.ref C) "__class__"=Ga (Ga (.builtin "object.__class__")))
   (hn:IW K (.builtin "object.__class__") "__get__"=Ga (Ga (.builtin "getset_descriptor.__get__"))) (htk:JR K (.builtin "object.__class__")=Ga Gi)
   (hm:JZ K C (.type "object")=Ga Gi):Om K H (.ref a) (.ref C)
theorem VY{x:V}{t:Gj}(I:zv X zq σ H s)(f:zu x u)(ty:Om X.K H x t)(e:T1 X.K t c=Ga b)(h:∀m,Q (.bool b) {s with toks:=m}):
  wpAny (TU X.prog X.w) A (call (.builtin "isinstance") [u,c]) Q E s:=by
 cases ty with
 |non=>cases(show u=DE from f);exact Ej RI I.Rc DJ e nofun h
 |bl y=>cases(show u=La y from f);exact Ej RJ I.Rc DJ e nofun h
 |int i=>have(t,q):=(show∃t,u=FJ i t from f);cases q;exact Ej Bd I.Rc DJ e nofun h
 |str y=>have(t,q):=(show∃t,u=FK y t from f);cases q;exact Ej Be I.Rc DJ e nofun h
 |flt y=>have(t,q):=(show∃t,u=Nm y t from f);cases q;exact Ej NU I.Rc DJ e nofun h
 |@lst a k d=>cases(show u=Tk a from f);have(_,_,n,_,g):=(show Yj X.prog X.w H s.heap a (.lst k)from I.Yc a _ d);exact Ej LY I.Rc {_,g,1} e nofun h
 |@frz a m k d=>cases(show u=Tk a from f);have(_,_,_,n,_,g):=(show Yj X.prog X.w H s.heap a (.frz m (.lst k))from I.Yc a _ d);exact Ej LY I.Rc {_,g,1} e nofun h
 |@tup a k d=>cases(show u=Tk a from f);have(_,_,_,p):=(show Yj X.prog X.w H s.heap a (.tup k)from I.Yc a _ d);have(o,g,l,_):=p;exact Ej NV I.Rc ⟨o,g,l⟩ e nofun h
 |@dK a j d=>cases(show u=Tk a from f);have(_,_,m,_,p):=(show Yj X.prog X.w H s.heap a (.dK j)from I.Yc a _ d);have(o,w,v,g,l,_):=p;exact Ej LZ I.Rc {o,g,l.1} e nofun h
 |@dT a j d=>cases(show u=Tk a from f);have(_,_,k,_,o,w,v,g,l,_):=(show Yj X.prog X.w H s.heap a (.dT j)from I.Yc a _ d);exact Ej LZ I.Rc {o,g,l.1} e nofun h
 |@ins a C F G d r z D m B=>cases(show u=Tk a from f);have(K,O,_):=og I.Yc d;have(L,J,_):=O.look;exact Ej (JH (r.get _) r.hd z D m B) I.Rc J e nofun h
end
structure Yl(k:Nat)(A:DT):Prop where
 hd:A.handled=Gq
 dp:A.depth+3*k+5<recursionLimit
 un:A.units+16*k+200<EY
variable{Q:VK}
theorem Yl.mono{j:Nat}(r:Yl k A)(h:j<=k):Yl j A:={r.hd,by have:=r.dp;lia,by have:=r.un;lia}
theorem Yl.deeper{k:Nat}{A:DT}(r:Yl (k+1) A)(a:Bv):Yl k (A.deeper a):=
 {r.hd,by have:=r.dp;show A.depth+1+3*k+5<_;lia,by have:=r.un;show A.units+3+16*k+200<_;lia}
theorem Qnl:(A.under (.builtin "type.__call__" {.ref C::us,kw})).depth=A.depth+1:=by first|rfl|simp[RK,Code.weight,Code.isCreation,Code.isGuard,Code.isCaller,HH,RL,guardIds]
theorem XG:(A.under (.builtin "type.__call__" {.ref C::us,kw})).units=A.units+1:=by first|rfl|simp[RK,Code.cUnits,HH,RL]
theorem Yl.make(r:Yl (k+1) A)(C:Gd)(b:List Gj)(a:List (TQ×Gj)):Yl k (A.under (.builtin "type.__call__" {.ref C::b,a})):=
 {r.hd,by have:=r.dp;rw[Qnl];ext,by have:=r.un;rw[XG];ext}
theorem Yl.depth{k:Nat}{A:DT}(r:Yl k A):A.depth<recursionLimit:=by have:=r.dp;ext
theorem Yl.units{k:Nat}{A:DT}(r:Yl k A):A.units+64<EY:=by have:=r.un;lia
def jB:TA:=λ_ H Q=>Q [] H
def jx(ta:TE)(a:TA):TA:=λσ H Q=>ta σ H λx H1=>a σ H1 λxs H2=>Q (x::xs) H2
section
variable{X:Cx}{e:D4}{es:List D4}{te:TE}{t:TA}{pos:M3}
theorem Qd:PA X [] jB:=λ_ _ _ _ H Q I h=>L3 {[],H,I,.nil,h}
theorem Qa(j:PE X e te)(k:PA X es t)(hs:T4 (e::es) X.env=(Gx,eval e X.env)::T4 es X.env:=by rfl):PA X (e::es) (jx te t):=by intro b a s c H Q I h;rw[hs];show wpAny _ _ (spliced ((Gx,eval e X.env)::Sf b (T4 es X.env))) _ _ s;refine FT (Xg (j a s c H _ I h) λu p⟨x,d,g,n,l⟩=>?_);exact Xg (k b a p c d _ g l) λv r⟨q,f,i,o,m⟩=>{x::q,f,i,.cons n o,m}
def PY(t:TA):TE:=λσ H Q=>t σ H λxs H1=>xs.length<=TH/\∀p,H1 p=Gq->Q (.ref p) (zj H1 p (.tup xs))
def YU(t:TA):TE:=λσ H Q=>t σ H λxs H1=>xs.length<=TH/\∀p,H1 p=Gq->Q (.ref p) (zj H1 p (.lst xs))
theorem Ze{k}(h:PA X es t):PE X (.Tuple es k pos) (PY t):=by intro a s m H Q I i;refine wpAny_Tuple_spliced (Xg (h pos a s m H _ I i) λj c⟨l,d,f,r,z,q⟩=>{by rw[<-r.length];exact z,?_});have g:d c.heap.objs.size=Gq:=f.Yc.fresh (GJ _);refine{.ref c.heap.objs.size,zj d c.heap.objs.size (.tup l),f.laid (t':=c.toks) (λb u e=>Gp _ e) (GJ _) ?_,1,q _ g};exact{z,j,r,{_,To _ Xb,10}}
theorem Zt(h:PA X es t):PE X (.List es pos) (YU t):=by intro a s l H Q I i;refine wpAny_List_spliced (Xg (h pos a s l H _ I i) λj c⟨k,d,f,r,z,q⟩=>{by rw[<-r.length];exact z,?_});have g:d c.heap.objs.size=Gq:=f.Yc.fresh (GJ _);refine{.ref c.heap.objs.size,zj d c.heap.objs.size (.lst k),f.laid (t':=c.toks) (λb u e=>Gp _ e) (GJ _) ?_,1,q _ g};exact{z,j,(0),r,To _ Xb}
end
abbrev Sp:=List V->Hp->VK->XK->Prop
abbrev iN:=List Bv->Hp->Gz->XK->Gj->Gz->Prop
structure jM(P:Gn)(w:Tg)(K:Gf)(mg:TQ->Option Gj)(base:Heap)(A:DT)(outer:List Bv)(s:Gz)(H:Hp):Prop where
 frames:A.frames=Ga outer
 mod:Mod K mg base
 bs:∀b o,base.get? b=Ga o->s.heap.get? b=Ga o/\H b=Gq
 bsz:base.objs.size<=s.heap.objs.size
 iE:s.heap.FunFrames base outer
 frf:∀b∈frs outer,H b=Gq
 Yc:O2 P w H s.heap
 bare:Mm s.gens
def CE(outer:List Bv)(P:Gn)(w:Tg)(H:Hp)(s:Gz)(Q:VK)(u:Gj)(s':Gz):Prop:=
 ∃v H',s'.os=s.os/\Mm s'.gens/\Un (frs outer) [] H H' s.heap s'.heap/\O2 P w H' s'.heap/\zu v u/\Q v H'
def CR(CX:iN)(outer:List Bv)(P:Gn)(w:Tg)(H:Hp)(s:Gz)(Q:VK)(E:XK)(r:Ha)(s':Gz):Prop:=
 match r with
 |.ok (.ret u)=>CE outer P w H s Q u s'
 |.ok _=>False
 |.error e=>CX outer H s E e s'
structure Q3(P:Gn)(w:Tg)(K:Gf)(mg:TQ->Option Gj)(base:Heap)(CX:iN)(k:Nat)(f:Gd)(fd:Do)(ps:List TQ)(sp:Sp):Prop where
 len:∀vs H Q E,sp vs H Q E->vs.length=ps.length
 run:∀(A:DT)(outer:List Bv)(s:Gz)(H:Hp)(args:Args)(us:List Gj)(vs:List V)(Q:VK)(E:XK),Yl k A->jM P w K mg base A outer s H->RM s fd args (ps.zip us)->Yg vs us->sp vs H Q E->
  codeAny (TU P w) A (.call (.ref f) args) (CR CX outer P w H s Q E) s
theorem jM.make{b:Heap}{a:List Bv}(e:jM P w K mg b A a s H)(C:Gd)(d:List Gj)(c:List (TQ×Gj)):
  jM P w K mg b (A.under (.builtin "type.__call__" {.ref C::d,c})) a s H:={by first|exact e.frames|(simpa[RK,Code.envs,RL,pushEnvs]using e.frames),e.mod,e.bs,e.bsz,e.iE,e.frf,e.Yc,e.bare}
section
variable{X:Cx}{zq:List (Gd×S8)}{σ:St}{H:Hp}{s s':Gz}
theorem zv.sY(I:zv X zq σ H s):jM X.prog X.w X.K X.mg X.base X.A X.stack s H:=
 {I.ok.frames,I.ok.mod,I.bs,DA I.ok.bsz I.sz,I.stack,I.AF,I.Yc,I.bare}
theorem zv.after(I:zv X zq σ H s)(h:CE X.stack X.prog X.w H s Q u s'):EP X zq σ Q u s':=by have(v,e,os,a,un,f,r,q):=h;have(i,g,d,t,c):=s';obtain rfl:c=s.os:=os;exact{v,e,I.call (h':=i) (g':=g) (d':=d) (t':=t) (ch:=[]) un f a (λb z=>absurd z (by simp)),r,q}
end
def Q5q(sp:Sp)(dvs:List V)(E:XK)(t:TA):TE:=λσ H Q=>t σ H λa H1=>sp (a++dvs) H1 Q E
inductive vV(C:Gd)(m:TQ)(sp:Sp)(dvs:List V)(E:XK)(t:TA)(σ:St)(Q:VK)(x:V)(H1:Hp):Prop
 |mk (a:_) (dx:_) (fs:_) (h0:x=.ref a) (h1:H1 a=Ga (.ins C dx fs)) (h2:fs.lookup m=Gq) (h3:t σ H1 λvs H2=>sp (x::(vs++dvs)) H2 Q E):vV C m sp dvs E t σ Q x H1
def lZ(C:Gd)(m:TQ)(sp:Sp)(dvs:List V)(E:XK)(ta:TE)(t:TA):TE:=λσ H Q=>ta σ H λx H1=>vV C m sp dvs E t σ Q x H1
def wH(C:Gd)(sp:Sp)(dvs:List V)(E:XK)(t:TA):TE:=λσ H Q=>t σ H λa H1=>∀x dx,H1 x=Gq->H1 dx=Gq->dx≠x->
 sp (.ref x::(a++dvs)) (zj (zj H1 dx (.own x)) x (.ins C dx [])) (λv H2=>v=.non/\Q (.ref x) H2) E
def zk(K:Gf)(fd:Do)(ps:List TQ)(ds:List Gj):Prop:=
 ∀(s:Gz)(a:List Gj),K.In s.heap->(a++ds).length=ps.length->RM s fd {a,[]} (ps.zip (a++ds))
theorem zk.all{b:Do}(h:∀a:List Gj,a.length=ps.length->bindArgs b {a,[]}=pure (ps.zip a)):zk K b ps []:=λs a _ c=>by rw[DV]at c⊢;exact .of_eq (h a c)
def Rx(CX:iN)(X:Cx)(E:XK):Prop:=∀(zq:List (Gd×S8))(σ:St)(H:Hp)(s:Gz)(e:Gj)(s':Gz),zv X zq σ H s->CX X.stack H s E e s'->X.xe e s'
section
variable{X:Cx}{CX:iN}{k:Nat}{f C:Gd}{fd:Do}{ps:List TQ}{sp:Sp}{dvs:List V}{ds:List Gj}{E:XK}{x m:TQ}{p pos apos:M3}{e o:D4}{es:List D4}{ta:TE}{t:TA}
theorem oO(F:Q3 X.prog X.w X.K X.mg X.base CX k f fd ps sp)(j:Yl k X.A)(d:zk X.K fd ps ds)(g:Yg dvs ds)(l:Rx CX X E)
  (I:zv X zq σ H s)(r:Yg vs us)(h:sp (vs++dvs) H Q E):wpAny (TU X.prog X.w) X.A (call (.ref f) us) (EP X zq σ Q) X.xe s:=by
 have b:Yg (vs++dvs) (us++ds):=r.append g;have i:(us++ds).length=ps.length:=by rw[<-b.length];exact F.len _ _ _ _ h
 refine IF (MU (F.run X.A X.stack s H {us,[]} (us++ds) (vs++dvs) Q E j I.sY (d s us I.Rc i) b h) λr m a=>?_);cases r with
 |error e=>exact l zq σ H s e m I a
 |ok c=>
  cases c with
  |ret u=>exact I.after a
  |next=>exact False.elim a
  |brk=>exact False.elim a
  |cont=>exact False.elim a
theorem Za(F:Q3 X.prog X.w X.K X.mg X.base CX k f fd ps sp)(u:Yl k X.A)(m:Gl X x)(o:X.mg x=Ga (.ref f))(n:DY X.K (.ref f)=Gi)(i:zk X.K fd ps ds)(j:Yg dvs ds)(v:Rx CX X E)
  (g:PA X (e::es) t)(b:(x==("__debug__":TQ))=Gx:=by decide)(l:T4 (e::es) X.env=(Gx,eval e X.env)::T4 es X.env:=by rfl)(c:(Sf pos (T4 es X.env)).any (·.1)=Gx:=by rfl):
  PE X (.Call (.Name x p) (e::es) [] pos) (Q5q sp dvs E t):=by
 intro a s w H Q I h;refine Eg (oI I m o ?_ b);refine FU (h₀:=X.base) I.ok.mod.kin n (Xg (g pos a s w H _ I h) λA z⟨B,y,d,r,q⟩=>{d.Rc,?_}) l c;exact oO F u i j v d r q
theorem Zn(D:PE X o ta)(c:ic X.K C)(n:Yq X.K C m f)(F:Q3 X.prog X.w X.K X.mg X.base CX k f fd ps sp)(G:Yl k X.A)(A:zk X.K fd ps ds)(B:Yg dvs ds)(J:Rx CX X E)(z:PA X (e::es) t)
  (g:T4 (e::es) X.env=(Gx,eval e X.env)::T4 es X.env:=by rfl)(d:(Sf pos (T4 es X.env)).any (·.1)=Gx:=by rfl)
  (ht:eval (.Call (.Attribute o m apos) (e::es) [] pos) X.env=(do
   let ov<-eval o X.env
   standAt apos.atName
   let(f,first)<-holding [ov] (getMethod ov m pl)
   callWith pos f first (Sf pos (T4 (e::es) X.env)) (backToKw pos (keywordEach [] X.env))):=by rfl):
  PE X (.Call (.Attribute o m apos) (e::es) [] pos) (lZ C m sp dvs E ta t):=by
 intro b s p H Q I h;refine Fa (pl:=pl) (Xg (D b s p H _ I h) λu M⟨x,v,i,L,a,O,P,y,w,l,q⟩=>?_) ht;subst y;obtain rfl:u=Tk a:=L;refine O9 i w c n l ?_;refine FU (first:=[.ref a]) (h₀:=X.base) I.ok.mod.kin n.kp (Xg (z pos b M p v _ i q) λus R⟨vs,N,j,r,K⟩=>{j.Rc,?_}) g d;exact oO (us:=.ref a::us) (vs:=.ref a::vs) F G A B J j (.cons rfl r) K
theorem yN(p:PE X o ta)(c:ic X.K C)(e:Yq X.K C m f)(F:Q3 X.prog X.w X.K X.mg X.base CX k f fd ps sp)(r:Yl k X.A)(j:zk X.K fd ps ds)(n:Yg dvs ds)(t:Rx CX X E)
  (ht:eval (.Call (.Attribute o m apos) [] [] pos) X.env=(do
   let ov<-eval o X.env
   standAt apos.atName
   let(f,first)<-holding [ov] (getMethod ov m pl)
   callWith pos f first (Sf pos (T4 [] X.env)) (backToKw pos (keywordEach [] X.env))):=by rfl):
  PE X (.Call (.Attribute o m apos) [] [] pos) (lZ C m sp dvs E ta jB):=by
 intro b s w H Q I h;refine Fa (pl:=pl) (Xg (p b s w H _ I h) λu B⟨x,y,d,v,a,z,A,i,g,l,q⟩=>?_) ht;subst i;obtain rfl:u=Tk a:=v;refine O9 d g c e l ?_;exact ND (first:=[.ref a]) d.Rc e.kp (oO (us:=[.ref a]) (vs:=[.ref a]) F r j n t d (.cons rfl .nil) q)
structure Mk(K:Gf)(C f:Gd):Prop where
 makes:Sy K C=Gi
 init:TM K (.ref C) "__init__"=Ga (Ga (.ref f))
 fn:De K (.ref f)=Gi
 kp:DY K (.ref C)=Gi
theorem wV(M:Mk X.K C f)(F:Q3 X.prog X.w X.K X.mg X.base CX k f fd ps sp)(p:Yl (k+1) X.A)(m:zk X.K fd ps ds)(n:Yg dvs ds)
  (q:Rx CX X E)(I:zv X zq σ H s)(r:Yg vs us)
  (h:∀x c,H x=Gq->H c=Gq->c≠x->sp (.ref x::(vs++dvs)) (zj (zj H c (.own x)) x (.ins C c [])) (λv H2=>v=.non/\Q (.ref x) H2) E):
  wpAny (TU X.prog X.w) X.A (call (.ref C) us) (EP X zq σ Q) X.xe s:=by
 have d:=h (s.heap.objs.size+1) s.heap.objs.size (I.Yc.fresh (LW _)) (I.Yc.fresh (GJ _)) (T2 (ER _));have b:=zv.made (C:=C) I;have g:Yg (V.ref (s.heap.objs.size+1)::(vs++dvs)) (Tk (s.heap.objs.size+1)::(us++ds)):=.cons rfl (r.append n);have o:(Tk (s.heap.objs.size+1)::us++ds).length=ps.length:=by have e:=g.length;rw[F.len _ _ _ _ d]at e;exact e.symm
 refine IF (US (f:=f) I.Rc M.makes M.init (FS.mp M.fn) (MU (F.run _ X.stack _ _ {Tk (s.heap.objs.size+1)::us,[]} (Tk (s.heap.objs.size+1)::(us++ds)) _ _ E (p.make C us [])
  (b.sY.make C us []) (m _ (Tk (s.heap.objs.size+1)::us) b.Rc o) g d) λr y a=>?_))
 cases r with
 |error e=>exact q zq σ _ _ e y b a
 |ok l=>
  cases l with
  |ret u=>have(v,i,j,w,ev,t):=b.after a;subst ev;exact{w,{V.ref (s.heap.objs.size+1),i,j,1,t}}
  |next=>exact False.elim a
  |brk=>exact False.elim a
  |cont=>exact False.elim a
theorem ph(M:Mk X.K C f)(F:Q3 X.prog X.w X.K X.mg X.base CX k f fd ps sp)(o:Yl (k+1) X.A)(m:Gl X x)(n:X.mg x=Ga (.ref C))(i:zk X.K fd ps ds)(j:Yg dvs ds)(u:Rx CX X E)
  (g:PA X (e::es) t)(b:(x==("__debug__":TQ))=Gx:=by decide)(l:T4 (e::es) X.env=(Gx,eval e X.env)::T4 es X.env:=by rfl)(c:(Sf pos (T4 es X.env)).any (·.1)=Gx:=by rfl):
  PE X (.Call (.Name x p) (e::es) [] pos) (wH C sp dvs E t):=by
 intro a s v H Q I h;refine Eg (oI I m n ?_ b);refine FU (h₀:=X.base) I.ok.mod.kin M.kp (Xg (g pos a s v H _ I h) λz y⟨A,w,d,r,q⟩=>{d.Rc,?_}) l c;exact wV M F o i j u d r q
theorem qH(M:Mk X.K C f)(F:Q3 X.prog X.w X.K X.mg X.base CX k f fd ps sp)(i:Yl (k+1) X.A)(e:Gl X x)(g:X.mg x=Ga (.ref C))(c:zk X.K fd ps ds)(d:Yg dvs ds)(j:Rx CX X E)
  (a:(x==("__debug__":TQ))=Gx:=by decide):PE X (.Call (.Name x p) [] [] pos) (wH C sp dvs E jB):=by
 intro b s l H Q I h;refine Eg (oI I e g ?_ a);exact ND I.Rc M.kp (wV (us:=[]) M F i c d j I .nil h)
end
structure Q8(N P:List TQ)(sc:ME):Prop where
 kind:sc.kind=.function
 co:sc.isCoroutine=Gx
 gen:sc.isGenerator=Gx
 nd:N.Nodup
 pre:N.take P.length=P
 par:∀x∈P,sc.names.lookup x=Ga .local\/sc.names.lookup x=Ga .cell
 Q2g:∀y∈sc.names,y.2≠.free
theorem vE{kindOf:TQ->Option Fn}{x:TQ}:∀{a:List (TQ×Gj)}{m:TQ->Option Gj},(∀v,(x,v)∉a)->bindL kindOf a m x=m x
 |[],_,_=>rfl
 |(n,v)::r,m,h=>by
  unfold bindL;rw[vE λw hw=>h w (Gr _ hw)];split
  .have:x≠n:=by rintro rfl;exact h v Tc
   simp[this]
  .rfl
theorem vU{kindOf:TQ->Option Fn}{x:TQ}:∀{a:List (TQ×Gj)}{m:TQ->Option Gj},(∀v,(x,v)∉a)->bindC kindOf a m x=m x
 |[],_,_=>rfl
 |(n,v)::r,m,h=>by
  unfold bindC;rw[vU λw hw=>h w (Gr _ hw)];split
  .rfl
  .have:x≠n:=by rintro rfl;exact h v Tc
   simp[this]
theorem wo{kindOf:TQ->Option Fn}{x:TQ}{v:Gj}:∀{P:List TQ}{a:List Gj}{i:Nat}{m:TQ->Option Gj},P.Nodup->P[i]?=Ga x->a[i]?=Ga v->kindOf x=Ga .local->
  bindL kindOf (P.zip a) m x=Ga v
 |[],_,_,_,_,h,_,_=>by simp at h
 |_::_,[],_,_,_,_,h,_=>by simp at h
 |p::P,w::a,0,m,e,b,c,d=>by simp at b c;subst b;subst c;show bindL kindOf ((p,w)::P.zip a) m p=_;unfold bindL;rw[vE λv f=>(Dy.mp e).1 (M7 f).1,GV d];simp
 |p::P,w::a,i+1,m,e,b,c,d=>by show bindL kindOf ((p,w)::P.zip a) m x=_;unfold bindL;exact wo (i:=i) (Dy.mp e).2 (by simpa using b) (by simpa using c) d
theorem vu{kindOf:TQ->Option Fn}{x:TQ}{v:Gj}:∀{P:List TQ}{a:List Gj}{i:Nat}{m:TQ->Option Gj},P.Nodup->P[i]?=Ga x->a[i]?=Ga v->kindOf x≠Ga .local->
  bindC kindOf (P.zip a) m x=Ga v
 |[],_,_,_,_,h,_,_=>by simp at h
 |_::_,[],_,_,_,_,h,_=>by simp at h
 |p::P,w::a,0,m,e,b,c,d=>by simp at b c;subst b;subst c;show bindC kindOf ((p,w)::P.zip a) m p=_;unfold bindC;rw[vU λv f=>(Dy.mp e).1 (M7 f).1,Gs d];simp
 |p::P,w::a,i+1,m,e,b,c,d=>by show bindC kindOf ((p,w)::P.zip a) m x=_;unfold bindC;exact vu (i:=i) (Dy.mp e).2 (by simpa using b) (by simpa using c) d
noncomputable def start(N:List TQ)(a:List V):St:=a.map Ga++DW (N.length - a.length) Gq
noncomputable def jF(CX:iN)(P:Gn)(w:Tg)(K:Gf)(mg:TQ->Option Gj)(base:Heap)(N:List TQ)(qual:TQ)(scope:ME)(f:Gd)(b:Gj)(A:DT)(outer:List Bv)(s:Gz)(H:Hp)(E:XK):Cx where
 prog:=P
 w:=w
 K:=K
 mg:=mg
 base:=base
 A:=A.deeper (envOfC qual scope s.heap.objs.size f b)
 N:=N
 s₀:=s
 H₀:=H
 env:=envOfC qual scope s.heap.objs.size f b
 outer:=outer
 stack:=envOfC qual scope s.heap.objs.size f b::outer
 ex:=[]
 calm:=Gi
 fn:=λ_=>Gi
 pn:=[]
 xe:=λe s'=>wpAny (TU P w) (A.deeper (envOfC qual scope s.heap.objs.size f b)) (leaving (envOfC qual scope s.heap.objs.size f b) e) (λ_ a=>CX outer H s E e a) (λc a=>CX outer H s E c a) s'
theorem yv{a:ME}(h:a.names.lookup x=Ga .cell):∃c,(cellsFrom n a.names []).lookup x=Ga c:=by have q:=MV a.names n [] (.inl h);exact Mv.mp q
theorem K8{F:iN}{l:Heap}{g:TQ}{scope:ME}{f:Gd}{C:Gj}{d:List Bv}{J:Gz}{E:XK}
  (S:Q8 N ps scope)(M:A.handled=Gq)(m:jM P w K mg l A d s H)(e:vs.length=ps.length)(r:Yg vs us)
  (x:InCallC s s.heap.objs.size (bindL (envOfC g scope s.heap.objs.size f C).kindOf (ps.zip us) λ_=>Gq) (cellsFrom (s.heap.objs.size+1) scope.names []) (bindC (envOfC g scope s.heap.objs.size f C).kindOf (ps.zip us) λ_=>Gq) J):
  zv (jF F P w K mg l N g scope f C A d s H E) [] (start N vs) H J:=by
 have e:ps.length<=N.length:=by have:=congrArg E1 S.pre;rw[Dc]at this;lia
 have(D,R,rfl,G):=x.done;have o:∀b:Gd,b∉(jF F P w K mg l N g scope f C A d s H E).ex:=λb z=>absurd (show b∈([]:List Gd)from z) (by simp);exists {m.mod,S.kind,11,GJ _,λy z c D j=>?_,λy n=>?_,λy c _ h=>?_,λ_=>M,Around.frames_deeper m.frames,.inr ⟨Xb,Xb⟩,λb z=>absurd z (o b),m.bs,m.bsz,λb _ _=>o b,λb z=>absurd z (o b),m.iE,m.frf},
  Xb,m.bare,Un.kept G,{_,x.toInCall.ns,λi y v D j Q=>?_},λy c h=>{_,x.cell y c h},m.Yc.fresh (GJ _),λy c h=>?_,λp t=>absurd (show p∈([]:List (Gd×S8))from t) (by simp),m.Yc.kept G
 .exact name_of_addr x.apart (Eo D) (Eo j)
 .have n:scope.names.lookup y=Ga .cell\/scope.names.lookup y=Ga .free:=n;rcases n with n|n
  .exact yv n
  .exact absurd rfl (S.Q2g _ (Eo n))
 .exact FG (x.above y c (Eo h))
 .have hi:i<vs.length:=by
   unfold start at j;by_cases hi:i<vs.length
   .exact hi
   .rw[TR (by simpa using hi)]at j;rw[MF]at j;split at j<;>cases j
  have L:vs[i]?=Ga v:=by
   unfold start at j;rw[Tt (by simpa using hi),Ts]at j;cases e:vs[i]? with
   |none=>rw[e]at j;cases j
   |some a=>rw[e]at j;cases j;rfl
  have(u,I,O):=r.get L;have t:ps[i]?=Ga y:=by rw[<-S.pre,DS (by lia)];exact D
  have B:ps.Nodup:=by rw[<-S.pre];exact S.nd.sublist (List.take_sublist _ _)
  exists u,O;rcases S.par y (Gc t)with k|k
  .exact .inl {k,wo B t I k}
  .obtain⟨c,e⟩:=yv (n:=s.heap.objs.size+1) k;refine .inr {.inl k,c,e,?_};have q:=x.cell y c e;rw[vu B t I (by show scope.names.lookup y≠_;rw[k];decide)]at q;exact q
 .exact m.Yc.fresh (FG (x.above y c (Eo h)))
 .unfold start;show _=N.length;rw[Gk,Gv,Ss];lia
theorem Q69{m:iN}{o:Heap}{i:Gd}{M g:TQ}{O:Arguments}{scope:ME}{G kV H Q f ct oc:Gj}{F od:Option Gd}
  {ac:Array (Option Gj)}{E:Sp}(lk:K.lookup i=Ga {oc,od,.func (Ev M g O body scope G kV H Q F f ct),ac})(Y:FM K f g=Gi)(S:Q8 N ps scope)
  (L:∀c a b d,E c a b d->c.length=ps.length)
  (X:∀(h:DT)(j:List Bv)(s:Gz)(a:Hp)(c:List V)(b:VK)(d:XK),Yl k (h.deeper (envOfC g scope s.heap.objs.size i f))->E c a b d->
   ∃t,W0 (jF m P w K mg o N g scope i f h j s a d) body t/\t {nx:=λ_ H'=>b .non H',rt:=b} (start N c) a):
  Q3 P w K mg o m (k+1) i (Ev M g O body scope G kV H Q F f ct) ps E:=by
 refine{L,λh j s a ae us c b d A l W ad J=>?_};have hl:=L _ _ _ _ J;have KX:K.In s.heap:=l.mod.kin.keeps λz B p=>(l.bs z B p).1;have ab:s.heap.NoLimit:=l.mod.nolimit.keeps λz B p=>(l.bs z B p).1;have aa:∀y∈ps.zip us,scope.names.lookup y.1=Ga .local\/(scope.names.lookup y.1=Ga .cell/\((cellsFrom (s.heap.objs.size+1) scope.names []).lookup y.1).isSome=Gi):=λ⟨n,v⟩hy=>by
  rcases S.par n (M7 hy).1 with q|q
  .exact .inl q
  .exact .inr {q,MV _ _ _ (.inl q)}
 refine codeAny_call_function A.depth (KX _ _ lk) rfl S.co S.gen rfl (IG KX Y) (W _ _ _ _ ?_);refine wpAny_newFunctionEnv_cells S.kind aa λaf Z R x=>?_;subst Z;refine{ab.keeps x.toInCall.keep,codeAny_func ?_};have(t,ht,hq):=X h j s a c b d (A.deeper _) J;have T:zv (jF m P w K mg o N g scope i f h j s a d) [] (start N c) a R:=K8 S A.hd l hl ad x;refine ET (ht [] R (start N c) a _ T hq) (λU D hs=>?_) λp D hs=>hs;have I:∀{r:St}{H':Hp}{v:V}{u:Gj},zv (jF m P w K mg o N g scope i f h j s a d) [] r H' D->zu v u->b v H'->CE j P w a s b u D:=
  λ{r H' v u}e C q=>{v,H',e.os,e.bare,e.base,e.Yc,C,q}
 cases U with
 |ret u=>have(v,r,H',e,C,q):=hs;exact I e C q
 |next=>have(r,H',e,q):=hs;exact I (v:=V.non) (u:=DE) e rfl q
 |brk=>have(_,_,_,q):=hs;exact False.elim q
 |cont=>have(_,_,_,q):=hs;exact False.elim q
section
variable{X:Cx}{x:TQ}{p pos:M3}{e:D4}{es:List D4}{t:TA}{id T:String}{r:List V->Hp->VK->Prop}
def tCB(r:List V->Hp->VK->Prop)(t:TA):TE:=λσ H Q=>t σ H λa H1=>r a H1 Q
theorem Qm(j:Ur X (.builtin id) r)(l:Gl X x)(m:X.mg x=Gq)(o:bootBuiltins x=Ga (.builtin id))(i:PA X (e::es) t)(n:x≠"__name__":=by decide)(b:(x==("__debug__":TQ))=Gx:=by decide)
  (k:T4 (e::es) X.env=(Gx,eval e X.env)::T4 es X.env:=by rfl)(c:(Sf pos (T4 es X.env)).any (·.1)=Gx:=by rfl):PE X (.Call (.Name x p) (e::es) [] pos) (tCB r t):=by
 intro a s d H Q I h;refine Eg (Uy I l m o ?_ n b);exact Bf (Xg (i pos a s d H _ I h) λw v⟨y,f,g,u,q⟩=>j a v d f y w Q g u q) k c
theorem X0(j:Ur X (.type T) r)(l:Gl X x)(m:X.mg x=Gq)(o:bootBuiltins x=Ga (.type T))(i:PA X (e::es) t)(n:x≠"__name__":=by decide)(b:(x==("__debug__":TQ))=Gx:=by decide)
  (k:T4 (e::es) X.env=(Gx,eval e X.env)::T4 es X.env:=by rfl)(c:(Sf pos (T4 es X.env)).any (·.1)=Gx:=by rfl):PE X (.Call (.Name x p) (e::es) [] pos) (tCB r t):=by
 intro a s d H Q I h;refine Eg (Uy I l m o ?_ n b);exact ED (Xg (i pos a s d H _ I h) λw v⟨y,f,g,u,q⟩=>j a v d f y w Q g u q) k c
end
end L2
namespace HT
open PySem PyProof.Rows
section
variable{prog:Gn}{w:Tg}{A:DT}{E:Gj->Gz->Prop}{s:Gz}
noncomputable def Vc(n d:Nat):Option Int->Nat
 |none=>d
 |some v=>if v<0 then(v+(n:Int)).toNat else min v.toNat n
theorem Rt(n d:Nat):Vc n d Gq=d:=rfl
theorem Iz(n d k:Nat):Vc n d (Ga (k:Int))=min k n:=by show(if(k:Int)<0 then((k:Int)+(n:Int)).toNat else min (k:Int).toNat n)=min k n;rw[Gs (by lia),Er]
theorem Ph(n d:Nat)(b:d<=n)(o:Option Int):Vc n d o<=n:=by
 cases o with
 |none=>exact b
 |some v=>
  show(if v<0 then(v+(n:Int)).toNat else min v.toNat n)<=n;by_cases a:v<0
  .rw[GV a];lia
  .rw[Gs a];exact Bg _ _
theorem xh(v:Int)(n d:Nat):(if v<0 then max (v+(n:Int)) 0 else min v (n:Int))=((Vc n d (Ga v):Nat):Int):=by
 show(if v<0 then max (v+(n:Int)) 0 else min v (n:Int))=(((if v<0 then(v+(n:Int)).toNat else min v.toNat n):Nat):Int);by_cases a:v<0
 .simp only[GV a];lia
 .simp only[Gs a];lia
theorem Qm4(a hi:Option Int)(n:Nat):LC a hi 1 (n:Int)=(((Vc n 0 a:Nat):Int),((Vc n n hi:Nat):Int)):=by
 have b:¬((1:Int)<0):=by ext
 unfold LC;simp only[b,EB];refine RN ?_ ?_
 .cases a with
  |none=>rfl
  |some v=>exact xh v n 0
 .cases hi with
  |none=>rfl
  |some v=>exact xh v n n
theorem WD(i j:Nat):Sw (i:Int) (j:Int) 1=j - i:=by
 unfold Sw;have a:(1:Int)>0:=by lia
 simp only[a,Mo,Hc];split<;>lia
theorem AL{v:Gj}{o:Option Int}{Q:Option Int->Gz->Prop}(p:NW v o)(h:Q o s):wpAny (TU prog w) A (Bw v) Q E s:=by
 cases p with
 |none=>exact BI h
 |int i t=>exact slicePart_int h
theorem XD{f:Gd}{d e:Gj}{a hi:Option Int}{n:Nat}{Q:Int×Int×Nat->Gz->Prop}(hs:s.heap.IsSliceOf f d e .none)(i:NW d a)(j:NW e hi)
  (h:Q (((Vc n 0 a:Nat):Int),1,Vc n n hi - Vc n 0 a) s):wpAny (TU prog w) A (FW (.ref f) (pure (n:Int))) Q E s:=by
 have(os,c,g,b):=id hs;unfold FW B8;refine Gb (Gb (DG c b (x:=d) rfl (Gb (DG c b (x:=e) rfl (Gb (DG c b (x:=.none) rfl (Gm ?_)))))));refine Gb (BI ?_);show wpAny _ _ (if((1:Int)==0)=Gi then _ else _) _ _ s;rw[Gs (by decide)];refine Gb (AL i (Gb (AL j (Gb (Gm ?_)))));show wpAny _ _ (match LC a hi 1 (n:Int)with|(a,hi)=>pure (a,(1:Int),Sw a hi 1)) _ _ s;rw[Qm4 a hi n];show wpAny _ _ (pure (((Vc n 0 a:Nat):Int),(1:Int),Sw ((Vc n 0 a:Nat):Int) ((Vc n n hi:Nat):Int) 1)) _ _ s;rw[WD];exact Gm h
theorem YN(a:Array Gj)(i k:Nat):((ES k).filterMap λ(m:Nat)=>a[((i:Int)+(m:Int)*1).toNat]?).toArray=((a.toList.drop i).take k).toArray:=by
 have e:(λ(m:Nat)=>a[((i:Int)+(m:Int)*1).toNat]?)=λm=>a[i+m]?:=by
  funext m
  have:((i:Int)+(m:Int)*1).toNat=i+m:=by lia
  rw[this]
 rw[e];have:=pick_run a i k;rw[List.filterMap_map]at this;have b:((λx=>a[x]?)∘λx=>i+x)=λm=>a[i+m]?:=rfl;rw[b]at this;rw[this]
theorem Qai{t i:Gd}{a:Array Gj}{j k:Gj}{c hi:Option Int}{Q:Gj->Gz->Prop}(ht:IsTup s.heap t a)(hs:s.heap.IsSliceOf i j k .none)(n:NW j c)(o:NW k hi)
  (hw:¬(Vc a.size 0 c=0/\Vc a.size a.size hi=a.size))
  (h:Q (.ref s.heap.objs.size) {s with heap:=s.heap.push {cls:=.type "tuple",data:=.seq ((a.toList.drop (Vc a.size 0 c)).take (Vc a.size a.size hi - Vc a.size 0 c)).toArray}})
  (m:a.size<=TH):wpAny (TU prog w) A (getItem (.ref t) (.ref i)) Q E s:=by
 have b:sizeOk (.seq ((a.toList.drop (Vc a.size 0 c)).take (Vc a.size a.size hi - Vc a.size 0 c)).toArray):=by show((a.toList.drop (Vc a.size 0 c)).take (Vc a.size a.size hi - Vc a.size 0 c)).toArray.size<=TH;rw[Tq,Dc,Bh,DF];ext
 have p:Vc a.size a.size hi<=a.size:=Ph _ _ (GJ _) hi;have(os,g,e,l):=id hs;have d:s.TypeIs (.ref i) "slice":=⟨os,g,e⟩;unfold getItem;try with_reducible refine D9 ?_
 first|refine Gb (Gm ?_)|skip
 refine Gb (wpAny_sequenceKey ht.typeIs (by decide) ?_);refine Gb (DN (name:=EI "__getitem__") ht.typeIs SO
  (DC SO ht.typeIs entry_tuple_getitem ?_ (args_tuple_getitem _ _)))
 show wpAny _ _ (FX (.ref t)>>=_) _ _ s;refine Gb (tupleItemsOf_ ht ?_);refine Gb (Hd d ?_);rw[GV (by decide)];refine Gb (XD hs n o ?_);have f:¬((((Vc a.size 0 c:Nat):Int)==0&&(1:Int)==1&&(Vc a.size a.size hi - Vc a.size 0 c)==a.size)=Gi):=by intro q;rw[T5,T5]at q;have m:((Vc a.size 0 c:Nat):Int)=0:=eq_of_beq q.1.1;have r:Vc a.size a.size hi - Vc a.size 0 c=a.size:=eq_of_beq q.2;exact hw {by ext,by ext}
 show wpAny _ _ (if(((Vc a.size 0 c:Nat):Int)==0&&(1:Int)==1&&(Vc a.size a.size hi - Vc a.size 0 c)==a.size)=Gi then _ else _) _ _ s;rw[Gs f,YN];first
  |exact Gb (m:=SJ _) (DD (Gm ⟨_,Xb,Gm h⟩) b)
  |exact Gb (m:=SJ _) (DD (Gb (Gm (Gm ⟨_,Xb,Gm h⟩))) b)
  |exact Gb (Gb (m:=SJ _) (DD (Gm (Gm ⟨_,Xb,Gm h⟩)) b))
  |exact Gb (Gb (m:=SJ _) (DD (Gm ⟨_,Xb,Gm h⟩) b))
end
end HT
namespace L2
open PySem PySem.Spec PyProof.Rows
variable{n t':Nat}{α:Type}{H H':Hp}{s:Gz}{u:Gj}{y:V}{P:Gn}{w:Tg}{zw:List (List Wi×V)}{xs:List (List Wi×Gd×Gj)}{b a:Gd}{Q:Gj->Gz->Prop}
abbrev TO:=St->Hp->(Option Int->Hp->Prop)->Prop
def PO(X:Cx)(e:Option D4)(t:TO):Prop:=
 ∀(zq:List (Gd×S8))(s:Gz)(σ:St)(H:Hp)(Q:Option Int->Hp->Prop),zv X zq σ H s->t σ H Q->
  wpAny (TU X.prog X.w) X.A (evalPart e X.env) (λu s'=>∃o H',zv X zq σ H' s'/\NW u o/\Q o H') X.xe s
def Qyx:TO:=λ_ H Q=>Q Gq H
inductive yb(Q:Option Int->Hp->Prop)(x:V)(H1:Hp):Prop
 |mk (i:_) (h0:x=.int i) (h1:Q (Ga i) H1):yb Q x H1
def Pi(t:TE):TO:=λσ H Q=>t σ H λx H1=>yb Q x H1
section
variable{X:Cx}{e:D4}{te:TE}{lo hi:Option D4}{tl th:TO}{pos p2:M3}
theorem Yu:PO X Gq Qyx:=by intro a s b H Q I h;rw[CC];exact Gm {Gq,H,I,.none,h}
theorem Yd(h:PE X e te):PO X (Ga e) (Pi te):=by intro a s g H Q I hw;rw[evalPart_some];refine Xg (h a s g H _ I hw) λu j⟨x,b,c,f,d⟩=>?_;have(i,rfl,q):=d;have(t,rfl):=f;exact{Ga i,b,c,.int i t,q}
def qI(X:Cx)(r:V->Option Int->Option Int->Hp->VK->Prop):Prop:=
 ∀(zq:List (Gd×S8))(s:Gz)(σ:St)(H:Hp)(x:V)(v b c:Gj)(lo hi:Option Int)(a:Gd)(Q:VK),zv X zq σ H s->zu x v->s.heap.IsSliceOf a b c .none->NW b lo->NW c hi->r x lo hi H Q->
  ∃T id,typeLookup (.type T) "__getitem__"=pure (Ga (.builtin id))/\s.TypeIs v T/\wpAny (TU X.prog X.w) X.A (getItem v (.ref a)) (EP X zq σ Q) X.xe s
def tSl(r:V->Option Int->Option Int->Hp->VK->Prop)(te:TE)(tl th:TO):TE:=λσ H Q=>te σ H λx H1=>tl σ H1 λl H2=>th σ H2 λu a=>r x l u a Q
theorem Z3{r:V->Option Int->Option Int->Hp->VK->Prop}(A:qI X r)(w:PE X e te)(z:PO X lo tl)(B:PO X hi th):PE X (.Subscript e (.Slice lo hi Gq p2) pos) (tSl r te tl th):=by intro a s d H Q I h;refine BJ (Xg (w a s d H _ I h) λv K⟨x,j,m,J,E⟩=>?_);refine wpAny_Slice (Xg (z a K d j _ m E) λf L⟨l,k,n,C,F⟩=>Xg (B a L d k _ n F) λg c⟨u,i,o,D,G⟩=>?_);rw[CC];refine Gm ?_;have p:zv X a d i {c with heap:=c.heap.push {cls:=.type "slice",data:=.fields #[f,g,.none]}}:=o.kept (t':=c.toks) λb M q=>Gp _ q;have(T,id,t,ht,y):=A a {c with heap:=c.heap.push {cls:=.type "slice",data:=.fields #[f,g,.none]}} d i x v f g l u c.heap.objs.size Q p J (IH ..) C D G;show wpAny (TU X.prog X.w) X.A (subscriptTail e (.Slice lo hi Gq p2) v (.ref c.heap.objs.size)) (EP X a d Q) X.xe {c with heap:=c.heap.push {cls:=.type "slice",data:=.fields #[f,g,.none]}};exact tail_any (ops:=[.ref c.heap.objs.size,v]) ht t y (by with_unfolding_all rfl)
noncomputable def Jf(xs:List V)(lo hi:Option Int):List V:=(xs.drop (HT.Vc xs.length 0 lo)).take (HT.Vc xs.length xs.length hi - HT.Vc xs.length 0 lo)
theorem xY(a:List V)(b hi:Option Int):(Jf a b hi).length<=a.length:=by unfold Jf;rw[Dc,Bh];ext
inductive AK(K:Gf)(x:V)(lo:Option Int)(hi:Option Int)(H:Hp)(Q:VK):Prop
 |mk (a:_) (xs:_) (h0:x=.ref a) (h1:hB K H a xs) (h2:¬(HT.Vc xs.length 0 lo=0/\HT.Vc xs.length xs.length hi=xs.length)) (h3:∀p,H p=Gq->Q (.ref p) (zj H p (.tup (Jf xs lo hi)))):AK K x lo hi H Q
def v9(K:Gf):V->Option Int->Option Int->Hp->VK->Prop:=λx lo hi H Q=>AK K x lo hi H Q
theorem V9:qI X (v9 X.K):=by
 intro i s u H x v p t e hi o Q I m hs k l h;have(a,d,rfl,j,hw,q):=h;cases m;have(f,r,ht,g):=I.tuple j;have c:f.toArray.size=d.length:=by rw[Tq];exact r.length.symm
 exists "tuple",_,SO.lookup,ht.typeIs;refine HT.Qai ht hs k l (by rw[c];exact hw) ?_ (by rw[c];exact g);rw[c];refine{.ref s.heap.objs.size,_,I.laid (t':=s.toks) (o:=.tup (Jf d e hi)) (λb n q=>Gp _ q) (GJ _) ?_,1,q _ (I.Yc.fresh (GJ _))};exact{DA (xY d e hi) g,_,(r.drop (HT.Vc d.length 0 e)).take (HT.Vc d.length d.length hi - HT.Vc d.length 0 e),JI _ _}
end
noncomputable def ixN(n:Nat)(i:Int):Option Nat:=if 0<=i then(if i<n then Ga i.toNat else Gq)else if -(n:Int)<=i then Ga (i+n).toNat else Gq
def Oh{α:Type}(xs:List α)(i:Int):Option α:=(ixN xs.length i).bind λj=>xs[j]?
theorem Qzp{i:Int}{j:Nat}(h:ixN n i=Ga j):seqIndex? i n=Ga j/\j<n/\ -(n:Int)<=i/\i<n:=by
 unfold ixN at h;by_cases b:0<=i
 .rw[GV b]at h;by_cases a:i<n
  .rw[GV a]at h;have e:i.toNat=j:=T3 h;exact{by rw[HK b a,e],by lia,by lia,a}
  .rw[Gs a]at h;cases h
 .rw[Gs b]at h;by_cases a: -(n:Int)<=i
  .rw[GV a]at h;have e:(i+n).toNat=j:=T3 h;exact{by rw[He (by lia) a,e],by lia,a,by lia}
  .rw[Gs a]at h;cases h
theorem pZ{a:List α}{i:Int}{v:α}(h:Oh a i=Ga v):∃j,seqIndex? i a.length=Ga j/\a[j]?=Ga v/\j<a.length/\ -(a.length:Int)<=i/\i<a.length:=by
 unfold Oh at h;cases e:ixN a.length i with
 |none=>rw[e]at h;cases h
 |some j=>rw[e]at h;have(b,c,d,f):=Qzp e;exact⟨j,b,h,c,d,f⟩
theorem Zk{xs:List α}{j:Nat}{v:α}(h:xs[j]?=Ga v):Oh xs (j:Int)=Ga v:=by
 have a:j<xs.length:=(Gg.mp h).1;have e:ixN xs.length (j:Int)=Ga j:=by unfold ixN;rw[GV (by lia),GV (by lia)];simp
 unfold Oh;rw[e];exact h
theorem Rw{a b c:α}{d:List α}:Oh (a::b::c::d) ((2:Nat):Int)=Ga c:=Zk rfl
theorem Xv{a b:α}{c:List α}:Oh (a::b::c) ((1:Nat):Int)=Ga b:=Zk rfl
theorem Z6{a:α}{b:List α}:Oh (a::b) ((0:Nat):Int)=Ga a:=Zk rfl
theorem OO(a:List α)(v:α):Oh (a++[v]) (-1)=Ga v:=by
 have b:(a++[v]).length=a.length+1:=by simp
 have e:ixN (a++[v]).length (-1)=Ga a.length:=by unfold ixN;rw[b,Gs (by decide),GV (by ext)];congr 1;ext
 unfold Oh;rw[e];show(a++[v])[a.length]?=Ga v;simp
def VE(b:D4):Prop:=∀o i,subscripted b Gx o i=operate [o,i] (getItem o i)
def iS(X:Cx)(r:R2):Prop:=
 ∀(value a:D4)(zq:List (Gd×S8))(s:Gz)(σ:St)(H:Hp)(x y:V)(v u:Gj)(Q:VK),zv X zq σ H s->zu x v->zu y u->r x y H Q->
  subscripted a Gx v u=operate [v,u] (getItem v u)->wpAny (TU X.prog X.w) X.A (subscriptTail value a v u) (EP X zq σ Q) X.xe s
def iO(X:Cx)(id:String)(r:V->List V->Hp->VK->Prop):Prop:=
 ∀(zq:List (Gd×S8))(s:Gz)(σ:St)(H:Hp)(x:V)(xs:List V)(v:Gj)(a:List Gj)(Q:VK),zv X zq σ H s->zu x v->Yg xs a->r x xs H Q->
  wpAny (TU X.prog X.w) X.A (call (.builtin id) (v::a)) (EP X zq σ Q) X.xe s
section
variable{X:Cx}{a b:D4}{ta tb:TE}{pos:M3}
theorem iS.or{r d:R2}(h:iS X r)(i:iS X d):iS X (λx y H Q=>r x y H Q\/d x y H Q):=by
 intro b a c s g H x y v u Q I e f q hs;rcases q with q|q
 .exact h b a c s g H x y v u Q I e f q hs
 .exact i b a c s g H x y v u Q I e f q hs
theorem Qn{r:R2}(i:iS X r)(f:PE X a ta)(g:PE X b tb)(hs:VE b:=by exactλ_ _=>rfl):PE X (.Subscript a b pos) (tOp r ta tb):=by intro c s m H Q I h;exact BJ (qp f g I h λv u l x y d e j k q=>i a b c l m d x y v u Q e j k q (hs _ _))
inductive zC(K:Gf)(x:V)(y:V)(H:Hp)(Q:VK):Prop
 |mk (p:_) (xs:_) (i:_) (v:_) (h0:x=.ref p) (h1:y=.int i) (h2:Uw K H p xs) (h3:Oh xs i=Ga v) (h4:Q v H):zC K x y H Q
def rj(K:Gf):R2:=λx y H Q=>zC K x y H Q
inductive xQ(K:Gf)(x:V)(y:V)(H:Hp)(Q:VK):Prop
 |mk (p:_) (xs:_) (i:_) (v:_) (h0:x=.ref p) (h1:y=.int i) (h2:hB K H p xs) (h3:Oh xs i=Ga v) (h4:Q v H):xQ K x y H Q
def jw(K:Gf):R2:=λx y H Q=>xQ K x y H Q
inductive xi(x:V)(y:V)(H:Hp)(Q:VK):Prop
 |mk (z:_) (i:_) (c:_) (h0:x=.str z) (h1:y=.int i) (h2:z.length<=TH) (h3:Oh z.cps.toList i=Ga c) (h4:Q (.str ⟨#[c]⟩) H):xi x y H Q
def zV:R2:=λx y H Q=>xi x y H Q
theorem Zd:iS X (rj X.K):=by
 intro l k a s o H x y v u Q I G J h hs;have(p,O,i,z,rfl,rfl,F,D,q):=h;cases G;have(t,rfl):=J;have(e,r,f,N):=I.list F;have(j,c,A,L,B,C):=pZ D;have(w,m,g):=r.get A;have E:=r.length;have M:=O8;have b:EP X a o Q w s:=⟨z,H,I,g,q⟩;by_cases n:0<=i
 .have d:i.toNat=j:=by rw[HK n C]at c;exact T3 c
  exact item_listR f.isList n (by lia) (by rw[d];simpa using m) b hs
 .have d:(i+(e.toArray.size:Int)).toNat=j:=by rw[He (by lia) B]at c;rw[Tq,<-E];exact T3 c
  exact L4 (x:=w) f.isList.typeIs slot_list_getitem.lookup
   (wpAny_getItem_list_neg (Q:=λr K=>r=w/\EP X a o Q r K) f.isList (by lia) (by rw[Tq]<;>lia) (by lia) (by rw[d];simpa using m) ⟨Xb,b⟩) hs
theorem Qs:iS X (jw X.K):=by
 intro e d a s g H x y v u Q I C D h hs;have(p,M,i,z,rfl,rfl,A,n,q):=h;cases C;have(t,rfl):=D;have(B,r,f,L):=I.tuple A;have(j,l,m,F,G,J):=pZ n;have(w,k,c):=r.get m;have o:=r.length;have K:=O8;have b:EP X a g Q w s:=⟨z,H,I,c,q⟩;exact L4 (x:=w) f.typeIs slot_tuple_getitem.lookup
  (getItem_tuple (j:=j) (Q:=λr E=>r=w/\EP X a g Q r E) f (by ext) (by ext) (by rw[Tq,<-o];exact l) (by simpa using k) ⟨Xb,b⟩) hs
theorem zT:iS X zV:=by
 intro b a e s D H x y v u Q I p r h hs;have(z,i,c,rfl,rfl,B,n,q):=h;have(t,rfl):=p;have(C,rfl):=r;have(j,d,k,w,l,m):=pZ n;have o:z.cps.toList.length=z.length:=by simp[Str.length]
 rw[o]at d l m;have A:=O8;exact tail_any (II s z t) slot_str_getitem.lookup (getItem_str (c:=c) (by have f:decide (i< -(2^63:Int))=Gx:=Td (by lia);have g:decide (i>=2^63)=Gx:=Td (by lia);rw[f,g,CD]) (by rw[d];simpa using k) {.str ⟨#[c]⟩,H,I.tok _,{40},q}) hs
def rIx(K:Gf):R2:=λx y H Q=>rj K x y H Q\/jw K x y H Q\/zV x y H Q
theorem wa:iS X (rIx X.K):=Zd.or (Qs.or zT)
theorem P1(a hi:Option Int)(n:Nat):(sliceBounds a hi Gq n).1=((HT.Vc n 0 a:Nat):Int)/\(sliceBounds a hi Gq n).2.1=((HT.Vc n n hi:Nat):Int)/\(sliceBounds a hi Gq n).2.2=1:=by
 refine{?_,?_,1}
 .cases a with
  |none=>simp[sliceBounds,HT.Vc]
  |some i=>
   simp only[sliceBounds,HT.Vc,Bi,show(1:Int)>0 by decide,Mo];by_cases h:i<0
   .simp only[h,Mo]<;>lia
   .simp only[h,EB]<;>lia
 .cases hi with
  |none=>simp[sliceBounds,HT.Vc]
  |some i=>
   simp only[sliceBounds,HT.Vc,Bi,show(1:Int)>0 by decide,Mo];by_cases h:i<0
   .simp only[h,Mo]<;>lia
   .simp only[h,EB]<;>lia
theorem PP(a:List Gj)(b hi:Option Int):slicePick a.toArray b hi Gq=((a.drop (HT.Vc a.length 0 b)).take (HT.Vc a.length a.length hi - HT.Vc a.length 0 b)).toArray:=by have(c,d,e):=P1 b hi a.toArray.size;unfold slicePick;rw[c,d,e];simp only[sliceRange_one,pick_run,Tq]<;>rfl
inductive vo(K:Gf)(x:V)(lo:Option Int)(hi:Option Int)(H:Hp)(Q:VK):Prop
 |mk (a:_) (xs:_) (h0:x=.ref a) (h1:Uw K H a xs) (h2:∀p,H p=Gq->Q (.ref p) (zj H p (.lst (Jf xs lo hi)))):vo K x lo hi H Q
def XX(K:Gf):V->Option Int->Option Int->Hp->VK->Prop:=λx lo hi H Q=>vo K x lo hi H Q
theorem Wo:qI X (XX X.K):=by intro f s u H x v p t e hi o Q I m hs k l h;have(a,c,rfl,g,q):=h;cases m;have(j,r,ht,i):=I.list g;have d:=r.length;exists "list",_,slot_list_getitem.lookup,ht.isList.typeIs;refine wpAny_getItem_list_slice ht.isList hs k l .none (by simp) ?_ (by rw[Tq]<;>lia);rw[PP,<-d];refine{.ref s.heap.objs.size,_,I.laid (t':=s.toks) (o:=.lst (Jf c e hi)) (λb n q=>Gp _ q) (GJ _) ?_,1,q _ (I.Yc.fresh (GJ _))};exact{DA (xY c e hi) i,_,(0),(r.drop (HT.Vc c.length 0 e)).take (HT.Vc c.length c.length hi - HT.Vc c.length 0 e),To _ Xb}
theorem Zo:Ur X (.builtin "len") (λxs H Q=>∃p b,xs=[.ref p]/\(Uw X.K H p b\/hB X.K H p b)/\Q (.int b.length) H):=by
 intro g s m H xs l Q I r h;have(p,b,rfl,c,q):=h;have(u,rfl,j):=vals1 r;cases j;have k:=O8;rcases c with c|c
 .obtain⟨d,f,e,i⟩:=I.list c;have a:=f.length;exact NC e.isList (by simp only[Tq]<;>lia) {.int b.length,H,I.tok _,{s.toks+1,by rw[Tq,a]},q}
 .obtain⟨d,f,e,i⟩:=I.tuple c;have a:=f.length;exact len_tuple e (by simp only[Tq]<;>lia) {.int b.length,H,I.tok _,{s.toks+1,by rw[Tq,a]},q}
theorem Ut:Ur X (.type "list") (λxs H Q=>∃p g,xs=[.ref p]/\(Uw X.K H p g\/hB X.K H p g)/\∀l,H l=Gq->Q (.ref l) (zj H l (.lst g))):=by
 intro t s B H xs C Q I r h;have(p,g,rfl,k,q):=h;have(u,rfl,A):=vals1 r;cases A;have i:∀(a:List Gj),Yg g a->g.length<=TH->∀(c:Heap)(d:Nat),(∀b z,s.heap.get? b=Ga z->c.get? b=Ga z)->
   c.get? s.heap.objs.size=Ga {cls:=.type "list",dict:=Gq,data:=.seq a.toArray d,slots:=#[]}->EP X t B Q (.ref s.heap.objs.size) {s with heap:=c}:=λa f l c d m e=>
  {.ref s.heap.objs.size,_,I.laid (t':=s.toks) m (GJ _) (show Yj X.prog X.w _ c _ (.lst g)from⟨l,a,d,f,e⟩),1,q _ (I.Yc.fresh (GJ _))}
 rcases k with k|k
 .obtain⟨a,f,y,l⟩:=I.list k;have j:=f.length;have(o,x,v,n,w):=y.isList;exact CF p (.inl Xb) x v w (λc d m e=>i a f l c d m e) (by simp only[Tq]<;>ext)
 .obtain⟨a,f,y,l⟩:=I.tuple k;have j:=f.length;have(o,x,v,n,w):=y;exact CF p (.inr Xb) x v w (λc d m e=>i a f l c d m e) (by simp only[Tq]<;>ext)
theorem Uh:Ur X (.type "tuple") (λxs H Q=>∃p d,xs=[.ref p]/\((Uw X.K H p d/\∀l,H l=Gq->Q (.ref l) (zj H l (.tup d)))\/(hB X.K H p d/\Q (.ref p) H))):=by
 intro a s n H xs x Q I r h;have(p,d,rfl,h):=h;have(u,rfl,w):=vals1 r;cases w;rcases h with⟨g,q⟩|⟨g,q⟩
 .obtain⟨c,j,i,m⟩:=I.list g;have l:=j.length;refine call_tuple_list i.isList (λf v=>?_) (by simp only[Tq]<;>ext);have k:zv X a n H {s with heap:=f}:=I.kept (t':=s.toks) v;have t:zv X a n (zj H f.objs.size (.tup d)) {s with heap:=f.push {cls:=.type "tuple",data:=.seq c.toArray}}:=
   k.laid (t':=s.toks) (λb o e=>Gp _ e) (GJ _) (show Yj X.prog X.w _ _ _ (.tup d)from{m,c,j,JI _ _})
  exact{.ref f.objs.size,_,t,1,q _ (k.Yc.fresh (GJ _))}
 .obtain⟨c,j,i,m⟩:=I.tuple g;exact call_tuple_same i {.ref p,H,I,1,q}
def tyV(K:Gf)(T:String)(x:V)(H:Hp):Prop:=match x with
 |.str _=>T="str"
 |.int _=>T="int"
 |.ref p=>(T="list"/\∃xs,Uw K H p xs)\/(T="tuple"/\∃o,K.lookup p=Ga o/\o.cls=.type "tuple"/\o.dict=Gq)\/
   (T="dict"/\((∃zw,H p=Ga (.dK zw))\/∃zw,H p=Ga (.dT zw)))\/(T="set"/\∃S n,H p=Ga (.set S n))
 |_=>False
theorem vk{f:List (Gd×S8)}{u:St}{T:String}{x:V}{v:Gj}(I:zv X f u H s)(r:zu x v)(ty:tyV X.K T x H):
  s.TypeIs v T/\∀a,v=.ref a->∃k,s.heap.get? a=Ga k/\k.dict=Gq:=by
 cases x with
 |str z=>have(t,rfl):=r;cases(show T="str"from ty);exact{II s z t,λ_ e=>nomatch e}
 |int i=>have(t,rfl):=r;cases(show T="int"from ty);exact{typeIs_int s i t,λ_ e=>nomatch e}
 |ref p=>
  cases r;rcases ty with⟨rfl,w,m⟩|⟨rfl,o,b,l,h⟩|⟨rfl,b⟩|⟨rfl,S,n,b⟩
  .obtain⟨q,_,j,_⟩:=I.list m;refine{j.isList.typeIs,λa e=>?_};cases e;have(o,n,e,c,h,_):=j;exact⟨o,e,h⟩
  .refine{{o,I.Rc p o b,l},λa e=>?_};cases e;exact{o,I.Rc _ o b,h}
  .have z:∃o,s.heap.get? p=Ga o/\o.ExactDict:=by
    rcases b with⟨j,b⟩|⟨j,b⟩
    .obtain⟨_,_,_,_,o,_,_,e,d,_⟩:=I.Yc p _ b;exact⟨o,e,d⟩
    .obtain⟨_,_,_,_,o,_,_,e,d,_⟩:=I.Yc p _ b;exact⟨o,e,d⟩
   have(o,e,d):=z;refine{{o,e,d.1},λa g=>?_};cases g;exact{o,e,d.2.1}
  .obtain⟨o,_,_,_,e,d,_⟩:=I.Yc p _ b;refine{{o,e,d.1},λa g=>?_};cases g;exact{o,e,d.2.1}
 |_=>exact False.elim ty
def Pv(K:Gf)(T:String)(r:V->List V->Hp->VK->Prop)(to:TE):TE:=λσ H Q=>to σ H λx H1=>tyV K T x H1/\r x [] H1 Q
def tBM(K:Gf)(T:String)(r:V->List V->Hp->VK->Prop)(to:TE)(t:TA):TE:=λσ H Q=>to σ H λx H1=>tyV K T x H1/\t σ H1 λxs H2=>r x xs H2 Q
variable{o e:D4}{es:List D4}{to:TE}{t:TA}{name:TQ}{apos cpos:M3}{T id:String}{r:V->List V->Hp->VK->Prop}
theorem O0(n:IJ T)(slot:Slot T name id)(d:typeOf (.builtin id)=pure (.type "method_descriptor"))(l:iO X id r)(m:PE X o to)
  (b:attributeBase o name X.env (eval o X.env)=eval o X.env:=by rfl)(c:(apos.endLine==cpos.line)=Gi:=by rfl):PE X (.Call (.Attribute o name apos) [] [] cpos) (Pv X.K T r to):=by
 intro a s g H Q I h;refine MH b c (Xg (m a s g H _ I h) λv q⟨x,i,e,f,ty,p⟩=>?_);have(j,k):=vk e f ty;exact{T,id,n,slot,d,j,k,Lc rfl (NE (l a q g i x [] v [] Q e f .nil p))}
theorem X6(A:IJ T)(slot:Slot T name id)(g:typeOf (.builtin id)=pure (.type "method_descriptor"))(y:iO X id r)(z:PE X o to)(w:PA X (e::es) t)
  (c:attributeBase o name X.env (eval o X.env)=eval o X.env:=by rfl)
  (f:((Sf cpos (T4 (e::es) X.env)).all (λx=>!x.1)&&(backToKw cpos (keywordEach [] X.env)).all (λx=>x.1.isSome)
   &&decide ((e::es).length+([]:List RO).length+(if([]:List RO).isEmpty then 0 else 1)<30))=Gi:=by rfl)
  (d:(apos.endLine==cpos.line)=Gi:=by rfl)(hs:T4 (e::es) X.env=(Gx,eval e X.env)::T4 es X.env:=by rfl)(b:(Sf cpos (T4 es X.env)).any (·.1)=Gx:=by rfl):
  PE X (.Call (.Attribute o name apos) (e::es) [] cpos) (tBM X.K T r to t):=by
 intro a s i H Q I h;refine MX c f d rfl (Xg (z a s i H _ I h) λv E⟨x,m,j,l,ty,B⟩=>?_);have(q,u):=vk j l ty;exists T,id,A,slot,g,q,u;have k:=w cpos a E i m _ j B;rw[hs]at k⊢;refine Lc (by show(Gx||(Sf cpos (T4 es X.env)).any (·.1))=Gx;rw[b]<;>rfl) (Nq ?_);exact Xg k λG F⟨J,n,p,D,C⟩=>y a F i n x J v G Q p l D C
end
def se(X:Cx)(id:String)(r:V->List V->Hp->VK->Prop):Prop:=
 ∀(zq:List (Gd×S8))(s:Gz)(σ:St)(H:Hp)(x:V)(xs:List V)(v:Gj)(a:List Gj)(Q:VK),zv X zq σ H s->zu x v->Yg xs a->r x xs H Q->
  wpAny (TU X.prog X.w) X.A (call (.builtin id) (v::a)) (EP X zq σ Q) X.xe s
theorem Yg.one:∀{x:V}{a:List Gj},Yg [x] a->∃u,a=[u]/\zu x u:=by intro x a h;cases h with|cons r h=>cases h;exact⟨_,Xb,r⟩
theorem Yg.zero:∀{a:List Gj},Yg [] a->a=[]
 |_,.nil=>rfl
theorem Yg.dropLast{b:List V}{a:List Gj}(h:Yg b a):Yg b.dropLast a.dropLast:=by
 induction h with
 |nil=>exact .nil
 |cons r t c=>
  cases t with
  |nil=>exact .nil
  |cons q d=>exact .cons r c
theorem VQ(l:List α):l.eraseIdx (l.length - 1)=l.dropLast:=by
 induction l with
 |nil=>rfl
 |cons a r c=>
  cases r with
  |nil=>rfl
  |cons b r=>
   have e:(a::b::r).length - 1=((b::r).length - 1)+1:=by have d:(a::b::r).length=r.length+2:=rfl;have f:(b::r).length=r.length+1:=rfl;lia
   rw[e,List.eraseIdx_cons_succ,c];all_goals rfl
section
variable{X:Cx}{zq:List (Gd×S8)}{σ:St}{H:Hp}{s:Gz}{l b:Gd}{xs ys zs:List V}
theorem zv.nZ{a its':List Gj}{f:Array Gj->Array Gj}(I:zv X zq σ H s)(b:H l=Ga (.lst xs))
  (e:s.heap.get? l=Ga {cls:=.type "list",data:=.seq a.toArray n})(d:f a.toArray=its'.toArray)(h:Yg ys its')(i:ys.length<=TH):
  zv X zq σ (zj H l (.lst ys)) {s with heap:=s.heap.update l (Lw f),toks:=t'}:=by
 have q:=JJ e f;rw[d]at q;refine I.write (x:=l) (e:=l) (by rw[b];exact trivial) (.inl Xb) (λj u c g=>(Sg s.heap (Lw f) (Ta c)).trans g) {_,q} ?_;exact{i,its',_,h,q}
theorem zv.Ay{its:List Gj}(I:zv X zq σ H s)(a:Yg ys its)(b:ys.length<=TH):
  zv X zq σ (zj H s.heap.objs.size (.lst ys)) {s with heap:=s.heap.push {cls:=.type "list",data:=.seq its.toArray},toks:=t'}:=
 I.laid (λ_ _ q=>Gp _ q) (GJ _) {b,its,(0),a,To _ Xb}
theorem zv.fresh(I:zv X zq σ H s):H s.heap.objs.size=Gq:=I.Yc.fresh (GJ _)
theorem zv.jL(I:zv X zq σ H s)(b:H l=Ga (.lst xs)):xs.length<=TH/\∃(a:List Gj)(n:Nat),Yg xs a/\xs.length=a.length/\s.heap.get? l=Ga {cls:=.type "list",data:=.seq a.toArray n}:=by have(z,a,n,r,e):=I.Yc l _ b;exact{z,a,n,r,r.length,e}
theorem Qxh(h:n<=TH):LI n=Gx:=by unfold LI;exact Td (by lia)
end
section
variable{X:Cx}
inductive sD(x:V)(vs:List V)(H:Hp)(Q:VK):Prop
 |mk (l:_) (xs:_) (y:_) (h0:x=.ref l) (h1:vs=[y]) (h2:H l=Ga (.lst xs)) (h3:xs.length<TH) (h4:Q .non (zj H l (.lst (xs++[y])))):sD x vs H Q
def VB:V->List V->Hp->VK->Prop:=λx a H Q=>sD x a H Q
theorem Z4:se X "list.append" VB:=by intro c s p H x m v k Q I g f h;have(l,o,y,rfl,rfl,b,j,q):=h;cases g;have(u,rfl,d):=f.one;have(z,a,n,r,i,e):=I.jL b;refine NX F.slot_list_append {_,e,1} F.entry_list_append (F.args_list_append_2 _ _) (RP l a.toArray n u (by rw[Tq];ext)) {e,?_};refine{.non,_,I.nZ (its':=a++[u]) b e (by simp) (r.append (.cons d .nil)) ?_,1,q};rw[Gk,Gy];ext
inductive AZ(x:V)(vs:List V)(H:Hp)(Q:VK):Prop
 |mk (l:_) (b:_) (xs:_) (zs:_) (h0:x=.ref l) (h1:vs=[.ref b]) (h2:H l=Ga (.lst xs)) (h3:H b=Ga (.lst zs)) (h4:xs.length+zs.length<=TH) (h5:Q .non (zj H l (.lst (xs++zs)))):AZ x vs H Q
def Q0j:V->List V->Hp->VK->Prop:=λx a H Q=>AZ x a H Q
theorem rH:se X "list.extend" Q0j:=by
 intro i s J H x C v B Q I w t h;have(l,b,D,G,rfl,rfl,g,k,A,q):=h;cases w;have(u,rfl,p):=t.one;cases p;have(z,c,n,r,y,e):=I.jL g;have(E,a,n2,o,m,j):=I.jL k;have f:c.toArray.size+a.toArray.size<=TH:=by rw[Tq,Tq];lia
 have d:¬(!c.toArray.isEmpty&&LI (c.toArray.size+a.toArray.size))=Gi:=by rw[Qxh f,Bool.and_false];exact TD
 refine NX F.slot_list_extend {_,e,1} F.entry_list_extend (F.args_list_extend_2 _ _)
  (RQ l c.toArray n b a.toArray n2 d (by rw[Tq];lia) (by lia)) {e,j,?_}
 refine{.non,_,I.nZ (its':=c++a) g e (by simp) (r.append o) ?_,1,q};rw[Gk];lia
inductive AB(x:V)(vs:List V)(H:Hp)(Q:VK):Prop
 |mk (l:_) (xs:_) (y:_) (h0:x=.ref l) (h1:vs=[]) (h2:H l=Ga (.lst xs)) (h3:xs[xs.length - 1]?=Ga y) (h4:Q y (zj H l (.lst xs.dropLast))):AB x vs H Q
def YO:V->List V->Hp->VK->Prop:=λx a H Q=>AB x a H Q
theorem O3:se X "list.pop" YO:=by
 intro f s A H x t v p Q I o m h;have(l,w,y,rfl,rfl,d,j,q):=h;cases o;have b:=m.zero;subst b;have(z,a,n,r,g,e):=I.jL d;have(u,i,k):=r.get j;have c:a.toArray[a.toArray.size - 1]?=Ga u:=by show a.toArray[a.length - 1]?=Ga u;rw[<-Ed,<-g];exact i
 refine NX F.slot_list_pop {_,e,1} F.entry_list_pop (F.args_list_pop_1 _) (Hf l a.toArray n u c (by rw[Tq];ext)) {e,?_};refine{y,_,I.nZ (its':=a.dropLast) d e ?_ r.dropLast ?_,k,q}
 .show a.toArray.eraseIdxIfInBounds (a.toArray.size - 1)=a.dropLast.toArray;rw[Tq,List.eraseIdxIfInBounds_toArray,VQ]
 .rw[List.length_dropLast];ext
inductive tI(x:V)(y:V)(H:Hp)(Q:VK):Prop
 |mk (l:_) (b:_) (xs:_) (zs:_) (h0:x=.ref l) (h1:y=.ref b) (h2:H l=Ga (.lst xs)) (h3:H b=Ga (.lst zs)) (h4:xs.length+zs.length<=TH) (h5:∀p,H p=Gq->Q (.ref p) (zj H p (.lst (xs++zs)))):tI x y H Q
def Q9c:R2:=λx y H Q=>tI x y H Q
theorem Wc:hA X (binaryOp .Add) Q9c:=by
 intro d s D H x y v u Q I o p h;have(l,b,A,C,rfl,rfl,j,i,w,q):=h;cases o;cases p;have(z,c,n,r,t,e):=I.jL j;have(B,a,n2,m,k,f):=I.jL i;refine JK e f ?_ (by rw[Tq,Tq];ext);have g:c.toArray++a.toArray=(c++a).toArray:=by simp
 rw[g];exact{.ref _,_,I.Ay (t':=s.toks) (r.append m) (by rw[Gk];ext),1,q _ I.fresh}
end
section
variable{κ:Type}[DecidableEq κ]
noncomputable def Xq(zw:List (κ×V))(k:κ):Option V:=(zw.find? λa=>decide (a.1=k)).map (·.2)
noncomputable def V2(zw:List (κ×V))(k:κ)(v:V):List (κ×V):=
 if(zw.any λa=>decide (a.1=k))=Gi then zw.map (λa=>if a.1=k then(a.1,v)else a)else zw++[(k,v)]
theorem qc{k:κ}:Xq ([]:List (κ×V)) k=Gq:=rfl
theorem Wd{p:κ×V}{r:List (κ×V)}{k:κ}(e:p.1=k):Xq (p::r) k=Ga p.2:=by simp[Xq,DZ,e]
theorem Xz{p:κ×V}{r:List (κ×V)}{k:κ}(e:¬p.1=k):Xq (p::r) k=Xq r k:=by simp[Xq,DZ,e]
theorem Jx(k:κ):∀a:List (κ×V),(a.any λb=>decide (b.1=k))=(Xq a k).isSome
 |[]=>rfl
 |p::r=>by
  rw[NO];by_cases e:p.1=k
  .simp only[Wd e,Ti e,Bool.true_or,NY]
  .rw[Xz e,Td e,Bool.false_or];exact Jx k r
theorem Km(k j:κ)(y:V):∀a:List (κ×V),Xq (a.map λb=>if b.1=k then(b.1,y)else b) j=(Xq a j).map λx=>if j=k then y else x
 |[]=>rfl
 |p::r=>by
  have b:=Km k j y r;rw[Tp];by_cases h:p.1=k
  .rw[GV h];by_cases e:p.1=j
   .rw[Wd (p:=(p.1,y)) e,Wd e,D0,GV (e.symm.trans h)]
   .rw[Xz (p:=(p.1,y)) e,Xz e,b]
  .rw[Gs h];by_cases e:p.1=j
   .rw[Wd (p:=p) e,Wd e,D0,Gs (λz=>h (e.trans z))]
   .rw[Xz (p:=p) e,Xz e,b]
theorem qz(k j:κ)(y:V):∀a:List (κ×V),Xq a k=Gq->Xq (a++[(k,y)]) j=if j=k then Ga y else Xq a j
 |[],_=>by
  by_cases e:k=j
  .rw[GV e.symm];exact Wd (p:=(k,y)) e
  .rw[Gs (λz=>e z.symm)];exact Xz (p:=(k,y)) e
 |p::r,b=>by
  rw[Dp];have c:¬p.1=k:=λz=>by rw[Wd z]at b;cases b
  rw[Xz c]at b;have d:=qz k j y r b;by_cases e:p.1=j
  .rw[Wd e,Wd e,Gs (λz=>c (e.trans z))]
  .rw[Xz e,Xz e,d]
theorem qu(b:List (κ×V))(k j:κ)(y:V):Xq (V2 b k y) j=if j=k then Ga y else Xq b j:=by
 unfold V2;by_cases a:(b.any λc=>decide (c.1=k))=Gi
 .rw[GV a,Km];rw[Jx]at a;by_cases e:j=k
  .obtain⟨x,c⟩:=Mv.mp a;rw[GV e,e,c,D0,GV rfl]
  .rw[Gs e];cases Xq b j with
   |none=>rfl
   |some x=>rw[D0,Gs e]
 .rw[Gs a];refine qz k j y b ?_;rw[Jx]at a;cases q:Xq b k with
  |none=>rfl
  |some x=>rw[q]at a;exact(a Xb).elim
theorem Va(a:List (κ×V))(k:κ)(v:V):(V2 a k v).length<=a.length+1:=by
 unfold V2;split
 .rw[Gv];ext
 .rw[Gk,TB,Lh];ext
theorem Qvt{a:List (κ×V)}{k:κ}(v:V)(h:Xq a k=Gq):V2 a k v=a++[(k,v)]:=by unfold V2;rw[Jx,h];exact Gs (by decide)
theorem Rj.W9{o:Option V}{u:Option Gj}(r:Rj o u):o.isSome=u.isSome:=by
 cases o with
 |none=>cases u with
  |none=>rfl
  |some _=>exact(show False from r).elim
 |some _=>cases u with
  |none=>exact(show False from r).elim
  |some _=>rfl
theorem KV.val{a:List (κ×V)}{g:List (κ×Gj)}(r:KV a g)(k:κ):Rj (Xq a k) (valueAt g k):=by
 unfold KV at r;induction r with
 |nil=>exact DJ
 |@cons p q l d h t j=>
  have(f,i):=h;by_cases e:p.1=k
  .have c:q.1=k:=f.symm.trans e;have b:valueAt (q::d) k=Ga q.2:=by simp[valueAt,DZ,c]
   rw[Wd e,b];exact i
  .have c:¬q.1=k:=λz=>e (f.trans z);have b:valueAt (q::d) k=valueAt d k:=by simp[valueAt,DZ,c]
   rw[Xz e,b];exact j
theorem KV.any{a:List (κ×V)}{c:List (κ×Gj)}(r:KV a c)(k:κ):(a.any λb=>decide (b.1=k))=c.any λb=>decide (b.1=k):=by
 unfold KV at r;induction r with
 |nil=>rfl
 |cons h t d=>rw[NO,NO,d,h.1]
theorem KV.rR{b:List (κ×V)}{d:List (κ×Gj)}(r:KV b d)(k:κ)(i:zu y u):
  KV (b.map λa=>if a.1=k then(a.1,y)else a) (d.map λa=>if a.1=k then(a.1,u)else a):=by
 unfold KV at r⊢;induction r with
 |nil=>exact .nil
 |@cons p q j l h t g=>
  rw[Tp,Tp];refine .cons ?_ g;have(c,f):=h;by_cases e:p.1=k
  .rw[GV e,GV (c.symm.trans e)];exact⟨c,i⟩
  .rw[Gs e,Gs (λz=>e (c.trans z))];exact⟨c,f⟩
theorem KV.put{a:List (κ×V)}{b:List (κ×Gj)}(r:KV a b)(k:κ)(c:zu y u):KV (V2 a k y) (stored b k u):=by
 unfold V2 stored;rw[r.any k];by_cases e:(b.any λd=>decide (d.1=k))=Gi
 .rw[GV e,GV e];exact r.rR k c
 .rw[Gs e,Gs e];exact E2 r ⟨Xb,c⟩
theorem KV.length{a:List (κ×V)}{b:List (κ×Gj)}(r:KV a b):a.length=b.length:=GQ r
end
theorem kh{k:Wi}(r:zu (kV k) u):(Xc P w).is k u=Gi:=by
 cases k with
 |inl i=>have(t,e):=(show∃t,u=FJ i t from r);subst e;exact KO P w i t
 |inr x=>have(t,e):=(show∃t,u=FK x t from r);subst e;exact ZQ P w x t
theorem uC{P:Gn}{w:Tg}:∀{a:List Wi}{b:List Gj},Yg (a.map kV) b->ItemsAre (Xc P w) a b
 |[],_,r=>by rw[Ly]at r;cases r;exact .nil
 |k::a,_,r=>by
  rw[Tp]at r;cases r with
  |cons h t=>exact .cons (kh h) (uC t)
abbrev KT(H:Hp):List (List Wi×V)->List (List Wi×Gd×Gj)->Prop:=Dg λp q=>p.1=q.1/\H q.2.1=Ga (.tup (p.1.map kV))/\zu p.2 q.2.2
theorem KT.val(r:KT H zw xs)(k:List Wi):Rj (Xq zw k) ((atKey xs k).map (·.2)):=by
 induction r with
 |nil=>exact DJ
 |@cons p q i c h t g=>
  have(d,_,f):=h;by_cases e:p.1=k
  .have a:q.1=k:=d.symm.trans e;have b:atKey (q::c) k=Ga q.2:=by simp[atKey,DZ,a]
   rw[Wd e,b];exact f
  .have a:¬q.1=k:=λz=>e (d.trans z);have b:atKey (q::c) k=atKey c k:=by simp[atKey,DZ,a]
   rw[Xz e,b];exact g
theorem KT.rR(r:KT H zw xs)(k:List Wi)(f:zu y u):
  KT H (zw.map λa=>if a.1=k then(a.1,y)else a) (xs.map (putAt k u)):=by
 induction r with
 |nil=>exact .nil
 |@cons p q g i h t d=>
  rw[Tp,Tp];refine .cons ?_ d;have(a,b,c):=h;unfold putAt;by_cases e:p.1=k
  .rw[GV e,GV (a.symm.trans e)];exact⟨a,b,f⟩
  .rw[Gs e,Gs (λz=>e (a.trans z))];exact⟨a,b,c⟩
theorem KT.put(r:KT H zw xs)(k:List Wi)(c:H b=Ga (.tup (k.map kV)))(a:zu y u):
  KT H (V2 zw k y) (storedH xs k b u):=by
 have e:(zw.any λd=>decide (d.1=k))=(atKey xs k).isSome:=by rw[Jx,(r.val k).W9,SA]
 unfold V2 storedH;rw[e];by_cases q:(atKey xs k).isSome=Gi
 .rw[GV q,GV q];exact r.rR k a
 .rw[Gs q,Gs q];exact E2 r ⟨Xb,c,a⟩
theorem KT.keeps(r:KT H zw xs)(ht:∀b a,H b=Ga (.tup a)->H' b=Ga (.tup a)):KT H' zw xs:=
 Qr r λ_ _ z=>{z.1,ht _ _ z.2.1,z.2.2}
section
variable{P:Gn}{w:Tg}{H:Hp}{h:Heap}{a:Gd}
theorem sy{u:HO}(ok:O2 P w H h)(e:Rd H a u):Yj P w H h a u:=e.ok ok
theorem j5{b:List (Wi×V)}(ok:O2 P w H h)(e:Rd H a (.dK b)):b.length<=TH/\(a==Ef)=Gx/\∃c,KV b c/\h.DictOf (Xc P w) a c:=
 show Yj P w H h a (.dK b)from sy ok e
theorem nh{b:List (Wi×V)}(ok:O2 P w H h)(e:H a=Ga (.dK b)):b.length<=TH/\(a==Ef)=Gx/\∃c,KV b c/\h.DictOf (Xc P w) a c:=j5 ok (.inl e)
theorem kQ{c:List Wi}(ok:O2 P w H h)(e:H a=Ga (.tup (c.map kV))):(tupleKind (Xc P w)).is h c a:=by have(_,b,r,o,d,f,n,g):=(show Yj P w H h a (.tup (c.map kV))from ok a _ e);exact{o,b.toArray,n,d,f,g,by simpa using uC r}
theorem lE(ok:O2 P w H h)(e:Rd H a (.dT zw)):zw.length<=TH/\(a==Ef)=Gx/\
  ∃c,KT H zw c/\h.DictOfH (tupleKind (Xc P w)) a c:=by
 have(z,y,c,r,o,g,f,i,j,k,n,s):=(show Yj P w H h a (.dT zw)from sy ok e);refine{z,y,c,r,o,g,f,i,j,k,n,λx b=>?_,s};have all:∀{l:List (List Wi×V)}{m:List (List Wi×Gd×Gj)},KT H l m->∀x∈m,(tupleKind (Xc P w)).is h x.1 x.2.1:=by
  intro l m q;induction q with
  |nil=>intro x b;exact nomatch b
  |@cons p q v A d t u=>
   intro x b;rcases Tf.mp b with e|b
   .subst e;exact kQ ok (by rw[<-d.1];exact d.2.1)
   .exact u x b
 exact all r x b
theorem AS(ok:O2 P w H h)(e:H a=Ga (.dT zw)):zw.length<=TH/\(a==Ef)=Gx/\
  ∃b,KT H zw b/\h.DictOfH (tupleKind (Xc P w)) a b:=lE ok (.inl e)
end
def Vu(H:Hp)(a:Gd)(y:V)(r:Option V):Prop:=
 (∃zw k,Rd H a (.dK zw)/\y=kV k/\r=Xq zw k)\/∃zw k b,Rd H a (.dT zw)/\y=.ref b/\H b=Ga (.tup (k.map kV))/\r=Xq zw k
def Oi(H:Hp)(a:Gd)(y v:V)(H':Hp):Prop:=
 (∃zw k,H a=Ga (.dK zw)/\y=kV k/\zw.length<TH/\H'=zj H a (.dK (V2 zw k v)))\/
 ∃zw k b,H a=Ga (.dT zw)/\y=.ref b/\H b=Ga (.tup (k.map kV))/\zw.length<TH/\H'=zj H a (.dT (V2 zw k v))
theorem Vu.k{H:Hp}{a:Gd}{b:List (Wi×V)}{k:Wi}(e:H a=Ga (.dK b)):Vu H a (kV k) (Xq b k):=.inl {b,k,.inl e,11}
theorem Vu.t{k:List Wi}(e:H a=Ga (.dT zw))(c:H b=Ga (.tup (k.map kV))):Vu H a (.ref b) (Xq zw k):=.inr {zw,k,b,.inl e,1,c,1}
theorem Oi.k{H:Hp}{a:Gd}{b:List (Wi×V)}{k:Wi}{v:V}(e:H a=Ga (.dK b))(c:b.length<TH):Oi H a (kV k) v (zj H a (.dK (V2 b k v))):=.inl ⟨b,k,e,Xb,c,Xb⟩
theorem Oi.t{k:List Wi}{v:V}(e:H a=Ga (.dT zw))(c:H b=Ga (.tup (k.map kV)))(d:zw.length<TH):
  Oi H a (.ref b) v (zj H a (.dT (V2 zw k v))):=.inr ⟨zw,k,b,e,Xb,c,d,Xb⟩
section
variable{X:Cx}{zq:List (Gd×S8)}{σ:St}{H:Hp}{s:Gz}{a:Gd}{y v:V}{u r:Gj}{o:Option V}{A:DT}{E:Gj->Gz->Prop}
theorem zv.big(I:zv X zq σ H s):Ef<s.heap.objs.size:=by have h:Ea<s.heap.objs.size:=(I.mod.glob.keeps I.bk).lt;exact Hg (by decide) h
theorem OD(t:A.units+1<EY)(I:zv X zq σ H s)(g:Vu H a y (Ga v))(n:zu y u)(h:∀f m,zv X zq σ H m->zu v f->Q f m):
  wpAny (TU X.prog X.w) A (getItem (.ref a) u) Q E s:=by
 rcases g with⟨m,k,e,j,l⟩|⟨m,k,b,e,j,o,l⟩
 .subst j;have(z,q,m,c,i):=j5 I.Yc e;have(f,hw,d):=Rj.some_of (v:=v) (o:=valueAt m k) (by rw[l];exact c.val k);exact wpAny_getItem_of (kh n) i.mapOf hw (h f _ (I.tok _) d)
 .subst j;cases(show u=Tk b from n);have(z,q,w,c,i):=lE I.Yc e;have(f,hw,d):=Rj.some_of (v:=v) (o:=(atKey w k).map (·.2)) (by rw[l];exact c.val k);have(p,r,m):=L6.mp hw;refine NZ (Le t) (kQ I.Yc o) i r ?_;rw[m];exact h f _ (I.tok _) d
theorem Pw(p:A.units+1<EY)(I:zv X zq σ H s)(g:Vu H a y o)(m:zu y u)(h:∀j,zv X zq σ H j->Q (.bool o.isSome) j):
  wpAny (TU X.prog X.w) A (Ee .In u (.ref a)) Q E s:=by
 rcases g with⟨j,k,e,f,l⟩|⟨j,k,b,e,f,n,l⟩
 .subst f;have(z,i,j,c,d):=j5 I.Yc e;refine wpAny_in_of (kh m) i d.mapOf ?_;rw[<-(c.val k).W9,<-l];exact h _ (I.tok _)
 .subst f;cases(show u=Tk b from m);have(z,i,j,c,d):=lE I.Yc e;refine CG (Le p) (kQ I.Yc n) i d ?_;have q:=(c.val k).W9;rw[SA]at q;rw[<-q,<-l];exact h _ (I.tok _)
theorem ZE(p:A.units+1<EY)(I:zv X zq σ H s)(g:Vu H a y o)(m:zu y u)(h:∀j,zv X zq σ H j->Q (.bool (!o.isSome)) j):
  wpAny (TU X.prog X.w) A (Ee .NotIn u (.ref a)) Q E s:=by
 rcases g with⟨j,k,e,f,l⟩|⟨j,k,b,e,f,n,l⟩
 .subst f;have(z,i,j,c,d):=j5 I.Yc e;refine wpAny_notIn_of (kh m) i d.mapOf ?_;rw[<-(c.val k).W9,<-l];exact h _ (I.tok _)
 .subst f;cases(show u=Tk b from m);have(z,i,j,c,d):=lE I.Yc e;refine Bj (Le p) (kQ I.Yc n) i d ?_;have q:=(c.val k).W9;rw[SA]at q;rw[<-q,<-l];exact h _ (I.tok _)
theorem R7{c:Heap}{ob:HO}(I:zv X zq σ H s)(g:mQ (H a))(hs:Ew a s.heap c)(f:∃q,c.get? a=Ga q)(d:Yj X.prog X.w (zj H a ob) c a ob):
  zv X zq σ (zj H a ob) {s with heap:=c,toks:=t'}:=
 I.write (x:=a) (e:=a) g (.inl Xb) (λb q e z=>(hs.2 b e).trans z) f d
theorem yM{e:Heap}{b:List (Wi×V)}{d:List (Wi×Gj)}(z:b.length<=TH)(g:(a==Ef)=Gx)(c:KV b d)(f:e.DictOf (Xc P w) a d):
  Yj P w H' e a (.dK b):=⟨z,g,d,c,f⟩
theorem KJ{Q:Unit->Gz->Prop}(N:A.units+1<EY)(I:zv X zq σ H s)(g:Oi H a y v H')(D:zu y u)(C:zu v r)(h:∀l,zv X zq σ H' l->Q () l):
  wpAny (TU X.prog X.w) A (setItem (.ref a) u r) Q E s:=by
 rcases g with⟨d,k,e,o,l,n⟩|⟨d,k,b,e,o,x,l,n⟩
 .subst o n;have(z,p,F,f,m):=nh I.Yc e;have w:F.length<=TH:=by rw[<-f.length];exact z
  have t:(V2 d k v).length<=TH:=by have:=Va d k v;ext
  refine wpAny_setItem_pairs (hsz:=w) (kh D) m λB i hs=>h _ ?_;have l:∃q,B.get? a=Ga q:=let⟨q,_,_,j,_⟩:=i;⟨q,j⟩;exact R7 I (by rw[e];exact DJ) hs l (yM t p (f.put k C) i)
 .subst o n;cases(show u=Tk b from D);have(z,p,O,f,m):=AS I.Yc e;have w:O.length<=TH:=by rw[<-GQ f];exact z
  have t:(V2 d k v).length<=TH:=by have:=Va d k v;ext
  refine Rs (hsz:=w) (Le N) (kQ I.Yc x) m λB i hs=>h _ ?_;have(q,G,F,j,J,K,L,_,M):=i;refine R7 I (by rw[e];exact DJ) hs ⟨q,j⟩ {t,p,_,(f.put k x C).keeps λc P l=>?_,q,G,F,j,J,K,L,M};rw[Qh (Zu l e nofun)];exact l
end
section
variable{X:Cx}{zq:List (Gd×S8)}{σ:St}{H:Hp}{s:Gz}{a:Gd}{zw:List (Wi×V)}{k:Wi}{u:Gj}{A:DT}{E:Gj->Gz->Prop}
theorem YL(I:zv X zq σ H s)(e:Rd H a (.dK zw))(h:∀t b,zv X zq σ H b->Q (.int zw.length t) b):wpAny (TU X.prog X.w) A (call (.builtin "len") [.ref a]) Q E s:=by have(z,d,f,b,c):=j5 I.Yc e;refine call_len_dict d c (by rw[<-b.length];rw[TJ]at z;lia) ?_;rw[<-b.length];exact h _ _ (I.tok _)
end
def AD(i:D4):Prop:=∀ov a,subscripted i Gx ov a=operate [ov,a] (getItem ov a)
theorem Qyg{a:Gn}{A:DT}{E:Gj->Gz->Prop}{j:Bv}{c b:D4}{m:M3}{T id:String}
  (p:typeLookup (.type T) "__getitem__"=pure (Ga (.builtin id)))(hs:AD b)
  (h:wpAny (TU a w) A (eval c j) (λo f=>wpAny (TU a w) A (eval b j) (λi d=>d.TypeIs o T/\wpAny (TU a w) A (getItem o i) Q E d) E f) E s):
  wpAny (TU a w) A (eval (.Subscript c b m) j) Q E s:=by
 refine BJ (ET h (λo f l=>ET l (λi d e=>?_) λ_ _ x=>x) λ_ _ x=>x);have(n,e):=e;unfold subscriptTail;refine Gb ?_;rw[getitemInPython_of_ne n.not_modules];refine Gb (Sd n p ?_);have k:wpAny (TU a w) A (subscripted b Gx o i) (λr g=>wpAny (TU a w) A (letTemporaryGo c o r>>=λ_=>pure r) Q E g) E d:=by rw[hs o i];exact wpAny_operating (ET e (λr g l=>Gb (wpAny_letTemporaryGo (Gm l))) λ_ _ x=>x)
 first
  |exact Gm (Gb k)
  |exact Gb (Gm (Gb k))
  |exact Gb k
theorem Qja{X:Cx}{c:List (Gd×S8)}{h:St}{o:Option V}(I:zv X c h H s)(g:Vu H a y o):s.TypeIs (.ref a) "dict":=by
 rcases g with⟨f,k,e,_,_⟩|⟨f,k,b,e,_,_,_⟩
 .obtain⟨_,_,i,_,d⟩:=j5 I.Yc e;exact d.typeIs
 .obtain⟨_,_,i,_,d⟩:=lE I.Yc e;exact d.typeIs
inductive tK(Q:VK)(x:V)(y:V)(H2:Hp):Prop
 |mk (a:_) (v:_) (h0:x=.ref a) (h1:Vu H2 a y (Ga v)) (h2:Q v H2):tK Q x y H2
def mf(td ty:TE):TE:=λσ H Q=>td σ H λx H1=>ty σ H1 λy H2=>tK Q x y H2
inductive FB(Q:VK)(y:V)(x:V)(H2:Hp):Prop
 |mk (a:_) (o:_) (h0:x=.ref a) (h1:Vu H2 a y o) (h2:Q (.bl o.isSome) H2):FB Q y x H2
def Q73(ty td:TE):TE:=λσ H Q=>ty σ H λy H1=>td σ H1 λx H2=>FB Q y x H2
inductive vg(Q:VK)(y:V)(x:V)(H2:Hp):Prop
 |mk (a:_) (o:_) (h0:x=.ref a) (h1:Vu H2 a y o) (h2:Q (.bl (!o.isSome)) H2):vg Q y x H2
def ZD(ty td:TE):TE:=λσ H Q=>ty σ H λy H1=>td σ H1 λx H2=>vg Q y x H2
inductive tV(D:Ends)(σ:St)(v:V)(x:V)(y:V)(H3:Hp):Prop
 |mk (a:_) (H4:_) (h0:x=.ref a) (h1:Oi H3 a y v H4) (h2:D.nx σ H4):tV D σ v x y H3
def Kj(td ty tv:TE):TS:=λD σ H=>tv σ H λv H1=>td σ H1 λx H2=>ty σ H2 λy a=>tV D σ v x y a
section
variable{X:Cx}{o i e value:D4}{pos pos' tpos:M3}{td ty tv:TE}
theorem Ye(p:X.A.units+1<EY)(n:PE X o td)(hi:PE X i ty)(hs:AD i):PE X (.Subscript o i pos) (mf td ty):=by intro b s e H Q I h;refine Qyg Mg.lookup hs (Xg (n b s e H _ I h) λu z⟨x,f,k,t,q⟩=>Xg (hi b z e f _ k q) λA B⟨y,j,d,w,a,v,m,g,r⟩=>?_);subst m;obtain rfl:u=Tk a:=t;exact{Qja d g,OD p d g w λD C l c=>⟨v,j,l,c,r⟩}
theorem si(n:X.A.units+1<EY)(hi:PE X i ty)(m:PE X o td):PC X .In i o (Q73 ty td):=by intro b s c H Q I h;refine Xg (hi b s c H _ I h) λw v⟨y,d,f,t,p⟩=>Xg (m b v c d _ f p) λu z⟨x,e,j,r,a,ov,l,g,q⟩=>?_;subst l;obtain rfl:u=Tk a:=r;exact Pw n j g t λA k=>{.bl ov.isSome,e,k,1,q}
theorem OU(n:X.A.units+1<EY)(hi:PE X i ty)(m:PE X o td):PC X .NotIn i o (ZD ty td):=by intro b s c H Q I h;refine Xg (hi b s c H _ I h) λw v⟨y,d,f,t,p⟩=>Xg (m b v c d _ f p) λu z⟨x,e,j,r,a,ov,l,g,q⟩=>?_;subst l;obtain rfl:u=Tk a:=r;exact ZE n j g t λA k=>{.bl (!ov.isSome),e,k,1,q}
theorem Vt(q:X.A.units+1<EY)(p:PE X o td)(hi:PE X i ty)(t:PE X value tv)(hs:swapsWith value (Ga (.Subscript o i pos')) pos.line X.env=pure Gx):
  PS X (.Assign [.Subscript o i pos'] value pos) (Kj td ty tv):=by
 intro b s c H D I h;refine wpAny_Assign_Subscript (Xg (t b s c H _ I h) λr F⟨v,d,j,B,w⟩=>Xg (p b F c d _ j w) λu G⟨x,e,k,C,z⟩=>Xg (hi b G c e _ k z) λK L⟨y,J,l,E,a,f,n,g,A⟩=>?_) hs;subst n;obtain rfl:u=Tk a:=C;exact KJ q l g E B λs4 m=>⟨c,f,m,A⟩
end
theorem PM(h:Heap)(a:Ef<h.objs.size):Yj P w H (h.push {cls:=.type "dict",data:=.dict #[]}) h.objs.size (.dK []):=
 {Tu _,EK.mpr (Ta (T2 a)),[],.nil,JS h}
theorem Qt9(h:Heap)(a:Ef<h.objs.size):Yj P w H (h.push {cls:=.type "dict",data:=.dict #[]}) h.objs.size (.dT []):=
 {Tu _,EK.mpr (Ta (T2 a)),[],.nil,_,#[],(0),To _ Xb,⟨Xb,Xb,Xb⟩,11,SV}
def ZU:TE:=λ_ H Q=>∀p,H p=Gq->Q (.ref p) (zj H p (.dK []))
def QW:TE:=λ_ H Q=>∀p,H p=Gq->Q (.ref p) (zj H p (.dT []))
section
variable{X:Cx}{pos:M3}
theorem Jt:PE X (.Dict [] [] pos) ZU:=λa s b H Q I h=>MI {.ref s.heap.objs.size,_,I.laid (a:=s.heap.objs.size) (o:=.dK []) (t':=s.toks) (λ_ _ q=>Gp _ q) (GJ _) (PM s.heap I.big),1,h _ (I.Yc.fresh (GJ _))}
theorem nV:PE X (.Dict [] [] pos) QW:=λa s b H Q I h=>MI {.ref s.heap.objs.size,_,I.laid (a:=s.heap.objs.size) (o:=.dT []) (t':=s.toks) (λ_ _ q=>Gp _ q) (GJ _) (Qt9 s.heap I.big),1,h _ (I.Yc.fresh (GJ _))}
end
structure M2(X:Cx)(o:D4)(m:TQ)(apos:M3)(e f:D4)(cpos:M3):Prop where
 base:attributeBase o m X.env (eval o X.env)=eval o X.env
 few:((Sf cpos (T4 [e,f] X.env)).all (λx=>!x.1)&&(backToKw cpos (keywordEach [] X.env)).all (λx=>x.1.isSome)
  &&decide (([e,f]:List D4).length+([]:List RO).length+(if([]:List RO).isEmpty then 0 else 1)<30))=Gi
 line:(apos.endLine==cpos.line)=Gi
 trees:Sf cpos (T4 [e,f] X.env)=[(Gx,eval e X.env),(Gx,eval f X.env)]
end L2
namespace Att
open PySem PySem.W PySem.Calls PyProof.Rows
theorem Qc1{P:C7}{h:Heap}:∀(c:List Int)(d:List Gj),WellAll P h d (c.map JL)->MY d c:=by
 intro c;induction c with
 |nil=>intro d w;rw[Ly]at w;cases w;exact .nil
 |cons n c e=>
  intro d w;rw[Tp]at w;cases w with
  |cons a b=>cases a;exact .cons _ _ (e _ b)
theorem Qq6{l:C5}{n:Nat}(u:l.most=Ga n){P:C7}{h:Heap}{args:List WData}{e:List Gj}
  (c:l.row.toRowW.claim.pre args=Gi)(k:WellAll P h e args):
  ∃a o b,e=[Tk a]/\args=[WData.list (b.map JL)]/\h.get? a=Ga {cls:=.type "list",data:=.seq o.toArray}/\MY o b/\b.length<=n:=by
 have j:WShape.hasAll [] args [.list .int]=Gi:=(IK c).1;have m:l.pre.holds [] {args:=args}=Gi:=(IK c).2;have(d,r,rfl,p,s):=hasAllW_cons j;obtain rfl:=hasAllW_nil s;have(x,rfl,t):=hasW_list p;have(b,rfl):=items_int t;have g:b.length<=n:=by
  unfold Ac at m;have f:(WTm.not (.lt (.lit (.int (n:Int))) (.len (.arg 0)))).holds [] {args:=[.list (b.map .int)]}=Gi:=by have f:=(holds_andW m).1;rw[u]at f;exact f
  have i:=condW_of f (w_not (w_lt w_lit (w_len_list (w_arg Xb))));rw[Gv]at i;refine Bk λq=>?_;have v:(n:Int)<((b.length:Nat):Int):=by ext
  first
   |(rw[Ti v]at i;exact absurd i (by decide))
   |(simp at i;ext)
 cases k with
 |cons v w=>
  cases w;cases v with
  |list i f=>exact{2,b,11,i,Qc1 b _ f,g}
theorem WZ(l:C5)(args:List WData):l.row.toRowW.claim.post args (.bool Gi) args=Gi:=
 postW_of (r:=l.row.toRowW) (X:=(Gi==Gi))
  (show IL [] (.bool Gi) .bool=Gi by first|rfl|decide|simp[IL,WShape.arms,WShape.armsAll])
  (show(WTm.eq .res (.lit (.bool Gi))).value [] {args:=args,res:=Ga (.bool Gi),after:=args}=Ga (.bool (Gi==Gi))from w_eq_bool (w_res Xb) w_lit) rfl
theorem Qjl{l:C5}{n:Nat}{q:Gn}{c:List TQ}{B:(TQ->Option Gj)->Heap->Prop}{C:Tg->Heap->Prop}{d:C6}
  (Q:l.most=Ga n)(v:d.params.defaults=[])
  (call:∀(w:Tg)(s₀ b:Gz)(s z:TQ->Option Gj)(i:Gd)(o:S8)(A p e:Gj)(a:Gd)(h:List Gj)(t:List Int),
   Ground q c [] B w s₀ s z b.heap->C w b.heap->
   b.heap.get? i=Ga o->o.data=.func (docDef d.name d.params d.body d.scope A p e)->b.heap.CodeRec p d.name->s d.name=Ga (.ref i)->
   b.heap.get? a=Ga {cls:=.type "list",data:=.seq h.toArray}->MY h t->t.length<=n->b.gens=#[]->
   codeAny (TU l.prog w) callerA (.call (.ref i) {[.ref a],[]}) (λr s'=>r=.ok (.ret (.bool Gi))/\OldK b.heap s'.heap/\s'.os=b.os/\Mm s'.gens) b):
  WalkO q c B C l.row.toRowW d [] (λf h=>ML f h):=by
 intro w s₀ b s z G Y i o A p e I kV R M u E x N D H U m F T y O;obtain rfl:I=.none:=Dflts.none E v;obtain rfl:kV=.none:=Dflts.noKw E;have(a,h,t,rfl,rfl,k,g,j):=Qq6 Q m y;refine enter_call (MU (call w s₀ b s z i o A p e a h t G Y R (fd_plain M) u x k g j N) λr s' S=>?_);have(rfl,J,K,L):=S;exact{.inl {.bool Gi,.bool Gi,[],1,λ_=>rfl,.bool Gi,WZ l _,λ_=>{IX,λ_ P=>(nomatch P)}},J,K,L}
end Att
namespace L2
open PySem PySem.Spec PyProof.Rows
variable{k:Nat}{fd:Do}{x qual:TQ}{st:DR}{f:Gd}{A B:Prop}{H:Hp}
theorem yk:∀{b:List Gj}{a:List Int},MY b a->Yg (a.map V.int) b
 |_,_,.nil=>.nil
 |_,_,.cons n t h=>.cons ⟨t,Xb⟩ (yk h)
def qx(H:Hp):Prop:=∀b,H b=Gq\/∃o xs,H b=Ga (.frz o (.lst xs))
theorem OR{P:Gn}{w:Tg}{K:Gf}{p I:TQ->Option Gj}{J:iN}{E a:Gd}{X:Sp}{e:Gz}{j:List Gj}{t:List Int}
  (KX:K.In e.heap)(U:e.heap.Ns Ea p)(h:e.heap.Ns builtinsNs I)(ab:∀x:TQ,x≠"__name__"->I x=bootBuiltins x)(ad:e.heap.NoLimit)(hg:e.gens=#[])
  (A:e.heap.get? a=Ga {cls:=.type "list",data:=.seq j.toArray})(hi:MY j t)(T:t.length<=TH)(hr:Yl k callerA)
  (F:∀C:Heap,K.In C->C.Ns Ea p->Q3 P w K p C J k E fd [x] X)(ac:∀(s:Gz)(u:Gj),RM s fd {[u],[]} [(x,u)])
  (af:∀c:Hp,qx c->Uw K c a (t.map V.int)->X [.ref a] c (λv _=>v=.bl Gi) λ_ _ _=>False)
  (aa:∀c f i,J [] c e (λ_ _ _=>False) f i->False):
  codeAny (TU P w) callerA (.call (.ref E) {[.ref a],[]}) (λr i=>r=.ok (.ret (.bool Gi))/\OldK e.heap i.heap/\i.os=e.os/\Mm i.gens) e:=by
 have W:=yk hi;have ag:=hi.length;have N:∀c:Hp,qx c->Uw K c a (t.map V.int)->O2 P w c e.heap->(∀b,c b≠Gq->b=a)->(c a≠Gq->K.lookup a=Gq)->
   codeAny (TU P w) callerA (.call (.ref E) {[.ref a],[]}) (λr i=>r=.ok (.ret (.bool Gi))/\OldK e.heap i.heap/\i.os=e.os/\Mm i.gens) e:=by
  intro c S hS L Q hK;have M:∀{b:Gd}{g:S8},e.heap.get? b=Ga g->c b=Gq->(jg e.heap c).get? b=Ga g:=λf n=>UH f n;have ah:∀{b:Gd}{g:S8}{m:Array Lz}{l:Nat},e.heap.get? b=Ga g->g.data=.dict m l->c b=Gq:=λ{b g m l}f d=>by
   cases q:c b with
   |none=>rfl
   |some u=>have D:b=a:=Q b (by rw[q];simp);subst D;rw[A]at f;cases f;have Z:JY j.toArray _=Data.dict m l:=d;cases Z
  have B:∀{b:Gd}{H:TQ->Option Gj},e.heap.Ns b H->(jg e.heap c).Ns b H:=λ{b H}⟨g,m,l,f,d,r⟩=>{g,m,l,M f (ah f d),d,r};have R:K.In (jg e.heap c):=λb g f=>M (KX b g f) (by
   cases q:c b with
   |none=>rfl
   |some u=>have D:b=a:=Q b (by rw[q];simp);subst D;rw[hK (by rw[q];simp)]at f;cases f)
  have hM:Mod K p (jg e.heap c):={R,B U,{I,B h,ab},let⟨mc,h1,h2⟩:=ad;{mc,B h1,h2}};have e0:jM P w K p (jg e.heap c) callerA [] e c:={1,hM,λb g f=>QB f,FH (ZA _ _),trivial,λb h=>absurd (show b∈([]:List Gd)from h) (by simp),L,.of_eq hg};refine MU ((F _ R (B U)).run callerA [] e c {[.ref a],[]} [.ref a] [.ref a] _ _ hr e0 (ac e (.ref a)) (.cons rfl .nil) (af c S hS)) λr i o=>?_;cases r with
  |error f=>exact(aa c f i o).elim
  |ok fl=>
   cases fl with
   |next=>exact False.elim o
   |brk=>exact False.elim o
   |cont=>exact False.elim o
   |ret u=>
    have(v,H',os,Y,un,ae,r',q):=o;have q':v=.bl Gi:=q;subst q';obtain rfl:u=La Gi:=r';refine{1,OldK.of_keep λb g f=>?_,os,Y};cases q:c b with
    |none=>exact un.keep b g f q (by intro z;exact absurd (show b∈([]:List Gd)from z) (by simp)) (by simp)
    |some u=>
     rcases S b with z|⟨ob,xs,z⟩
     .rw[q]at z;cases z
     .have z2:=un.Qat b ob _ z;have(O,_):=L b _ z;have(e2,_):=ae b _ z2;rw[f]at O;cases O;exact e2
 cases G:K.lookup a with
 |some g=>have f:=KX a g G;rw[A]at f;cases f;refine N (λ_=>Gq) (λ_=>.inl Xb) (.inr {_,j.toArray,_,G,111,by rw[Tq,ag];exact T,by simpa using W}) (λb u z=>by have y:(Gq:Option HO)=Ga u:=z;cases y) (λb z=>absurd rfl z) λz=>absurd rfl z
 |none=>
  refine N (λb=>if b=a then Ga (.frz {cls:=.type "list",data:=.seq j.toArray} (.lst (t.map V.int)))else Gq) (λb=>?_) (.inl (.inr {{cls:=.type "list",data:=.seq j.toArray},GV Xb})) (λb u z=>?_) (λb z=>?_) λ_=>G
  .by_cases h:b=a
   .exact .inr {2,GV h}
   .exact .inl (Gs h)
  .by_cases h:b=a
   .have y:=(GV h).symm.trans z;cases y;subst h;exact{A,by rw[Gv];exact T,j,_,W,A}
   .have y:=(Gs h).symm.trans z;cases y
  .by_cases h:b=a
   .exact h
   .exact absurd (Gs h) z
theorem VO{l:M8}{n:Nat}{q:Gn}{i:List TQ}{L:(TQ->Option Gj)->Heap->Prop}{I:Tg->Heap->Prop}{d:C6}{K:C7->Gf}{CX:Tg->iN}{sp:Tg->Sp}
  (S:l.most=Ga n)(C:n<=TH)(A:d.params.defaults=[])(T:Yl k callerA)
  (O:∀(w:Tg)(h:Heap),I w h->(K w.params).In h)
  (F:∀(w:Tg)(j:TQ->Option Gj)(r:Gd)(h:Heap),(K w.params).In h->h.Ns Ea j->j d.name=Ga (.ref r)->
   ∃y:Do,(∀(s:Gz)(u:Gj),RM s y {[u],[]} [(x,u)])/\
    ∀b:Heap,(K w.params).In b->b.Ns Ea j->Q3 l.prog w (K w.params) j b (CX w) k r y [x] (sp w))
  (D:∀(w:Tg)(H:Hp)(a:Gd)(t:List Int),t.length<=n->qx H->Uw (K w.params) H a (t.map V.int)->sp w [.ref a] H (λv _=>v=.bl Gi) λ_ _ _=>False)
  (z:∀(w:Tg)(H:Hp)(s:Gz)(e:Gj)(E:Gz),CX w [] H s (λ_ _ _=>False) e E->False):
  CH q i L I l.row.toRowW d [] (λf J=>ML f J):=by
 refine Att.Qjl S A λw b p j Z r o pm U M a J t G Y X W Q B m g c R=>?_;have KX:=O w _ Y;have(y,P,N):=F w j r _ KX G.T.g B;exact OR KX G.T.g G.T.b G.T.builtins G.T.nolimit R m g (DA c C) T N P (λH b o=>D w H a t c b o) λH e E=>z w H p e E
abbrev Ya:iN:=λ_ _ _ _ _ _=>False
abbrev E0:XK:=λ_ _ _=>False
theorem Q5{X:Cx}:Rx Ya X E0:=λ_ _ _ _ _ _ _ h=>h.elim
structure Wg(K:Gf)(x qual:TQ)(st:DR)(f:Gd)(fd:Do):Prop where
 ex:∃(oc:Gj)(od:Option Gd)(kV doc pm:Gj)(an:Option Gd)(cdv ct:Gj)(osl:Array (Option Gj)),
  fd=Ev x qual (Vk st) (Zs st) (Qo st) .none kV doc pm an cdv ct/\K.lookup f=Ga {oc,od,.func fd,osl}/\FM K cdv qual=Gi
 kp:DY K (.ref f)=Gi
section
variable{P:Gn}{w:Tg}{K:Gf}{mg:TQ->Option Gj}{base:Heap}
theorem Wg.ok{N j:List TQ}{l:Sp}(F:Wg K x qual st f fd)(S:Q8 N j (Qo st))(i:∀d H Q E,l d H Q E->d.length=j.length)
  (c:∀(b:Gj)(A:DT)(a:List Bv)(s:Gz)(H:Hp)(d:List V)(Q:VK)(E:XK),Yl k (A.deeper (envOfC qual (Qo st) s.heap.objs.size f b))->l d H Q E->
   ∃t,W0 (jF Ya P w K mg base N qual (Qo st) f b A a s H E).nox (Zs st) t/\t {nx:=λ_ H'=>Q .non H',rt:=Q} (start N d) H):Q3 P w K mg base Ya (k+1) f fd j l:=by
 have(v,y,kV,m,z,r,b,u,p,rfl,o,e):=F.ex;refine Q69 o e S i λA a s H d Q E n g=>?_;have(t,h,q):=c b A a s H d Q E n g;exact{t,h.nox,q}
theorem Wg.binds{e:List TQ}(F:Wg K x qual st f fd)
  (h:∀(kV b d:Gj)(c:Option Gd)(a ct:Gj)(g:List Gj),g.length=e.length->bindArgs (Ev x qual (Vk st) (Zs st) (Qo st) .none kV b d c a ct) {g,[]}=pure (e.zip g)):zk K fd e []:=by
 have(k,l,kV,b,d,c,a,ct,i,rfl,j,g):=F.ex;exact .all (h kV b d c a ct)
theorem xV{h:Gj}{i e:Option Gd}{d:Array (Option Gj)}{kV b g a ct:Gj}(l:K.lookup f=Ga {h,i,.func (Ev x qual (Vk st) (Zs st) (Qo st) .none kV b g e a ct),d})
  (c:FM K a qual=Gi)(k:DY K (.ref f)=Gi):Wg K x qual st f (Ev x qual (Vk st) (Zs st) (Qo st) .none kV b g e a ct):={⟨h,i,kV,b,g,e,a,ct,d,Xb,l,c⟩,k}
end
theorem Jw{A:DT}(a:Yl k A):A.units+1<EY:=Sj (Nat.add_le_add_left (by decide:1<=64) _) a.units
section
variable{X:Cx}
theorem pv(i:Nat){b:M3}(c:X.N[i]?=Ga x:=by rfl)(e:px X.env.scope x:=by infer_instance)(d:(x==("__debug__":TQ))=Gx:=by decide)
  (a:(x==("__classdict__":TQ))=Gx:=by decide):PE X (.Name x b) (Ul i):=KR c e d a
theorem Q4(h:B):if Gx=Gi then A else B:=by rw[Gs TD];exact h
theorem Yp(h:A):if Gi=Gi then A else B:=by rw[GV rfl];exact h
theorem Uu{c:Prop}[Decidable c](a:c->A)(b:¬c->B):if c then A else B:=by
 by_cases h:c
 .rw[GV h];exact a h
 .rw[Gs h];exact b h
theorem kq{c:Prop}[Decidable c](a:c)(h:B):if(!decide c)=Gi then A else B:=by rw[Ti a];exact Q4 h
def Q9(H H':Hp):Prop:=∀b o,H b=Ga o->H' b=Ga o
theorem Q9.trans{d e:Hp}(a:Q9 H d)(b:Q9 d e):Q9 H e:=λc o h=>b c o (a c o h)
theorem Q9.free{a:Hp}(e:Q9 H a){l:Gd}(h:a l=HL):H l=HL:=by
 cases q:H l with
 |none=>rfl
 |some o=>rw[e l o q]at h;cases h
theorem Q9.seq{K:Gf}{b:Hp}{a:Gd}{c:List V}(e:Q9 H b)(h:Uw K H a c):Uw K b a c:=by
 rcases h with(h|⟨o,h⟩)|h
 .exact .inl (.inl (e _ _ h))
 .exact .inl (.inr {o,e _ _ h})
 .exact .inr h
theorem Qsx:Ur X (.builtin "len") (λxs H Q=>∃a b,xs=[V.ref a]/\H a=Ga (.dK b)/\Q (.int b.length) H):=by intro c s j H xs i Q I r h;have(a,b,rfl,e,q):=h;have(u,rfl,f):=vals1 r;cases f;exact YL I (.inl e) λt g d=>{.int b.length,H,d,⟨t,Xb⟩,q}
end
end L2
namespace Sb
inductive jA{a:Type}(p:a->Prop):Prop|mk a1:p a1->jA p
inductive kg{a b:Type}(p:a->b->Prop):Prop|mk a1 b1:p a1 b1->kg p
inductive kL{a b c:Type}(p:a->b->c->Prop):Prop|mk a1 b1 c1:p a1 b1 c1->kL p
inductive iC{a b c d:Type}(p:a->b->c->d->Prop):Prop|mk a1 b1 c1 d1:p a1 b1 c1 d1->iC p
inductive iK{a b c d e:Type}(p:a->b->c->d->e->Prop):Prop|mk a1 b1 c1 d1 e1:p a1 b1 c1 d1 e1->iK p
inductive i0{a b c d e f:Type}(p:a->b->c->d->e->f->Prop):Prop|mk a1 b1 c1 d1 e1 f1:p a1 b1 c1 d1 e1 f1->i0 p
inductive xH{a b c d e f g:Type}(p:a->b->c->d->e->f->g->Prop):Prop|mk a1 b1 c1 d1 e1 f1 g1:p a1 b1 c1 d1 e1 f1 g1->xH p
inductive oU{a b c d e f g h:Type}(p:a->b->c->d->e->f->g->h->Prop):Prop|mk a1 b1 c1 d1 e1 f1 g1 h1:p a1 b1 c1 d1 e1 f1 g1 h1->oU p
inductive qK{a b c d e f g h i:Type}(p:a->b->c->d->e->f->g->h->i->Prop):Prop|mk a1 b1 c1 d1 e1 f1 g1 h1 i1:p a1 b1 c1 d1 e1 f1 g1 h1 i1->qK p
inductive Ad{a b c d e f g h i j:Type}(p:a->b->c->d->e->f->g->h->i->j->Prop):Prop|mk a1 b1 c1 d1 e1 f1 g1 h1 i1 j1:p a1 b1 c1 d1 e1 f1 g1 h1 i1 j1->Ad p
inductive qX{a b c d e f g h i j k l m:Type}(p:a->b->c->d->e->f->g->h->i->j->k->l->m->Prop):Prop|mk a1 b1 c1 d1 e1 f1 g1 h1 i1 j1 k1 l1 m1:p a1 b1 c1 d1 e1 f1 g1 h1 i1 j1 k1 l1 m1->qX p
inductive nK(a b:Prop):Prop|mk:a->b->nK a b
inductive mJ(a b c:Prop):Prop|mk:a->b->c->mJ a b c
inductive jQ(a b c d:Prop):Prop|mk:a->b->c->d->jQ a b c d
inductive jn(a b c d e:Prop):Prop|mk:a->b->c->d->e->jn a b c d e
inductive mV(a b c d e f:Prop):Prop|mk:a->b->c->d->e->f->mV a b c d e f
inductive jC(a b c d e f g:Prop):Prop|mk:a->b->c->d->e->f->g->jC a b c d e f g
inductive ir(a b c d e f g h:Prop):Prop|mk:a->b->c->d->e->f->g->h->ir a b c d e f g h
inductive mz(a b c d e f g h i:Prop):Prop|mk:a->b->c->d->e->f->g->h->i->mz a b c d e f g h i
inductive qa(a b c d e f g h i j k l:Prop):Prop|mk:a->b->c->d->e->f->g->h->i->j->k->l->qa a b c d e f g h i j k l
inductive lr(a b c d e f g h i j k l m n:Prop):Prop|mk:a->b->c->d->e->f->g->h->i->j->k->l->m->n->lr a b c d e f g h i j k l m n
inductive rZ(a b c d e f g h i j k l m n o:Prop):Prop|mk:a->b->c->d->e->f->g->h->i->j->k->l->m->n->o->rZ a b c d e f g h i j k l m n o
theorem hid{G:Prop}(f:(g:Prop)->(G->g)->g):G:=f G id
end Sb
namespace L2
open PySem PySem.Spec PyProof.Rows
variable{env:Bv}{scope:ME}{X:Cx}{zq:List (Gd×S8)}{σ:St}{H:Hp}{own:List TQ}{fv:List (Nat×TQ)}{K:Gf}
noncomputable def ccx(X:Cx)(N:List TQ)(scope:ME)(a:List (TQ×Gd))(C:Gd)(fp:List Gd)(s:Gz)(H:Hp):Cx where
 prog:=X.prog
 w:=X.w
 K:=X.K
 mg:=X.mg
 base:=X.base
 A:=X.A
 N:=N
 s₀:=s
 H₀:=H
 env:=compEnvC scope a C X.env
 outer:=X.stack
 stack:=X.stack
 ex:=fp
 calm:=X.calm
 fn:=λ_=>Gx
 pn:=[]
 xe:=λ_ _=>False
inductive FV(X:Cx)(scope:ME):List (Nat×TQ)->Prop
 |nil:FV X scope []
 |cons {j:Nat} {x:TQ} {r:List (Nat×TQ)}:X.N[j]?=Ga x->(X.env.scope.names.lookup x=Ga .cell\/X.env.scope.names.lookup x=Ga .free)->scope.names.lookup x=Ga .free->FV X scope r->FV X scope ((j,x)::r)
theorem FV.get{X:Cx}{scope:ME}:∀{d:List (Nat×TQ)}{k j:Nat}{x:TQ},FV X scope d->d[k]?=Ga (j,x)->
  X.N[j]?=Ga x/\(X.env.scope.names.lookup x=Ga .cell\/X.env.scope.names.lookup x=Ga .free)/\scope.names.lookup x=Ga .free
 |_,_,_,_,.nil,e=>by simp at e
 |_,0,_,_,.cons a b c _,e=>by simp at e;have(rfl,rfl):=e;exact⟨a,b,c⟩
 |_,k+1,_,_,.cons _ _ _ r,e=>FV.get (k:=k) r (by simpa using e)
theorem Uq{env:Bv}:∀{names:List (TQ×Fn)}{x:TQ},names.lookup x=Ga .free->
  (names.map λ(n,k)=>if(k==Dz&&env.scope.kind==.function&&env.kindOf n==Ga .cell)then(n,Mw)else(n,k)).lookup x=Ga .cell\/
  (names.map λ(n,k)=>if(k==Dz&&env.scope.kind==.function&&env.kindOf n==Ga .cell)then(n,Mw)else(n,k)).lookup x=Ga .free
 |[],_,h=>by simp at h
 |(n,k)::r,x,h=>by
  have b:=@Uq env r x;rw[Tp];dsimp only;cases hx:x==n with
  |true=>
   simp only[DP,hx]at h;cases h;by_cases a:(Dz==Dz&&env.scope.kind==.function&&env.kindOf n==Ga .cell)=Gi
   .left;rw[GV a];simp only[DP,hx]
   .right;rw[Gs a];simp only[DP,hx]
  |false=>
   simp only[DP,hx]at h;by_cases a:(k==Dz&&env.scope.kind==.function&&env.kindOf n==Ga .cell)=Gi
   .rw[GV a];simp only[DP,hx];exact b h
   .rw[Gs a];simp only[DP,hx];exact b h
theorem Jp{env:Bv}:∀{names:List (TQ×Fn)}{x:TQ},
  ((names.map λ(n,k)=>if(k==Dz&&env.scope.kind==.function&&env.kindOf n==Ga .cell)then(n,Mw)else(n,k)).lookup x=Ga .cell\/
  (names.map λ(n,k)=>if(k==Dz&&env.scope.kind==.function&&env.kindOf n==Ga .cell)then(n,Mw)else(n,k)).lookup x=Ga .free)->
  names.lookup x=Ga .cell\/names.lookup x=Ga .free
 |[],_,h=>by simp at h
 |(n,k)::r,x,h=>by
  have c:=@Jp env r x;rw[Tp]at h;dsimp only at h;cases hx:x==n with
  |true=>
   by_cases a:(k==Dz&&env.scope.kind==.function&&env.kindOf n==Ga .cell)=Gi
   .right;have d:(k==Dz)=Gi:=(EZ.mp (EZ.mp a).1).1;have b:k=.free:=by simpa using d
    simp only[DP,hx,b]
   .rw[Gs a]at h;simp only[DP,hx]at h⊢;exact h
  |false=>
   by_cases a:(k==Dz&&env.scope.kind==.function&&env.kindOf n==Ga .cell)=Gi
   .rw[GV a]at h;simp only[DP,hx]at h⊢;exact c h
   .rw[Gs a]at h;simp only[DP,hx]at h⊢;exact c h
theorem QD(names:List (TQ×Fn))(b:List (TQ×Gd))(j:∀x,(x,Dz)∈names->∃c,env.cells.lookup x=Ga c)(l:∀x c,b.lookup x=Ga c->env.cells.lookup x=Ga c):
  ∃f:List (TQ×Gd),(forIn names b (λ(x:TQ×Fn)(b:List (TQ×Gd))=>if x.2==Dz then(cellOf env x.1>>=λc=>pure (Se ((x.1,c)::b)))else pure (Se b)):J8 (List (TQ×Gd)))=pure f/\
   (∀x c,f.lookup x=Ga c->env.cells.lookup x=Ga c)/\(∀x,(∃c,b.lookup x=Ga c)\/(x,Dz)∈names->∃c,f.lookup x=Ga c):=by
 induction names generalizing b with
 |nil=>exact{b,1,l,λx h=>h.elim id λz=>nomatch z}
 |cons p r s=>
  have(n,k):=p;rw[LQ];by_cases m:k=.free
  .subst m;have(c,o):=j n Tc;have e:cellOf env n=pure c:=by unfold cellOf;rw[o]
   have(f,g,h,i):=s ((n,c)::b) (λx a=>j x (Gr _ a)) (λx d a=>by
    rw[DP]at a;cases q:x==n with
    |true=>
     rw[q]at a;have t:x=n:=by simpa using q
     rw[t,o];exact a
    |false=>rw[q]at a;exact l x d a)
   refine{f,?_,h,λx a=>i x ?_}
   .simp only[LA,Mo,e,pure_bind];exact g
   .rcases a with⟨d,t⟩|a
    .left;rw[DP];cases q:x==n with
     |true=>exact{40}
     |false=>exact⟨d,t⟩
    .rcases Tf.mp a with z|z
     .left;have:x=n:=congrArg Prod.fst z;subst this;exact{c,by simp[DP]}
     .exact .inr z
  .have e:(k==Dz)=Gx:=by simpa using m
   have(f,g,h,i):=s b (λx a=>j x (Gr _ a)) l;refine{f,?_,h,λx a=>i x ?_}
   .simp only[e,DK,EB,pure_bind];exact g
   .rcases a with z|z
    .exact .inl z
    .rcases Tf.mp z with z|z
     .exact absurd (congrArg Prod.snd z).symm m
     .exact .inr z
theorem UV(i:∀x,(x,Dz)∈scope.names->∃c,env.cells.lookup x=Ga c):
  ∃a:List (TQ×Gd),closureFor scope env=pure a/\(∀x c,a.lookup x=Ga c->env.cells.lookup x=Ga c)/\(∀x,(x,Dz)∈scope.names->∃c,a.lookup x=Ga c):=by
 have(a,d,f,g):=QD (env:=env) scope.names [] i (λx c h=>by simp at h);refine{a,?_,f,λx j=>g x (.inr j)};have e:closureFor scope env=((forIn scope.names ([]:List (TQ×Gd)) (λ(x:TQ×Fn)(b:List (TQ×Gd))=>if x.2==Dz then(cellOf env x.1>>=λc=>pure (Se ((x.1,c)::b)))else pure (Se b)):J8 (List (TQ×Gd)))>>=λb=>pure b):=rfl;rw[e,d];rfl
noncomputable def Ig(n:Nat)(a:List (Nat×TQ))(σ:St):St:=DW n Gq++a.map λq=>(σ[q.1]?).join
theorem XI{s:Gz}{A:List (TQ×Gd)}{B:List Gd}{o:Heap}{ob:S8}{J:TQ->Option Gj}{t':Nat}
  (d:zv X zq σ H s)(P:scope.kind=.function)(F:FV X scope fv)(l:∀x c,A.lookup x=Ga c->X.env.cells.lookup x=Ga c)(E:∀x,(x,Dz)∈scope.names->∃c,A.lookup x=Ga c)
  (T:∀y∈scope.names,y.2≠.cell)(t:∀b∈B,ix X zq H b)(R:∀b∈B,b<s.heap.objs.size)
  (S:o.Ns s.heap.objs.size J)(V:Ew s.heap.objs.size (s.heap.push ob) o):
  zv (ccx X (own++fv.map (·.2)) scope A s.heap.objs.size B s H) [] (Ig own.length fv σ) H {s with heap:=o,toks:=t'}:=by
 have w:∀b u,s.heap.get? b=Ga u->o.get? b=Ga u:=λb u e=>(V.2 b (T2 (Tn e))).trans (Gp _ e);have N:∀x,(scope.names.lookup x=Ga .cell\/scope.names.lookup x=Ga .free)->(x,Dz)∈scope.names:=λx g=>by
  rcases g with g|g
  .exact absurd rfl (T _ (Eo g))
  .exact Eo g
 exists ⟨d.ok.mod,P,d.ok.glob,d.ok.blt,GJ _,λx y c f a=>d.ok.inj x y c (l x c f) (l y c a),λx g=>E x (N x (Jp (env:=X.env) g)),λ_ _ g _=>(TD g).elim,
   d.ok.hd,d.ok.frames,.inl Xb,λb h=>{T2 (R b h),λx c e=>(t b h).2.2.2.2.1 x c (l x c e)},d.bs,DA d.ok.bsz d.sz,λb n e h=>?_,λb h O=>?_,d.stack,d.AF⟩,
  Xb,d.bare,Un.kept w,{J,S,λi x k f a e3=>?_},λx c e=>?_,d.Yc.fresh (GJ _),λx c e=>d.I8 x c (l x c e),λp U=>absurd (show p∈([]:List (Gd×S8))from U) (by simp),d.Yc.kept w
 .rcases(t b h).2.2.2.1 with z|z
  .exact d.ok.Qwu b n e z
  .exact absurd (TZ (Tn e) (DA d.ok.bsz z)) (EF _)
 .rcases Tf.mp (d.oH b O)with z|z
  .exact(t b h).2.1 z
  .exact(t b h).2.2.1 z
 .have f:(own++fv.map (·.2))[i]?=Ga x:=f;by_cases hi:i<own.length
  .have a:(Ig own.length fv σ)[i]?=Ga (Ga k):=a;unfold Ig at a;rw[Tt (by simpa using hi),MF]at a;split at a<;>cases a
  .have a:(Ig own.length fv σ)[i]?=Ga (Ga k):=a;unfold Ig at a;rw[TR (by simpa using hi),Ss,Ts]at a;rw[TR (by lia),Ts]at f;cases q:fv[i - own.length]? with
   |none=>rw[q]at f;cases f
   |some p=>
    have(j,y):=p;rw[q]at f a;have f:Ga y=Ga x:=f;cases f;have a:Ga (σ[j]?).join=Ga (Ga k):=a;have a:=T3 a;have(M,m,G):=F.get q;have L:σ[j]?=Ga (Ga k):=by
     cases r:σ[j]? with
     |none=>rw[r]at a;cases a
     |some z=>rw[r]at a;exact congrArg Ga a
    have(m0,aa,Q):=d.loc;have(u,ru,Z):=Q j x k M L (.inr m);exists u,ru;rcases Z with⟨v,_⟩|⟨v,c,W,Y⟩
    .exfalso;have v:X.env.scope.names.lookup x=Ga .local:=v;rcases m with m|m<;>(rw[v]at m;cases m)
    .obtain⟨K,I⟩:=E x (Eo G);have:=l x K I;rw[W]at this;cases this;refine .inr {Uq (env:=X.env) G,c,I,?_};have(n,D,C):=Y;exact{n,w _ _ D,C}
 .obtain⟨k,n,D,C⟩:=d.cell x c (l x c e);exact{k,n,w _ _ D,C}
 .show(Ig own.length fv σ).length=(own++fv.map (·.2)).length;unfold Ig;simp
def jR(X:Cx)(ifs:List D4)(t:TT):Prop:=
 ∀(zq:List (Gd×S8))(s:Gz)(σ:St)(H:Hp)(Q:Bool->Hp->Prop),zv X zq σ H s->t σ H Q->
  wpAny (TU X.prog X.w) X.A (forIn ifs Gi λc r=>if r=Gi then do let ok<-isTrue c X.env (eval c X.env);pure (Se ok)else pure (Se r)) (TP X zq σ Q) X.xe s
def nH:TT:=λ_ H Q=>Q Gi H
theorem Wk:jR X [] nH:=λa s b H Q I h=>wpAny_tests_nil ⟨H,I,h⟩
theorem n9{c:D4}{t:TT}(h:PT X c t):jR X [c] t:=λa s b H Q I hw=>wpAny_tests_one (h a s b H Q I hw)
section
variable{prog:Gn}{w:Tg}{A:DT}{R:Ha->Gz->Prop}{s:Gz}
theorem K2{o a iter:D4}{p:List D4}{y:M3}{z l:Gj}(I:Nat->Gz->Prop)
  (turn:∀n s,I n s->wpAny (TU prog w) A (pyNext z) (λr b=>match r with
   |none=>R (.ok .next) b
   |some v=>wpAny (TU prog w) A (letOwnedTupleGo a z v) (λ_ b=>wpAny (TU prog w) A (assign a env v) (λ_ i=>
     wpAny (TU prog w) A (forIn p Gi λc r=>if r=Gi then do let ok<-isTrue c env (eval c env);pure (Se ok)else pure (Se r)) (λok f=>
      if ok=Gi then wpAny (TU prog w) A (eval o env) (λx j=>wpAny (TU prog w) A (call (.builtin "list.append") [l,x]) (λ_ k=>∃m,m<n/\I m k) (λ_ _=>False) j) (λ_ _=>False) f
      else∃m,m<n/\I m f) (λ_ _=>False) i) (λ_ _=>False) b) (λ_ _=>False) b) (λ_ _=>False) s)
  (n:Nat)(h:I n s):
  codeAny (TU prog w) A (.compLoop (.ListComp o [{a,iter,p,(0)}] scope y) 0 z l env) R s:=by
 refine codeAny_loop rfl I (λn s B=>?_) n h;show wpAny _ A ((compTurn (.ListComp o [{a,iter,p,(0)}] scope y) 0 z l env).onRaise (λx=>do noteFrame x env;theTreesLotGoes x)) _ _ s;refine wpAny_noted ?_;rw[compTurn_list];refine Gb (NN (Gb (ET (turn n s B) (λr b d=>?_) λ_ _ e=>e.elim)));cases r with
 |none=>exact Gm d
 |some v=>
  refine Gb (ET d (λ_ b d=>?_) λ_ _ e=>e.elim);refine Gb (ET d (λ_ i q=>Gb (ET q (λok f g=>?_) λ_ _ e=>e.elim)) λ_ _ e=>e.elim);cases ok with
  |false=>exact Gm ⟨Xb,g⟩
  |true=>exact Gb (Gb (ET g (λx j t=>Gb (ET t (λ_ k u=>Gm (Gm ⟨Xb,u⟩)) λ_ _ e=>e.elim)) λ_ _ e=>e.elim))
end
def jD(p:Gd)(J:It)(g:TG)(tt:TT)(te:TE)(Q:Hp->Prop)(e:St)(j:Hp):Prop:=
 ∃W:Nat->Nat->St->Hp->Prop,(∃m,W 0 m e j)/\∀i m σ H,W i m σ H->
  (J.stop i H/\Q H)\/(J.go i H/\∃(N:V->St->Hp->Prop)(h:St->Hp->Prop),(∀v a H',N v a H'->∃ys,H' p=Ga (.lst ys)/\ys.length<TH/\∃d,d<m/\W (i+1) d a (zj H' p (.lst (ys++[v]))))/\
   (∀a H',h a H'->∃d,d<m/\W (i+1) d a H')/\
   ∀x H',J.yld i H x H'->g x σ H' λc H2=>tt c H2 λb f=>if b=Gi then te c f λv k=>N v c k else h c f)
def sx(n:Nat)(a:List (Nat×TQ))(wi:TI)(g:TG)(tt:TT)(te:TE):TE:=λσ H Q=>wi σ H λJ H1=>∀p,H1 p=Gq->jD p J g tt te (λH'=>Q (.ref p) H') (Ig n a σ) (zj H1 p (.lst []))
section
variable{X:Cx}{elt tg iter:D4}{ifs:List D4}{scope:ME}{pos:M3}{wi:TI}{g:TG}{tt:TT}{te:TE}
structure Wb(esc scope:ME):Prop where
 kind:scope.kind=.function
 Qvz:∀y∈scope.names,y.2≠.cell
 loc:∀x∈scope.names,x.2=.local->scope.names.lookup x.1=Ga .local
 fre:∀y∈scope.names,y.2=.free->esc.names.lookup y.1=Ga .cell\/esc.names.lookup y.1=Ga .free
theorem tM{t:Hp}{e:Gz}{it:Gd}{f:List Gd}{H:Nat->Heap->Prop}{ah:It}{l:List (TQ×Gd)}{Q:VK}{RR:Gj->Gd->Ha->Gz->Prop}{ag:Gj->Gz->Prop}
  (hc:X.calm=Gi)(S:Wb X.env.scope scope)(F:FV X scope fv)(c1:∀x c,l.lookup x=Ga c->X.env.cells.lookup x=Ga c)(c2:∀x,(x,Dz)∈scope.names->∃c,l.lookup x=Ga c)
  (hg:∀l h f s E,PG (ccx X (own++fv.map (·.2)) scope l h f s E) tg g)(ht:∀l h f s E,jR (ccx X (own++fv.map (·.2)) scope l h f s E) ifs tt)(he:∀l h f s E,PE (ccx X (own++fv.map (·.2)) scope l h f s E) elt te)
  (R:zv X zq σ t e)(o:jf X.prog X.w X.K tg ah f it H)(ad:H 0 e.heap)(f2:∀b∈f,ix X zq t b)
  (q:∀p,t p=Gq->jD p ah g tt te (λH'=>Q (.ref p) H') (Ig own.length fv σ) (zj t p (.lst [])))
  (aw:∀(p h:Gd)(H':Hp)(C:Gz),zv X zq σ H' C->(∃M,C.heap.Ns h M)->ix X zq H' h->Q (.ref p) H'->RR (.ref p) h (.ok .next) C):
  wpAny (TU X.prog X.w) X.A (newList []) (λai ay=>wpAny (TU X.prog X.w) X.A (newFunctionEnv scope X.env.globals l [] X.env.qual Gq .none (Ga X.env)) (λaj az=>codeAny (TU X.prog X.w) X.A (.compStart (.ListComp elt [{tg,iter,ifs,(0)}] scope pos) 0 (.ref it) ai {aj with scope:=relabel scope X.env}) (RR ai aj.locals) az) ag ay) ag e:=by
 have q:=q e.heap.objs.size (R.Yc.fresh (GJ _));have K:=R.Ay (ys:=[]) (its:=[]) (t':=e.toks) .nil (Tu _);have aB:t e.heap.objs.size=Gq:=R.Yc.fresh (GJ _);refine DD (wpAny_newFunctionEnv S.Qvz (by intro y L;simp at L) (λam ax al=>?_) S.kind);have r:∀b∈f,ix X zq (zj t e.heap.objs.size (.lst [])) b:=λb a=>by have(B,k,_):=o.obj 0 _ ad b a;exact{by rw[Qh (T2 (Tn k))];exact(f2 b a).1,(f2 b a).2}
 have ab:∀b∈f,b<(e.heap.push {cls:=.type "list",data:=.seq ([]:List Gj).toArray}).objs.size:=λb a=>by have(B,k,_):=o.obj 0 _ ad b a;exact Tn (Gp _ k)
 have ap:H 0 am:=o.keep 0 _ _ ad λb a B k=>(al.2 b (T2 (ab b a))).trans (Gp _ (Gp _ k));have I4:=XI (own:=own) (fv:=fv) (t':=e.toks+([]:List (TQ×Gj)).length) K S.kind F c1 c2 S.Qvz r ab ax al;have(W,(m0,w0),turn):=q;generalize hC:(e.heap.push {cls:=.type "list",data:=.seq ([]:List Gj).toArray}).objs.size=h at*;have an:codeAny (TU X.prog X.w) X.A (.compLoop (.ListComp elt [{tg,iter,ifs,(0)}] scope pos) 0 (.ref it) (.ref e.heap.objs.size) (compEnvC scope l h X.env)) (RR (.ref e.heap.objs.size) h)
   {e with heap:=am,toks:=e.toks+([]:List (TQ×Gj)).length}:=by
  generalize m:ccx X (own++fv.map (·.2)) scope l h f {e with heap:=e.heap.push {cls:=.type "list",data:=.seq ([]:List Gj).toArray}} (zj t e.heap.objs.size (.lst []))=j at I4;have af:∀{H':Hp},(∀b∈f,H' b=Gq)->∀b∈f,ix j [] H' b:=λ{H'}hn b a=>by
   subst m;refine{hn b a,T2 (ab b a),λz=>?_,.inl a,λx c k=>(r b a).2.2.2.2.1 x c (c1 x c k),λp hp=>absurd (show p∈([]:List (Gd×S8))from hp) (by simp)};rcases Tf.mp (K.oH b z)with z|z
   .exact(r b a).2.1 z
   .exact(r b a).2.2.1 z
  have U:j.prog=X.prog:=by subst m;rfl
  have V:j.w=X.w:=by subst m;rfl
  have eK:j.K=X.K:=by subst m;rfl
  have T:j.A=X.A:=by subst m;rfl
  have eC:j.calm=Gi:=by subst m;exact hc
  have eE:j.env=compEnvC scope l h X.env:=by subst m;rfl
  have ex:j.xe=λ_ _=>False:=by subst m;rfl
  have Z:PG j tg g:=by subst m;exact hg _ _ _ _ _
  have aa:jR j ifs tt:=by subst m;exact ht _ _ _ _ _
  have Y:PE j elt te:=by subst m;exact he _ _ _ _ _
  unfold PG at Z;unfold jR at aa;unfold PE at Y;rw[U,V,T,eE,ex]at Z aa Y;refine K2 (λn C=>∃i I H',zv j [] I H' C/\H i C.heap/\(∀b∈f,H' b=Gq)/\W i n I H') ?_ m0 {(0),2,I4,ap,λb a=>(r b a).1,w0};rintro n s3 ⟨i,P,v,J3,ao,ak,w3⟩;rcases turn i n P v w3 with⟨stop,qn⟩|⟨go,aA,N',hN,av,step⟩
  .have d:=o.done j U V eK eC i [] s3 P v (λ_ _=>False) J3 (af ak) ao stop;rw[T]at d;refine Xg d λac s4⟨hr,w⟩=>?_;subst hr;show RR _ h (.ok .next) s4;have u:=w.base;have Yc:=w.Yc;have os:=w.os;have ar:=w.bare;have(m4,n4,_):=w.loc;have fC:=w.free;subst m;have I5:zv X zq σ v s4:=K.Q49 (ch:=f) os u Yc ar λb a=>{(r b a).2.2.2.1,(r b a).2.1,(r b a).2.2.2.2.1,(r b a).2.2.2.2.2};refine aw _ h v s4 I5 ⟨m4,n4⟩ ?_ qn;rw[<-hC];exact K.jk (GJ _) (by show v _=Gq;rw[hC];exact fC)
  .have d:=o.item j U V eK eC i [] s3 P v (λ_ _=>False) J3 (af ak) ao go;rw[T]at d;refine Xg d λac s4⟨u,hr,h4⟩=>?_;subst hr;refine Xg h4 λ_ s5⟨x,H5,J5,r5,y5,ae,au⟩=>?_;have aq:=J5.pinned (af au) (o.obj _ _ ae);refine Xg (Z _ s5 P H5 x u _ aq r5 (step x H5 y5)) λ_ s6⟨J,H6,J6,q6⟩=>?_;refine Xg (aa _ s6 J H6 _ J6 q6) λok s7⟨H7,J7,O⟩=>?_;have again:∀{D:Gz}{G:Hp},zv j ([]++lX f s5.heap) J G D->(∃N,N<n/\W (i+1) N J G)->∃M,M<n/\∃i I H',zv j [] I H' D/\H i D.heap/\(∀b∈f,H' b=Gq)/\W i M I H':=λ{D G}A⟨N,hm,w8⟩=>by refine{N,hm,i+1,J,G,A.oF,o.keep _ _ _ ae λb a B k=>(A.pin (b,B) (TL _ (TL _ (Ir a k)))).1,λb a=>?_,w8};have(B,k,d):=o.obj _ _ ae b a;exact(A.pin (b,B) (TL _ (TL _ (Ir a k)))).2.1
   cases ok with
   |false=>rw[Gs TD]at O⊢;exact again J7 (av _ _ O)
   |true=>rw[GV rfl]at O⊢;refine Xg (Y _ s7 J H7 _ J7 O) λxv D⟨aC,G,A,r8,q8⟩=>?_;have(ys,L,hz,q8):=hN _ _ _ q8;have(z,its,n',ac,hl,k):=A.jL L;refine NX Tx {_,k,1} B9 (BL _ _) (RP e.heap.objs.size its.toArray n' xv (by rw[Tq];lia)) {k,?_};refine again (A.nZ (its':=its++[xv]) (t':=D.toks) L k (by simp) (ac.append (.cons r8 .nil)) ?_) q8;rw[Gk,Gy];lia
 exact codeAny_compStart_list an (o.self X.A 0 _ _ _ ap an)
theorem vn{s:Gz}(S:Wb X.env.scope scope)(I:zv X zq σ H s):
  ∃a:List (TQ×Gd),closureFor scope X.env=pure a/\(∀x c,a.lookup x=Ga c->X.env.cells.lookup x=Ga c)/\(∀x,(x,Dz)∈scope.names->∃c,a.lookup x=Ga c):=
 UV λx b=>I.ok.has x (S.fre (x,.free) b Xb)
theorem Ug(E:X.calm=Gi)(S:Wb X.env.scope scope)(F:FV X scope fv)(hi:PI X tg iter wi)
  (K:∀c C d s H,PG (ccx X (own++fv.map (·.2)) scope c C d s H) tg g)(ht:∀c C d s H,jR (ccx X (own++fv.map (·.2)) scope c C d s H) ifs tt)(G:∀c C d s H,PE (ccx X (own++fv.map (·.2)) scope c C d s H) elt te)
  (hs:∀x,foldedSetIterable iter X.env x=pure x:=by intro _;rfl):PE X (.ListComp elt [{tg,iter,ifs,(0)}] scope pos) (sx own.length fv wi g tt te):=by
 intro a s n H Q I h;rw[eval_ListComp];have(c,i,w,y):=vn S I;refine Mx (use:=Gq) rfl hs i S.kind S.loc (Xg (hi a s n H _ I h) λv U A=>Xg A λM V B=>?_);have(R,d,W,J,O,e,u,T,l,z,q):=B;subst e;refine tM (Q:=Q) (RR:=λb C=>compPost (TU X.prog X.w) X.A X.xe Gq (EP X a n Q) b C) E S F w y K ht G u T l z q λp C r N t j f L=>?_;have(m,j):=j;refine{m,j,λP k=>{.ref p,r,?_,1,L}};exact t.turned (t':=N.toks) (λb o D e=>(k.2 b D).trans e) f.1 f.2.1 f.2.2.2.1 f.2.2.2.2.1 f.2.2.2.2.2
theorem U3{i:Nat}{y:TQ}{h A:M3}(T:X.N.Nodup)(aa:X.N[i]?=Ga y)(w:X.env.scope.names.lookup y=Ga .local)(V:X.calm=Gi)(S:Wb X.env.scope scope)(F:FV X scope fv)(hi:PI X tg iter wi)
  (Z:∀e b f s c,PG (ccx X (own++fv.map (·.2)) scope e b f s c) tg g)(ht:∀e b f s c,jR (ccx X (own++fv.map (·.2)) scope e b f s c) ifs tt)(Y:∀e b f s c,PE (ccx X (own++fv.map (·.2)) scope e b f s c) elt te)
  (ac:swapsWith (.ListComp elt [{tg,iter,ifs,(0)}] scope pos) (Ga (.Name y h)) A.line X.env=pure Gi:=by rfl)
  (hs:∀x,foldedSetIterable iter X.env x=pure x:=by intro _;rfl):PS X (.Assign [.Name y h] (.ListComp elt [{tg,iter,ifs,(0)}] scope pos) A) (om (sx own.length fv wi g tt te) (Ui i)):=by
 intro r s B c m u O;rw[exec_Assign_Name_used _ _ _ _ ac];have(e,W,L,M):=vn S u;refine Gb (NN (Gb ?_));show wpAny _ X.A (do let _<-comprehension (.ListComp elt [{tg,iter,ifs,(0)}] scope pos) scope X.env _ (newList []) Gx (eval iter X.env) (Ga (assign (.Name y h) X.env))) _ _ s;refine Gb (ET (Mx (use:=Ga (assign (.Name y h) X.env)) (Q:=λ_ l=>SP X r m .next l) rfl hs W S.kind S.loc (Xg (hi r s B c _ u O) λv s1 P=>Xg P λah s2 Q=>?_)) (λ_ l o=>Gm (Gm o)) λ_ _ j=>j);have(it,f,tn,ag,H2,j,H,I,af,N,q):=Q;subst j;refine tM (Q:=λx D=>Ui i x B D m.nx) (RR:=λJ b=>compPost (TU X.prog X.w) X.A X.xe (Ga (assign (.Name y h) X.env)) (λ_ l=>SP X r m .next l) J b) V S F L M Z ht Y H I af N q λp b C l E n d o=>?_;have(ad,n):=n;show wpAny _ X.A (assign (.Name y h) X.env (.ref p)) _ _ _;refine RH (wZ E T aa (.inl w) (v:=.ref p) rfl (λae G t=>?_) (.inr w));have(a,t,k):=t;have R:b≠a:=by
  rcases k with k|k
  .rw[k];exact d.2.1
  .exactλz=>d.2.2.2.2.1 y a k z.symm
 refine{ad,n.sameBut t R,λh' ab=>{_,C,?_,o}};exact G.turned (t':=ae.toks) (λK ai U j=>(ab.2 K U).trans j) d.1 d.2.1 d.2.2.2.1 d.2.2.2.2.1 d.2.2.2.2.2
end
theorem Ib{a p:Gd}{xs:List V}{g:TG}{t:TE}{Q:Hp->Prop}{j:St}{o:Hp}(h:xs.length<=TH)(d:Nat->List V->St->Hp->Prop)(A:d 0 [] j (zj o p (.lst [])))
  (C:∀i b c H,i<=xs.length->d i b c H->hB K H a xs)
  (hs:∀i x b c H,xs[i]?=Ga x->b.length=i->d i b c H->H p=Ga (.lst b)->g x c H λk H2=>t k H2 λv r=>r p=Ga (.lst b)/\d (i+1) (b++[v]) k (zj r p (.lst (b++[v]))))
  (B:∀b c H,b.length=xs.length->d xs.length b c H->H p=Ga (.lst b)->Q H):jD p (ju K a) g nH t Q j (zj o p (.lst [])):=by
 exists λi m c H=>m=xs.length - i/\i<=xs.length/\∃b,b.length=i/\d i b c H/\H p=Ga (.lst b),{xs.length,by simp,Tu _,[],1,A,Qb};rintro i m c H ⟨rfl,hi,b,n,pv,s⟩;have q:=C i b c H hi pv;by_cases f:i<xs.length
 .refine .inr {{xs,xs[i],q,by simp[f]},λv h l=>l p=Ga (.lst b)/\d (i+1) (b++[v]) h (zj l p (.lst (b++[v]))),λ_ _=>False,λv h l⟨u,w⟩=>{b,u,by lia,xs.length - (i+1),by lia,1,f,b++[v],by simp[n],w,Qb},λ_ _ z=>z.elim,λx l y=>?_};have(e,y):=y;subst e;exact hs i x b c _ (y xs q) n pv s
 .have e:i=xs.length:=by lia
  subst e;exact .inl {{xs,q,GJ _},B b c H n pv s}
theorem Oe{a p:Gd}{xs:List V}{g:TG}{t:TE}{Q:Hp->Prop}{j:St}{o:Hp}(h:xs.length<=TH)(d:Nat->List V->St->Hp->Prop)(A:d 0 [] j (zj o p (.lst [])))
  (C:∀i b c H,i<=xs.length->d i b c H->Uw K H a xs)
  (hs:∀i x b c H,xs[i]?=Ga x->b.length=i->d i b c H->H p=Ga (.lst b)->g x c H λk H2=>t k H2 λv r=>r p=Ga (.lst b)/\d (i+1) (b++[v]) k (zj r p (.lst (b++[v]))))
  (B:∀b c H,b.length=xs.length->d xs.length b c H->H p=Ga (.lst b)->Q H):jD p (iT K a) g nH t Q j (zj o p (.lst [])):=by
 exists λi m c H=>m=xs.length - i/\i<=xs.length/\∃b,b.length=i/\d i b c H/\H p=Ga (.lst b),{xs.length,by simp,Tu _,[],1,A,Qb};rintro i m c H ⟨rfl,hi,b,n,pv,s⟩;have q:=C i b c H hi pv;by_cases f:i<xs.length
 .refine .inr {{xs,xs[i],q,by simp[f]},λv h l=>l p=Ga (.lst b)/\d (i+1) (b++[v]) h (zj l p (.lst (b++[v]))),λ_ _=>False,λv h l⟨u,w⟩=>{b,u,by ext,xs.length - (i+1),by ext,1,f,b++[v],by simp[n],w,Qb},λ_ _ z=>z.elim,λx l y=>?_};have(e,y):=y;subst e;exact hs i x b c _ (y xs q) n pv s
 .have e:i=xs.length:=by ext
  subst e;exact .inl {{xs,q,GJ _},B b c H n pv s}
mutual
inductive Dt(H:Hp):V->DO->Prop
 |non:Dt H .non .none
 |bl (b:Bool):Dt H (.bl b) (.bool b)
 |int (i:Int):Dt H (.int i) (.int i)
 |str (x:TQ):Dt H (.str x) (.str x)
 |lst {a:Gd} {xs:List V} {ds:List DO}:H a=Ga (.lst xs)->hH H xs ds->Dt H (.ref a) (.list ds)
 |tup {a:Gd} {xs:List V} {ds:List DO}:H a=Ga (.tup xs)->hH H xs ds->Dt H (.ref a) (.tuple ds)
inductive hH(H:Hp):List V->List DO->Prop
 |nil:hH H [] []
 |cons {x:V} {xs:List V} {d:DO} {ds:List DO}:Dt H x d->hH H xs ds->hH H (x::xs) (d::ds)
end
theorem Dt.same{a:Hp}(e:Q9 H a){v:V}{d:DO}(h:Dt H v d):Dt a v d:=
 Dt.rec (motive_1:=λv d _=>Dt a v d) (motive_2:=λc b _=>hH a c b) .non .bl .int .str (λh _ t=>.lst (e _ _ h) t) (λh _ t=>.tup (e _ _ h) t) .nil (λ_ _ h t=>.cons h t) h
theorem hH.length{H:Hp}:∀{b:List V}{a:List DO},hH H b a->b.length=a.length
 |_,_,.nil=>rfl
 |_,_,.cons _ t=>by rw[TB,TB,t.length]
theorem hH.get{H:Hp}:∀{b:List V}{a:List DO}{i:Nat}{x:V},hH H b a->b[i]?=Ga x->∃d,a[i]?=Ga d/\Dt H x d
 |_,_,_,_,.nil,e=>by simp at e
 |_,_,0,_,.cons h _,e=>by simp at e;subst e;exact{0,h}
 |_,_,i+1,_,.cons _ t,e=>by have(d,c,f):=hH.get (i:=i) t (by simpa using e);exact{d,by simpa using c,f}
theorem Dt.reads{P:Gn}{w:Tg}{h:Heap}(ok:O2 P w H h){v:V}{d:DO}(k:Dt H v d):∀{u:Gj},zu v u->∃c,M9 h u d c:=by
 refine Dt.rec (motive_1:=λv d _=>∀{u:Gj},zu v u->∃c,M9 h u d c) (motive_2:=λf j _=>∀{l:List Gj},Yg f l->∃c,FZ h l j c) ?_ ?_ ?_ ?_ ?_ ?_ ?_ ?_ k
 .intro u r;cases(show u=DE from r);exact{[],.none}
 .intro b u r;cases(show u=La b from r);exact{[],.bool b}
 .intro i u r;have(t,e):=(show∃t,u=FJ i t from r);cases e;exact{[],.int i t}
 .intro x u r;have(t,e):=(show∃t,u=FK x t from r);cases e;exact{[],.str x t}
 .intro a f j e _ p u r;have(_,q,n,s,m):=(show Yj P w H h a (.lst f)from ok a _ e);have(c,g):=p s;cases(show u=Tk a from r);exact{a::c,.list m rfl rfl (by simpa using g)}
 .intro a f j e _ p u r;have(_,q,s,o,m,b,n,y):=(show Yj P w H h a (.tup f)from ok a _ e);have(c,g):=p s;cases(show u=Tk a from r);exact{c,.tuple m b y (by simpa using g)}
 .intro l r;cases r;exact{[],.nil}
 .intro x f d j _ _ o y l r;cases r with
  |cons r A=>have(c,g):=o r;have(b,z):=y A;exact{c++b,.cons g z}
inductive uc(f:Bool->Bool)(x:V)(y:V)(H:Hp)(Q:VK):Prop
 |mk (dx:_) (dy:_) (h0:Dt H x dx) (h1:Dt H y dy) (h2:dx.canLay0=Gi) (h3:dy.canLay0=Gi) (h4:min dx.depth dy.depth<=64) (h5:Q (.bl (f (TW dx dy))) H):uc f x y H Q
def ku(f:Bool->Bool):R2:=λx y H Q=>uc f x y H Q
inductive vB(f:Bool->Bool)(x:V)(y:V)(H:Hp)(Q:VK):Prop
 |mk (dx:_) (ds:_) (h0:Dt H x dx) (h1:Dt H y (.list ds)) (h2:dx.canLay0=Gi) (h3:Gw ds=Gi) (h4:min (TV ds) dx.depth<=63) (h5:Q (.bl (f (ds.any λd=>TW d dx))) H):vB f x y H Q
def vP(f:Bool->Bool):R2:=λx y H Q=>vB f x y H Q
section
variable{X:Cx}
theorem U1(a:X.A.units+64<EY):hA X (Ee .Eq) (ku λb=>b):=by intro a s r H x y v u Q I j k h;have(n,o,e,f,c,d,p,q):=h;have(l,g):=e.reads I.Yc j;have(m,i):=f.reads I.Yc k;exact BD g i c d (by lia) {.bl _,H,I,1,q}
theorem jO(a:X.A.units+64<EY):hA X (Ee .NotEq) (ku λb=>!b):=by intro a s r H x y v u Q I j k h;have(n,o,e,f,c,d,p,q):=h;have(l,g):=e.reads I.Yc j;have(m,i):=f.reads I.Yc k;exact BE g i c d (by ext) {.bl _,H,I,1,q}
theorem UQ(a:X.A.units+64<EY):hA X (Ee .In) (vP λb=>b):=by intro a s r H x y v u Q I j k h;have(o,n,e,f,c,d,p,q):=h;have(l,g):=e.reads I.Yc j;have(m,i):=f.reads I.Yc k;exact Ca i g d c (by ext) {.bl _,H,I,1,q}
theorem WB(a:X.A.units+64<EY):hA X (Ee .NotIn) (vP λb=>!b):=by intro a s r H x y v u Q I j k h;have(o,n,e,f,c,d,p,q):=h;have(l,g):=e.reads I.Yc j;have(m,i):=f.reads I.Yc k;exact Bx i g d c (by ext) {.bl _,H,I,1,q}
inductive vF(K:Gf)(xs:List V)(H:Hp)(Q:VK):Prop
 |mk (x:_) (n:_) (t:_) (b:_) (h0:xs=[x,.ty n]) (h1:Om K H x t) (h2:T1 K t (.type n)=Ga b) (h3:Q (.bl b) H):vF K xs H Q
def Pb(K:Gf):List V->Hp->VK->Prop:=λxs H Q=>vF K xs H Q
theorem Zx:Ur X (.builtin "isinstance") (Pb X.K):=by intro a s k H j i Q I r h;have(x,n,t,b,rfl,ty,e,q):=h;have(u,g,rfl,c,d):=vals2 r;cases(show g=Lb n from d);exact VY I c ty e λf=>{.bl b,H,I.tok f,1,q}
inductive uO(K:Gf)(xs:List V)(H:Hp)(Q:VK):Prop
 |mk (x:_) (p:_) (n:_) (m:_) (t:_) (b:_) (h0:xs=[x,.ref p]) (h1:H p=Ga (.tup [.ty n,.ty m])) (h2:Om K H x (.type t)) (h3:Sn K (.type t) [.type n,.type m]=Ga b) (h4:Q (.bl b) H):uO K xs H Q
def Q6b(K:Gf):List V->Hp->VK->Prop:=λxs H Q=>uO K xs H Q
theorem PU:Ur X (.builtin "isinstance") (Q6b X.K):=by
 intro z s V H v Y Q I r h;have(x,p,n,m,t,b,rfl,J,ty,e,q):=h;have(u,U,rfl,f,R):=vals2 r;cases(show U=Tk p from R);have(_,K,P,o,d,F,k,G):=(show Yj X.prog X.w H s.heap p (.tup [.ty n,.ty m])from I.Yc p _ J);have(S,T,C,N,O):=vals2 P;subst C;cases(show S=Lb n from N);cases(show T=Lb m from O);have(M,W,A,os):=o;cases(show M=Lb "tuple"from F);cases(show A=JY _ k from G);have c:∀B,EP X z V Q (.bool b) {s with toks:=B}:=λB=>{.bl b,H,I.tok B,1,q};cases ty with
 |non=>cases(show u=DE from f);exact Ey RI I.Rc DJ d e nofun c
 |bl y=>cases(show u=La y from f);exact Ey RJ I.Rc DJ d e nofun c
 |int i=>have(t,q):=(show∃t,u=FJ i t from f);cases q;exact Ey Bd I.Rc DJ d e nofun c
 |str y=>have(t,q):=(show∃t,u=FK y t from f);cases q;exact Ey Be I.Rc DJ d e nofun c
 |flt y=>have(t,q):=(show∃t,u=Nm y t from f);cases q;exact Ey NU I.Rc DJ d e nofun c
 |@lst a v g=>cases(show u=Tk a from f);have(_,_,n,_,j):=(show Yj X.prog X.w H s.heap a (.lst v)from I.Yc a _ g);exact Ey LY I.Rc {_,j,1} d e nofun c
 |@frz a L v g=>cases(show u=Tk a from f);have(_,_,_,n,_,j):=(show Yj X.prog X.w H s.heap a (.frz L (.lst v))from I.Yc a _ g);exact Ey LY I.Rc {_,j,1} d e nofun c
 |@tup a v g=>cases(show u=Tk a from f);have(_,_,_,p):=(show Yj X.prog X.w H s.heap a (.tup v)from I.Yc a _ g);have(o,j,w,_):=p;exact Ey NV I.Rc ⟨o,j,w⟩ d e nofun c
 |@dK a l g=>cases(show u=Tk a from f);have(_,_,L,_,p):=(show Yj X.prog X.w H s.heap a (.dK l)from I.Yc a _ g);have(o,E,D,j,w,_):=p;exact Ey LZ I.Rc {o,j,w.1} d e nofun c
 |@dT a l g=>cases(show u=Tk a from f);have(_,_,v,_,o,E,D,j,w,_):=(show Yj X.prog X.w H s.heap a (.dT l)from I.Yc a _ g);exact Ey LZ I.Rc {o,j,w.1} d e nofun c
end
theorem jG:T1 K (.type "list") (.type "list")=Ga Gi:=by rfl
theorem Im:T1 K (.type "tuple") (.type "tuple")=Ga Gi:=by rfl
theorem WJ:T1 K (.type "list") (.type "tuple")=Ga Gx:=by kernel_rfl
theorem vQ:T1 K (.type "tuple") (.type "list")=Ga Gx:=by kernel_rfl
theorem R5:T1 K (.type "str") (.type "str")=Ga Gi:=by rfl
theorem Q4b:T1 K (.type "bool") (.type "str")=Ga Gx:=by kernel_rfl
theorem Q2l:T1 K (.type "int") (.type "str")=Ga Gx:=by kernel_rfl
theorem Q3m:T1 K (.type "NoneType") (.type "str")=Ga Gx:=by kernel_rfl
theorem tX:T1 K (.type "bool") (.type "bool")=Ga Gi:=by rfl
theorem Ik:T1 K (.type "int") (.type "bool")=Ga Gx:=by kernel_rfl
theorem QK:T1 K (.type "NoneType") (.type "bool")=Ga Gx:=by kernel_rfl
theorem Rl:T1 K (.type "int") (.type "int")=Ga Gi:=by rfl
theorem PJ:Sn K (.type "list") [.type "list",.type "tuple"]=Ga Gi:=by rfl
theorem WH:Sn K (.type "tuple") [.type "list",.type "tuple"]=Ga Gi:=by unfold Sn;rw[vQ];rfl
theorem nz{t:String}(a:T1 K (.type t) (.type "list")=Ga Gx)(b:T1 K (.type t) (.type "tuple")=Ga Gx):Sn K (.type t) [.type "list",.type "tuple"]=Ga Gx:=by unfold Sn;rw[a];unfold Sn;rw[b];rfl
theorem ZI:T1 K (.type "str") (.type "list")=Ga Gx:=by kernel_rfl
theorem Q3l:T1 K (.type "str") (.type "tuple")=Ga Gx:=by kernel_rfl
theorem UK:T1 K (.type "int") (.type "list")=Ga Gx:=by kernel_rfl
theorem Q26:T1 K (.type "int") (.type "tuple")=Ga Gx:=by kernel_rfl
theorem QY:T1 K (.type "bool") (.type "list")=Ga Gx:=by kernel_rfl
theorem Q3h:T1 K (.type "bool") (.type "tuple")=Ga Gx:=by kernel_rfl
theorem Q36:T1 K (.type "NoneType") (.type "list")=Ga Gx:=by kernel_rfl
theorem QF:T1 K (.type "NoneType") (.type "tuple")=Ga Gx:=by kernel_rfl
end L2
namespace PySem
section
variable{prog:Gn}{w:Tg}{A:DT}{E:Gj->Gz->Prop}{s:Gz}
open PyProof.Rows
def Heap.sg(h:Heap)(a l:Gd)(i:Int):Prop:=∃o,h.get? a=Ga o/\o.cls=.type "reversed"/\o.data=.fields #[.ref l,rawInt i]
theorem Heap.sg.at{h b:Heap}{a l:Gd}{i:Int}(x:h.sg a l i)(e:∀o,h.get? a=Ga o->b.get? a=Ga o):b.sg a l i:=let⟨o,ho,r⟩:=x;{o,e _ ho,r}
end
section
variable{prog:Gn}{w:Tg}{K:Type}[DecidableEq K]{knd:HM prog w K}{A:DT}{E:Gj->Gz->Prop}{s:Gz}
theorem Jh{d a:Gd}{l:List (K×Gd×Gj)}{k:K}{dflt:Gj}{Q:Gj->Gz->Prop}(u:knd.room A)(b:knd.is s.heap k a)(C:s.heap.DictOfH knd d l)
  (c:∀p,atKey l k=Ga p->Q p.2 {s with toks:=s.toks+knd.draws k})
  (n:atKey l k=Gq->∀e,e.DictOfH knd d (l++[(k,a,dflt)])->Ew d s.heap e->Q dflt {s with heap:=e,toks:=s.toks+knd.draws k})
  (e:l.length<=TH):
  wpAny (TU prog w) A (dictSetDefault d (.ref a) dflt) Q E s:=by
 have(o,e,z,i,B,h,r,m,t):=C;unfold dictSetDefault;try with_reducible refine D9 ?_
 refine Gb (knd.pyHash u b ?_);refine Gb (wpAny_dictFind_heap (s:={s with toks:=s.toks+knd.draws k}) u b i h r m t ?_ ?_)
 .intro o;have q:k∉l.map (·.1):=not_mem_keys_of_get o;have g:=atKey_none_of_get o;refine Gb (Fg (Gb (wpAny_updateDictKeys (hz:=by have e:=size_of_entries r;ext) (s:={s with toks:=s.toks+knd.draws k}) i h (Gm (n g _ ⟨_,_,z+1,DU _ i (Obj.isFreed_of_dict (Nr h _)),
   B.mapDictKeys _,Nr h _,?_,?_,?_⟩ (Eb ..))))))
  .simp[r,entryOfKey]
  .intro x f;rcases Gh.mp f with f|f
   .exact knd.keeps (m x f) i h (Eb ..)
   .simp only[Tb]at f;subst f;exact knd.keeps b i h (Eb ..)
  .rw[TY,DQ];exists t,(by simp);intro x f y v;simp only[Tp,Ly,Tb]at v;subst v;exactλe=>q (e▸f)
 .intro j p e;have g:=atKey_of_get t e;refine Gb (EJ (s:={s with toks:=s.toks+knd.draws k}) i h ?_);rw[entry_at r j,e];exact Gb (Fg (Gm (c p g)))
theorem Vs(b:HM prog w K)(d a:Gd)(m:(d==Ef)=Gx)(dflt:Gj):
  MeetsIn prog w (Builtin.«dict.setdefault» {[.ref d,.ref a,dflt],[]}) (λA R s=>b.room A.in1/\∃k c,b.is s.heap k a/\s.heap.DictOfH b d c/\c.length<=TH/\
   (∀p,atKey c k=Ga p->R (.ok (.ret p.2)) {s with toks:=s.toks+b.draws k})/\
   (atKey c k=Gq->∀e,e.DictOfH b d (c++[(k,a,dflt)])->Ew d s.heap e->R (.ok (.ret dflt)) {s with heap:=e,toks:=s.toks+b.draws k})):=
 .of_wp λA R s⟨o,k,c,f,i,q,j,l⟩=>by unfold Builtin.«dict.setdefault»;refine Gb ?_;unfold BM;refine Gb (Fc i.typeIs ?_);show wpAny _ _ (pure (d,Tk a,Ga dflt)) _ _ s;refine Gm ?_;show wpAny _ _ (if(d==Ef)=Gi then _ else(dictSetDefault d (.ref a) dflt>>=_)) _ _ s;rw[Gs (by rw[m];exact TD)];exact Gb (Jh o f i (λp g=>Gm {p.2,1,j p g}) (λn e g h=>Gm {dflt,1,l n e g h}) q)
end
end PySem
namespace L2
open PySem PySem.Spec PyProof.Rows
section
variable{X:Cx}{tg:D4}
inductive xR(x:V)(vs:List V)(H:Hp)(Q:VK):Prop
 |mk (d:_) (b:_) (dv:_) (zw:_) (k:_) (h0:x=.ref d) (h1:vs=[.ref b,dv]) (h2:H d=Ga (.dT zw)) (h3:H b=Ga (.tup (k.map kV))) (h4:zw.length<TH) (h5:(∀v,Xq zw k=Ga v->Q v H)) (h6:(Xq zw k=Gq->Q dv (zj H d (.dT (zw++[(k,dv)]))))):xR x vs H Q
def WT:V->List V->Hp->VK->Prop:=λx a H Q=>xR x a H Q
theorem OT(N:X.A.units+1<EY):iO X "dict.setdefault" WT:=by
 intro w s aa H x vs v Z Q I U T h;have(d,b,l,a,k,rfl,rfl,e,o,Y,P,R):=h;cases(show v=Tk d from U);have(V,B,rfl,S,A):=vals2 T;cases(show V=Tk b from S);have(z,t,m,f,n):=AS I.Yc e;have O:a.length=m.length:=GQ f;refine MZ F.slot_dict_setdefault n.typeIs F.entry_dict_setdefault (F.args_dict_setdefault_3 _ _ _) (Vs (tupleKind (Xc X.prog X.w)) d b t B) {Le N,k,m,kQ I.Yc o,n,by lia,λp M=>?_,λL W j hs=>?_}
 .have g:=f.val k;rw[M]at g;cases q:Xq a k with
  |none=>rw[q]at g;exact(show False from g).elim
  |some y=>rw[q]at g;exact{y,H,I.tok _,g,P y q}
 .have g:=f.val k;rw[L]at g;cases q:Xq a k with
  |some y=>rw[q]at g;exact(show False from g).elim
  |none=>have(ob,D,C,u,E,G,J,_,K):=j;have i:KT H (a++[(k,l)]) (m++[(k,b,B)]):=E2 f ⟨Xb,o,A⟩;refine{l,_,R7 (ob:=.dT (a++[(k,l)])) I (by rw[e];exact DJ) hs ⟨ob,u⟩ {by rw[Gk,Gy];lia,t,_,i.keeps λc ys r=>?_,ob,D,C,u,E,G,J,K},A,R q};rw[Qh (Zu r e nofun)];exact r
end
theorem Qf{H:Hp}{p:Gd}(h:H p=Gq)(o:HO):Q9 H (zj H p o):=λb u q=>by rw[Qh (Qe q h)];exact q
theorem nd1(x:TQ):[x].Nodup:=by simp
theorem small{n:Nat}(h:n<=16000000):n<=TH:=by rw[TJ];ext
end L2
namespace Sb
open PySem
inductive Th where
 |mk (w:TQ) (ps:List Th)
mutual
def Th.size:Th->Nat
 |.mk _ ps=>Q6 ps+1
def Q6:List Th->Nat
 |[]=>0
 |p::r=>p.size+Q6 r
end
mutual
def Th.depth:Th->Nat
 |.mk _ ps=>Vi ps+1
def Vi:List Th->Nat
 |[]=>0
 |p::r=>max p.depth (Vi r)
end
mutual
def Th.inside:Th->List Th
 |.mk w ps=>Zm ps++[.mk w ps]
def Zm:List Th->List Th
 |[]=>[]
 |p::r=>p.inside++Zm r
end
mutual
def Th.toD:Th->DO
 |.mk w ps=>.tuple (.str w::X9 ps)
def X9:List Th->List DO
 |[]=>[]
 |p::r=>p.toD::X9 r
end
mutual
def Th.ok:Th->Bool
 |.mk w ps=>DM w&&okL ps
def okL:List Th->Bool
 |[]=>Gi
 |p::r=>p.ok&&okL r
end
def Oo(w:TQ):Bool:=DM w&&decide (w.length<=200)
theorem Oo.str{w:TQ}(h:Oo w=Gi):DM w=Gi:=(EZ.mp h).1
theorem Oo.len{w:TQ}(h:Oo w=Gi):w.length<=200:=Du (EZ.mp h).2
mutual
def Th.short:Th->Bool
 |.mk w ps=>decide (w.length<=200)&&ko ps
def ko:List Th->Bool
 |[]=>Gi
 |p::r=>p.short&&ko r
end
def Th.word:Th->TQ
 |.mk w _=>w
def Th.parts:Th->List Th
 |.mk _ ps=>ps
theorem Us:∀a:List Th,okL a=a.all Th.ok
 |[]=>by simp[okL]
 |t::r=>by simp[okL,Us r]
mutual
theorem YQ:∀t:Th,t.inside.length=t.size
 |.mk w a=>by simp[Th.inside,Th.size,Jn a]
theorem Jn:∀a:List Th,(Zm a).length=Q6 a
 |[]=>by simp[Zm,Q6]
 |p::r=>by simp[Zm,Q6,YQ p,Jn r]
end
theorem R0(t:Th):1<=t.size:=by cases t;simp[Th.size]
theorem qr(t:Th):1<=t.depth:=by cases t;simp[Th.depth]
theorem xr:∀{a:List Th}{t:Th},t∈a->t.size<=Q6 a
 |p::r,t,h=>by
  rcases Tf.mp h with rfl|h
  .simp[Q6]
  .have:=xr h;simp only[Q6];ext
theorem Wl:∀{a:List Th}{t:Th},t∈a->t.depth<=Vi a
 |p::r,t,h=>by
  rcases Tf.mp h with rfl|h
  .simp only[Vi];lia
  .have:=Wl h;simp only[Vi];lia
theorem Zj:∀a:List Th,a.length<=Q6 a
 |[]=>by simp[Q6]
 |p::r=>by have:=R0 p;have:=Zj r;simp only[Q6,TB];lia
mutual
theorem Qj7:∀(t:Th){s:Th},s∈t.inside->s.size<=t.size
 |.mk w a,s,h=>by
  simp only[Th.inside,Gh,Tb]at h;rcases h with h|rfl
  .have:=vT a h;simp only[Th.size];ext
  .exact GJ _
theorem vT:∀(a:List Th){s:Th},s∈Zm a->s.size<=Q6 a
 |p::r,s,h=>by
  simp only[Zm,Gh]at h;rcases h with h|h
  .have:=Qj7 p h;simp only[Q6];ext
  .have:=vT r h;simp only[Q6];ext
 |[],s,h=>by simp[Zm]at h
end
theorem A4(t:Th):t∈t.inside:=by cases t;simp[Th.inside]
theorem Wa:∀a:List Th,Zm a=a.flatMap Th.inside
 |[]=>by simp[Zm]
 |p::r=>by simp[Zm,Wa r]
theorem YT{x y:TQ}:(x==y)=decide (x=y):=by
 by_cases h:x=y
 .subst h;simp
 .simp[h]
mutual
theorem Io:∀s t:Th,TW s.toD t.toD=Gi↔s=t
 |.mk w a,.mk v b=>by simp only[Th.toD,TW,Ds,T5,Th.mk.injEq];rw[wW a b,YT,decide_eq_true_iff]
theorem wW:∀a b:List Th,Ds (X9 a) (X9 b)=Gi↔a=b
 |[],[]=>by simp[X9,Ds]
 |[],t::r=>by simp[X9,Ds]
 |s::r,[]=>by simp[X9,Ds]
 |s::r,t::q=>by simp only[X9,Ds,T5,Db];rw[Io s t,wW r q]
end
instance:DecidableEq Th:=λs t=>if h:TW s.toD t.toD=Gi then .isTrue ((Io s t).mp h)else .isFalse λe=>h ((Io s t).mpr e)
theorem la(s t:Th):TW s.toD t.toD=decide (s=t):=by
 by_cases h:s=t
 .rw[Ti h];exact(Io s t).mpr h
 .rw[Td h];exact Mq.mpr λe=>h ((Io s t).mp e)
mutual
theorem Wf:∀t:Th,t.ok=Gi->t.toD.canLay0=Gi
 |.mk w a,h=>by simp only[Th.ok,T5]at h;simp only[Th.toD,Tv,Gw,T5];exact{h.1,lj a h.2}
theorem lj:∀a:List Th,okL a=Gi->Gw (X9 a)=Gi
 |[],_=>by simp[X9,Gw]
 |t::r,h=>by simp only[okL,T5]at h;simp only[X9,Gw,T5];exact{Wf t h.1,lj r h.2}
end
mutual
theorem Xj:∀t:Th,t.toD.depth=t.depth
 |.mk w a=>by simp only[Th.toD,Dw,TV,Th.depth,Kt a];lia
theorem Kt:∀a:List Th,TV (X9 a)=Vi a
 |[]=>by simp[X9,TV,Vi]
 |t::r=>by simp[X9,TV,Vi,Xj t,Kt r]
end
noncomputable def Xh(a:List Th)(xs:List Th):List Th:=xs.foldl (λa x=>if x∈a then a else a++[x]) a
theorem Rq(a:List Th):Xh a []=a:=rfl
theorem Ob(a:List Th)(x:Th)(r:List Th):Xh a (x::r)=Xh (if x∈a then a else a++[x]) r:=rfl
theorem Jm(a b c:List Th):Xh a (b++c)=Xh (Xh a b) c:=by unfold Xh;rw[List.foldl_append]
theorem YG(a b:List Th)(y:Th):Xh a (b++[y])=if y∈Xh a b then Xh a b else Xh a b++[y]:=by rw[Jm];rfl
theorem o9:∀(c b:List Th)(y:Th),y∈Xh b c↔y∈b\/y∈c
 |[],b,y=>by simp[Rq]
 |x::r,b,y=>by
  rw[Ob,o9 r];by_cases h:x∈b
  .rw[GV h];constructor
   .rintro(a|a)
    .exact .inl a
    .exact .inr (Gr _ a)
   .rintro(a|a)
    .exact .inl a
    .rcases Tf.mp a with rfl|a
     .exact .inl h
     .exact .inr a
  .rw[Gs h];simp only[Gh,Tf,EU,F0];constructor
   .rintro((a|a)|a)
    .exact .inl a
    .exact .inr (.inl a)
    .exact .inr (.inr a)
   .rintro(a|a|a)
    .exact .inl (.inl a)
    .exact .inl (.inr a)
    .exact .inr a
theorem vJ:∀(b a:List Th),(∀x∈b,x∈a)->Xh a b=a
 |[],_,_=>rfl
 |x::r,a,h=>by rw[Ob,GV (h x Tc)];exact vJ r a λy c=>h y (Gr _ c)
theorem p7:∀(b a:List Th),(Xh a b).length<=a.length+b.length
 |[],a=>by simp[Rq]
 |x::r,a=>by
  rw[Ob];have:=p7 r (if x∈a then a else a++[x]);split at this
  .rename_i h
   rw[GV h];simp only[TB];lia
  .rename_i h
   rw[Gs h];simp only[Gk,TB,Lh]at this⊢;lia
def U5(ts:List Th):Prop:=∀t∈ts,∀s∈t.inside,s∈ts
theorem Qna:U5 []:=λ_ h=>by simp at h
theorem AM{a:List Th}{t:Th}(h:U5 a)(ht:t∈a):Xh a t.inside=a:=vJ _ _ λx b=>h t ht x b
theorem Uj:∀(b a:List Th),∃m,Xh a b=a++m
 |[],a=>{[],by simp[Rq]}
 |x::r,a=>by
  rw[Ob];split
  .exact Uj r a
  .obtain⟨m,e⟩:=Uj r (a++[x]);exact{x::m,by rw[e];simp}
noncomputable def qV(t:Th):List TQ:=t.word::t.parts.map Th.word
end Sb
namespace L2
open PySem PySem.Spec PyProof.Rows
theorem iH(x:V)(a:List V):Jf (x::a) (Ga 1) Gq=a:=by
 have e:HT.Vc (x::a).length 0 (Ga 1)=1:=by have q:=HT.Iz (x::a).length 0 1;rw[TB]at q⊢;refine q.trans ?_;lia
 unfold Jf;rw[e,HT.Rt];simp
theorem Wm(x:V)(a:List V):¬(HT.Vc (x::a).length 0 (Ga 1)=0/\HT.Vc (x::a).length (x::a).length Gq=(x::a).length):=by
 have e:HT.Vc (x::a).length 0 (Ga 1)=1:=by have q:=HT.Iz (x::a).length 0 1;rw[TB]at q⊢;refine q.trans ?_;ext
 rw[e];rintro⟨h,_⟩;exact absurd h (by decide)
end L2
namespace Sb
open PySem PySem.Spec PyProof.Rows L2
variable{H H':Hp}{v:V}{t:Th}
mutual
inductive Z7(H:Hp):V->Th->Prop
 |mk {a:Gd} {w:TQ} {vs:List V} {ps:List Th}:H a=Ga (.tup (.str w::vs))->Zy H vs ps->Z7 H (.ref a) (.mk w ps)
inductive Zy(H:Hp):List V->List Th->Prop
 |nil:Zy H [] []
 |cons {v:V} {vs:List V} {t:Th} {ts:List Th}:Z7 H v t->Zy H vs ts->Zy H (v::vs) (t::ts)
end
def Q7(H H':Hp):Prop:=∀b xs,H b=Ga (.tup xs)->H' b=Ga (.tup xs)
theorem Q7.of(e:Q9 H H'):Q7 H H':=λb a h=>e b _ h
theorem Q7.trans{d e:Hp}(a:Q7 H d)(b:Q7 d e):Q7 H e:=λc f h=>b c f (a c f h)
theorem Z2{a:Gd}{o:HO}(h:∀c,H a≠Ga (.tup c)):Q7 H (zj H a o):=λb c e=>by
 by_cases d:b=a
 .subst d;exact absurd e (h c)
 .rw[Qh d];exact e
mutual
theorem Z7.Qv{H a:Hp}(e:Q7 H a):∀{v:V}{t:Th},Z7 H v t->Z7 a v t
 |_,_,.mk h r=>.mk (e _ _ h) (Zy.Qv e r)
theorem Zy.Qv{H a:Hp}(e:Q7 H a):∀{c:List V}{b:List Th},Zy H c b->Zy a c b
 |_,_,.nil=>.nil
 |_,_,.cons h r=>.cons (Z7.Qv e h) (Zy.Qv e r)
end
theorem Z7.same(e:Q9 H H')(h:Z7 H v t):Z7 H' v t:=h.Qv (Q7.of e)
theorem Zy.same(e:Q9 H H'){b:List V}{a:List Th}(h:Zy H b a):Zy H' b a:=h.Qv (Q7.of e)
mutual
theorem Z7.dt{H:Hp}:∀{v:V}{t:Th},Z7 H v t->Dt H v t.toD
 |_,_,.mk (w:=w) (ps:=ps) h r=>by
  have e:(Th.mk w ps).toD=.tuple (.str w::X9 ps):=by simp[Th.toD]
  rw[e];exact .tup h (.cons (.str w) (Zy.dts r))
theorem Zy.dts{H:Hp}:∀{b:List V}{a:List Th},Zy H b a->hH H b (X9 a)
 |_,_,.nil=>by simp only[X9];exact .nil
 |_,_,.cons h r=>by simp only[X9];exact .cons (Z7.dt h) (Zy.dts r)
end
theorem Z7.inv(h:Z7 H v t):∃a w c b,v=.ref a/\t=.mk w b/\H a=Ga (.tup (.str w::c))/\Zy H c b:=by
 cases h with
 |mk h r=>exact{3201,h,r}
theorem Zy.length{H:Hp}:∀{b:List V}{a:List Th},Zy H b a->b.length=a.length
 |_,_,.nil=>rfl
 |_,_,.cons _ t=>by rw[TB,TB,t.length]
theorem Zy.append{H:Hp}:∀{d c:List V}{b a:List Th},Zy H d b->Zy H c a->Zy H (d++c) (b++a)
 |_,_,_,_,.nil,t=>t
 |_,_,_,_,.cons h r,t=>.cons h (r.append t)
theorem Zy.one(h:Z7 H v t):Zy H [v] [t]:=.cons h .nil
theorem Zy.get{H:Hp}:∀{b:List V}{a:List Th}{i:Nat}{v:V},Zy H b a->b[i]?=Ga v->∃t,a[i]?=Ga t/\Z7 H v t
 |_,_,_,_,.nil,e=>by simp at e
 |_,_,0,_,.cons h _,e=>by simp at e;subst e;exact{0,h}
 |_,_,i+1,_,.cons _ t,e=>by have(d,c,f):=Zy.get (i:=i) t (by simpa using e);exact{d,by simpa using c,f}
theorem Zy.at{H:Hp}{b:List V}{a:List Th}{i:Nat}{t:Th}(h:Zy H b a)(e:a[i]?=Ga t):∃v,b[i]?=Ga v/\Z7 H v t:=by
 have hi:i<a.length:=(Gg.mp e).1;have d:i<b.length:=by rw[h.length];exact hi
 have(g,c,f):=h.get (Ge d);rw[e]at c;cases c;exact{_,Ge d,f}
mutual
def W8:DO->Nat
 |.none=>1|.bool _=>1|.int _=>1|.str _=>1
 |.list xs=>Z0 xs+1
 |.tuple xs=>Z0 xs+1
 |.dict _=>1
def Z0:List DO->Nat
 |[]=>0
 |x::r=>W8 x+Z0 r
end
theorem yV(d:DO):1<=W8 d:=by cases d<;>simp[W8]
theorem Wv:∀b a:List DO,Z0 (b++a)=Z0 b+Z0 a
 |[],a=>by simp[Z0]
 |x::r,a=>by simp only[Dp,Z0,Wv r a];lia
theorem Jq:∀a:List DO,a.length<=Z0 a
 |[]=>by simp[Z0]
 |x::r=>by have:=yV x;have:=Jq r;simp only[Z0,TB];lia
mutual
theorem pV:∀t:Th,W8 t.toD=2*t.size
 |.mk w a=>by simp only[Th.toD,W8,Z0,Th.size,vc a];lia
theorem vc:∀a:List Th,Z0 (X9 a)=2*Q6 a
 |[]=>by simp[X9,Z0,Q6]
 |t::r=>by simp only[X9,Z0,Q6,pV t,vc r];ext
end
theorem Rr:∀(a:List Th)(n:Nat),(∀t∈a,t.size<=n)->Q6 a<=a.length*n
 |[],n,_=>by simp[Q6]
 |t::r,n,h=>by have b:=h t Tc;have c:=Rr r n λs hs=>h s (Gr _ hs);simp only[Q6,TB];rw[S9];lia
structure Drawn(ts:List Th)(m:Nat):Prop where
 len:ts.length=3+m
 ok:∀t∈ts,t.ok=Gi
 dep:∀(j:Nat)t,ts[j]?=Ga t->t.depth<=j+1
 one:∀(j:Nat)t,ts[j]?=Ga t->j<=2->t.size<=1
 two:∀(j:Nat)t,ts[j]?=Ga t->j<=3->t.size<=4
 tri:∀(j:Nat)t,ts[j]?=Ga t->j<=4->t.size<=10
 any:∀(j:Nat)t,ts[j]?=Ga t->t.size<=12*j+1
 sh:∀t∈ts,t.short=Gi
 tab:ts[1]?=Ga (.mk "tab" [])
 cl:∀t∈ts,∀p∈t.parts,p∈ts
inductive vX(K:Gf)(vs:List V)(H:Hp)(Q:VK):Prop
 |mk (a:Gd) (ns:List Int) (h0:vs=[.ref a]) (h1:Uw K H a (ns.map V.int)) (h2:ns.length<=63) (h3:∀(r:Gd)(us:List V)(ts:List Th)(H':Hp),Q9 H H'->H r=Gq->H' r=Ga (.lst us)->Zy H' us ts->Drawn ts ns.length->Q (.ref r) H'):vX K vs H Q
def A9(K:Gf):Sp:=λa H Q _=>vX K a H Q
inductive yl(vs:List V)(H:Hp)(Q:VK):Prop
 |mk (n:Int) (h0:vs=[.int n]) (h1:∀(x:TQ),Oo x=Gi->Q (.str x) H):yl vs H Q
def xU:Sp:=λa H Q _=>yl a H Q
inductive Am(vs:List V)(H:Hp)(Q:VK):Prop
 |mk (x:V) (y:V) (d:DO) (h0:vs=[x,y]) (h1:Dt H x d) (h2:Dt H y d) (h3:d.canLay0=Gi) (h4:W8 d<=1000000) (h5:d.depth<=60) (h6:∀(H':Hp),Q9 H H'->Q (.bl Gi) H'):Am vs H Q
def qF:Sp:=λa H Q _=>Am a H Q
inductive sR(K:Gf)(vs:List V)(H:Hp)(Q:VK):Prop
 |mk (a:Gd) (ns:List Int) (h0:vs=[.ref a]) (h1:Uw K H a (ns.map V.int)) (h2:ns.length<=63) (h3:∀H',Q (.bl Gi) H'):sR K vs H Q
def nM(K:Gf):Sp:=λa H Q _=>sR K a H Q
end Sb
namespace L2
open PySem PySem.Spec PyProof.Rows
variable{h:Heap}{v:Gj}{as:List Gd}
inductive KD where
 |int (i:Int)
 |str (x:TQ)
 |tup (xs:List KD)
mutual
def KD.toD:KD->DO
 |.int i=>.int i
 |.str x=>.str x
 |.tup xs=>.tuple (Ji xs)
def Ji:List KD->List DO
 |[]=>[]
 |x::r=>x.toD::Ji r
end
mutual
def KD.depth:KD->Nat
 |.int _=>0
 |.str _=>0
 |.tup xs=>Ru xs+1
def Ru:List KD->Nat
 |[]=>0
 |x::r=>max x.depth (Ru r)
end
mutual
def KD.hash(w:Tg):KD->Int
 |.int i=>hashInt i
 |.str x=>hashStr w x
 |.tup xs=>reduceHash (Em (U9 w xs))
def U9(w:Tg):List KD->List Int
 |[]=>[]
 |x::r=>x.hash w::U9 w r
end
mutual
def KD.draws:KD->Nat
 |.int _=>1
 |.str _=>1
 |.tup xs=>Wj xs+1
def Wj:List KD->Nat
 |[]=>0
 |x::r=>x.draws+Wj r
end
theorem Qz9:∀a:List KD,Ji a=a.map KD.toD
 |[]=>by simp[Ji]
 |x::r=>by simp[Ji,Qz9 r]
theorem Kr(w:Tg):∀a:List KD,U9 w a=a.map (KD.hash w)
 |[]=>by simp[U9]
 |x::r=>by simp[U9,Kr w r]
theorem Rz:∀b a:List KD,Wj (b++a)=Wj b+Wj a
 |[],a=>by simp[Wj]
 |x::r,a=>by simp only[Dp,Wj,Rz r a];lia
theorem qy:∀{xs:List KD}{x:KD},x∈xs->x.depth<=Ru xs
 |y::r,x,h=>by
  simp only[Ru];rcases Tf.mp h with rfl|h
  .lia
  .have:=qy h;lia
mutual
theorem lA:∀a b:KD,TW a.toD b.toD=Gi↔a=b
 |.int i,.int j=>by simp[KD.toD,TW]
 |.int i,.str y=>by simp[KD.toD,TW]
 |.int i,.tup d=>by simp[KD.toD,TW]
 |.str x,.int j=>by simp[KD.toD,TW]
 |.str x,.str y=>by simp[KD.toD,TW]
 |.str x,.tup d=>by simp[KD.toD,TW]
 |.tup c,.int j=>by simp[KD.toD,TW]
 |.tup c,.str y=>by simp[KD.toD,TW]
 |.tup c,.tup d=>by simp only[KD.toD,TW,KD.tup.injEq];exact sV c d
theorem sV:∀a b:List KD,Ds (Ji a) (Ji b)=Gi↔a=b
 |[],[]=>by simp[Ji,Ds]
 |[],_::_=>by simp[Ji,Ds]
 |_::_,[]=>by simp[Ji,Ds]
 |x::r,y::q=>by simp only[Ji,Ds,T5,Db];rw[lA x y,sV r q]
end
instance:DecidableEq KD:=λa b=>if h:TW a.toD b.toD=Gi then .isTrue ((lA a b).mp h)else .isFalse λe=>h ((lA a b).mpr e)
theorem Qmq(a b:KD):TW a.toD b.toD=decide (a=b):=by
 by_cases h:a=b
 .rw[Ti h];exact(lA a b).mpr h
 .rw[Td h];exact Mq.mpr λe=>h ((lA a b).mp e)
mutual
theorem oC:∀a:KD,a.toD.depth=a.depth
 |.int _=>by simp[KD.toD,Dw,KD.depth]
 |.str _=>by simp[KD.toD,Dw,KD.depth]
 |.tup b=>by simp only[KD.toD,Dw,KD.depth,z0 b]
theorem z0:∀a:List KD,TV (Ji a)=Ru a
 |[]=>by simp[Ji,TV,Ru]
 |x::r=>by simp only[Ji,TV,Ru,oC x,z0 r]
end
theorem R6{c:List DO}(r:M9 h v (.tuple c) as):∃a o b n,v=.ref a/\h.get? a=Ga o/\o.cls=.type "tuple"/\o.data=.seq b n/\FZ h b.toList c as:=by
 cases r with
 |tuple d e f g=>exact{320,d,e,f,g}
theorem KD.ind{p:KD->Prop}(hi:∀i,p (.int i))(hs:∀x,p (.str x))(ht:∀c,(∀k∈c,p k)->p (.tup c))(k:KD):p k:=
 KD.rec (motive_1:=p) (motive_2:=λc=>∀k∈c,p k) hi hs ht (λ_ h=>nomatch h) (λx r a b k h=>(Tf.mp h).elim (λe=>e▸a) (b k)) k
theorem XQ{g:Heap}{d:Gd}{o:S8}{s:Array Lz}{y:Nat}(A:h.get? d=Ga o)(z:o.data=.dict s y)(hs:Ew d h g){x:DO}(k:M9 h v x as):x.canLay0=Gi->M9 g v x as:=by
 have j:∀{a:Gd}{p:S8}{u:Array Gj}{n:Nat},h.get? a=Ga p->p.data=.seq u n->g.get? a=Ga p:=by intro a p u n f e;refine(hs.2 a ?_).trans f;rintro rfl;rw[A]at f;cases f;rw[z]at e;cases e
 refine Reads.rec (motive_1:=λv x as _=>x.canLay0=Gi->M9 g v x as) (motive_2:=λl m as _=>Gw m=Gi->FZ g l m as) (λ_=>.none) (λb _=>.bool b) (λi t _=>.int i t) (λx t _=>.str x t) ?_ ?_ ?_ (λ_=>.nil) ?_ k
 .intro a o l n m as f q e _ r c;simp only[Tv]at c;exact .list (j f e) q e (r c)
 .intro a o l n m as f q e _ r c;simp only[Tv]at c;exact .tuple (j f e) q e (r c)
 .intro a o s n b as w _ _ _ _ _ _ _ c;simp[Tv]at c
 .intro v l d C as w _ _ b B c;simp only[Gw,T5]at c;exact .cons (b c.1) (B c.2)
theorem Kz(a b:KD){c:List Gd}(r:M9 h v a.toD as)(q:M9 h v b.toD c):a=b:=by
 refine KD.rec (motive_1:=λa=>∀(b:KD){v:Gj}{as c:List Gd},M9 h v a.toD as->M9 h v b.toD c->a=b) (motive_2:=λl=>∀(d:List KD){f:List Gj}{as c:List Gd},FZ h f (Ji l) as->FZ h f (Ji d) c->l=d) ?_ ?_ ?_ ?_ ?_ a b r q
 .intro i b v as c r q;simp only[KD.toD]at r;cases r;cases b<;>simp only[KD.toD]at q<;>cases q;rfl
 .intro i b v as c r q;simp only[KD.toD]at r;cases r;cases b<;>simp only[KD.toD]at q<;>cases q;rfl
 .intro l z b v as c r q;simp only[KD.toD]at r;have(a,o,f,n,rfl,k,m,u,w):=R6 r;cases b with
  |int j=>simp only[KD.toD]at q;cases q
  |str y=>simp only[KD.toD]at q;cases q
  |tup d=>simp only[KD.toD]at q;have(C,E,B,D,e,g,p,s,A):=R6 q;cases e;rw[k]at g;cases g;rw[u]at s;cases s;rw[z d w A]
 .intro d f as c r t;simp only[Ji]at r;cases r;cases d with
  |nil=>rfl
  |cons=>simp only[Ji]at t;cases t
 .intro x s e o d f as c r t;simp only[Ji]at r;cases r with
  |cons k m=>
   cases d with
   |nil=>simp only[Ji]at t;cases t
   |cons y q=>
    simp only[Ji]at t;cases t with
    |cons g p=>rw[e y k g,o q m p]
section
variable{prog:Gn}{w:Tg}
theorem Qri:∀(k:KD){A:DT}{E:Gj->Gz->Prop}{s:Gz}{v:Gj}{j:List Gd}{Q:Int->Gz->Prop},A.units+k.depth<EY->M9 s.heap v k.toD j->Q (k.hash w) {s with toks:=s.toks+k.draws}->
  wpAny (TU prog w) A (pyHash v) Q E s:=by
 intro k;induction k using KD.ind with
 |hi i=>intro A E s v j Q _ r h;simp only[KD.toD]at r;cases r;simp only[KD.hash,KD.draws]at h;exact RZ h
 |hs x=>intro A E s v j Q _ r h;simp only[KD.toD]at r;cases r;simp only[KD.hash,KD.draws]at h;exact Ba h
 |ht xs m=>
  intro A E s v j Q I r h;simp only[KD.toD]at r;simp only[KD.depth]at I;simp only[KD.hash,KD.draws]at h;have(a,o,y,n,rfl,B,G,H,hi):=R6 r;have q:s.TypeIs (.ref a) "tuple":=⟨o,B,G⟩;unfold pyHash;first|unfold pyHashByItsType|skip
  first|refine Gb (wpAny_cRoomFor_or (.inr (by lia)) ?_)|skip
  refine Gb (Sd q F.slot_tuple_hash.lookup ?_);show wpAny _ _ (if(Ga (Value.builtin "tuple.__hash__")==Ga DE)=Gi then _ else _) Q E s;rw[Gs (by rw[beq_builtin_none];exact TD)];refine Gb (Sd q F.slot_tuple_hash.lookup ?_);show wpAny _ _ (callSpecialIfBoundUnlessNone? (.ref a) "__hash__" _>>=_) Q E s;refine Gb (wpAny_callSpecialIfBoundUnlessNone?_slot q F.slot_tuple_hash (DC F.slot_tuple_hash q F.entry_tuple_hash ?_ (F.args_tuple_hash_1 _)));show wpAny _ _ (FX (.ref a)>>=_) _ _ s;refine Gb (wpAny_tupleItemsOf B H ?_);refine Gb ?_;rw[<-LU];refine Bl _
   (λX8(b:Array Int)z=>∃done left f,xs=done++left/\FZ s.heap X8 (Ji left) f/\b.toList=U9 w done/\z={s with toks:=s.toks+Wj done})
   _ ?_ ?_ _ _ {[],xs,j,1,hi,11}
  .rintro x X8 b z ⟨done,left,f,rfl,g,t,rfl⟩;cases left with
   |nil=>simp only[Ji]at g;cases g
   |cons k e=>
    simp only[Ji]at g;cases g with
    |cons D u=>
     have J:=qy (xs:=done++k::e) (x:=k) (by simp);refine Gb (m k (by simp) (A:=A.in1) (s:={s with toks:=s.toks+Wj done}) (by show A.units+1+k.depth<EY;lia) D ?_);have C:s.toks+Wj done+k.draws=s.toks+Wj (done++[k]):=by rw[Rz];simp only[Wj];lia
     have p:∃c d l,done++k::e=c++d/\FZ s.heap X8 (Ji d) l/\(b.push (k.hash w)).toList=U9 w c/\({s with toks:=s.toks+Wj done+k.draws}:Gz)={s with toks:=s.toks+Wj c}:=
      {done++[k],e,_,by simp,u,by simp[t,Kr],by rw[C]}
     first
      |exact Gm p
      |exact Gb (Gm (Gm p))
  .rintro b z ⟨done,left,f,rfl,g,t,rfl⟩;cases left with
   |cons k e=>simp only[Ji]at g;cases g
   |nil=>
    rw[DV]at h;show wpAny _ _ (retInt (Em b.toList)) _ _ _;rw[t];refine By ?_;show wpAny _ _ (if(decide (-(2:Int)^63<=Em (U9 w done))&&decide (Em (U9 w done)<2^63))=Gi then _ else _) Q E _;unfold reduceHash at h;by_cases c:(decide (-(2:Int)^63<=Em (U9 w done))&&decide (Em (U9 w done)<2^63))=Gi
    .rw[GV c];rw[GV c]at h;exact Gm (by simpa[CI]using h)
    .rw[Gs c];rw[Gs c]at h;exact Gb (Fg (Gm (by simpa[CI]using h)))
theorem Qvh:∀(k:KD)(n:Nat){A:DT}{E:Gj->Gz->Prop}{s:Gz}{v:Gj}{d:List Gd}{Q:Bool->Gz->Prop},k.depth<=n->M9 s.heap v k.toD d->Q Gi s->wpAny (TU prog w) A (eqIsQuiet n v) Q E s:=by
 intro k;induction k using KD.ind with
 |hi i=>intro n A E s v d Q _ r h;simp only[KD.toD]at r;cases r;rw[RS n rfl];exact Gm h
 |hs x=>intro n A E s v d Q _ r h;simp only[KD.toD]at r;cases r;rw[RS n rfl];exact Gm h
 |ht B f=>
  intro n A E s v d Q u r h;cases n with
  |zero=>simp[KD.depth]at u
  |succ n=>
  simp only[KD.toD]at r;simp only[KD.depth]at u;have(a,o,c,m,rfl,y,D,G,hi):=R6 r;have t:s.TypeIs (.ref a) "tuple":=⟨o,y,D⟩;unfold eqIsQuiet;refine Gb (Sd t F.slot_tuple_eq.lookup ?_);show wpAny _ _ (isInstance (.ref a) (.type "tuple")>>=_) _ _ s;refine Gb (LB t isSubtype_tuple_tuple ?_);simp only[CJ,DK,EB];refine Gb (Eh y G ?_);refine Gb ?_;show wpAny _ _ (forIn c _ _) _ _ s;rw[<-LU];refine Bl _ (λX8 r q=>r.1=Gq/\q=s/\∃left e,(∀k∈left,k∈B)/\FZ s.heap X8 (Ji left) e) _ ?_ ?_ _ _ {11,B,d,λ_ z=>z,hi}
  .rintro v X8 r q ⟨l,rfl,left,e,b,g⟩;cases left with
   |nil=>simp only[Ji]at g;cases g
   |cons k p=>
    simp only[Ji]at g;cases g with
    |cons C j=>have I:=qy (b k (by simp));refine Gb (f k (b k (by simp)) n (by lia) C ?_);simp only[CJ,DK,EB];exact Gm {11,p,_,λz H=>b z (Gr _ H),j}
  .rintro⟨b,g⟩ q ⟨l,rfl,_⟩;simp only at l;subst l;exact Gm h
def V3(prog:Gn)(w:Tg):HM prog w KD where
 is:=λh k a=>(∃c,M9 h (.ref a) k.toD c)/\k.toD.canLay0=Gi/\k.depth<=8
 hash:=KD.hash w
 draws:=KD.draws
 room:=λA=>A.units+10<EY
 inj:=λ⟨⟨_,h1⟩,_⟩⟨⟨_,h2⟩,_⟩=>Kz _ _ h1 h2
 keeps:=λ⟨⟨c,h1⟩,h2,d⟩f e hs=>{{c,XQ f e hs h1 h2},h2,d}
 pyHash:=λ{A E s k a Q}g⟨⟨c,h1⟩,_,d⟩h=>Qri k (by ext) h1 h
 eqBool:=λ{A E s x y a b Q}g⟨⟨c,h1⟩,h2,d⟩⟨⟨l,i⟩,j,m⟩h=>Hh x.toD y.toD A s _ _ _ _ h1 i h2 j (by rw[oC,oC];ext) prog w E Q (by rw[Qmq];exact h)
 quiet:=λ{A E s k a Q}⟨⟨c,h1⟩,_,d⟩h=>Qvh k 8 d h1 h
end
end L2
namespace PySem
def Heap.I9(h:Heap)(d:Gd)(es:Array Lz)(ep:Nat):Prop:=∃o,h.get? d=Ga o/\o.ExactDict/\o.data=.dict es ep
section
variable{prog:Gn}{w:Tg}{A:DT}{E:Gj->Gz->Prop}{s:Gz}{d:Gd}{es:Array Lz}{ep:Nat}
theorem Heap.I9.typeIs(x:s.heap.I9 d es ep):s.TypeIs (.ref d) "dict":=let⟨o,ho,hc,_⟩:=x;{o,ho,hc.1}
theorem Heap.I9.at{h a:Heap}(x:h.I9 d es ep)(e:∀o,h.get? d=Ga o->a.get? d=Ga o):a.I9 d es ep:=let⟨o,ho,r⟩:=x;{o,e _ ho,r}
theorem Heap.I9.lt{h:Heap}(x:h.I9 d es ep):d<h.objs.size:=let⟨_,ho,_⟩:=x;Tn ho
theorem Qxi{Q:Gj->Gz->Prop}(e:(d==Ef)=Gx)(b:s.heap.I9 d es ep)(c:(es.size:Int)<2^63)
  (h:Q (.int es.size (s.toks+1)) {s with toks:=s.toks+1+1}):wpAny (TU prog w) A (call (.builtin "len") [.ref d]) Q E s:=by
 have(o,f,c,a):=id b;refine Mh kind_len plain_len entry_len (args_len1 _) ?_;unfold Builtin.«len»;refine Gb (m:=oneArg "len" _) (Gm ?_);refine Gb (m:=callSpecial? (.ref d) (EI "__len__")) (DN (name:=EI "__len__") b.typeIs F.slot_dict_len
  (DC F.slot_dict_len b.typeIs F.entry_dict_len ?_ (F.args_dict_len_1 _)))
 show wpAny _ _ (dictSize d>>=_) _ _ s;unfold dictSize;refine Gb (Gb (EJ f a (Gm ?_)));show wpAny _ _ (Cb d>>=_) _ _ s;refine Gb (wpAny_pendingCount_other e ?_);refine By ?_;rw[RT];show wpAny _ _ _ _ _ {s with toks:=s.toks+1};refine Gb (D9 (Gm ?_));refine Gb (Mr ?_);show wpAny _ _ (if((es.size:Nat):Int)<0 then _ else _) _ _ _;rw[Gs (by lia)];show wpAny _ _ (if((es.size:Nat):Int)>=2^63 then _ else _) _ _ _;rw[Gs (by lia)];exact Gb (wpAny_mkInt (Gm {0,h}))
theorem VL{Q:Gj->Gz->Prop}(g:(d==Ef)=Gx)(c:s.heap.I9 d es ep)
  (f:Q (.ref s.heap.objs.size) {s with heap:=s.heap.push {cls:=.type "dict_keyiterator",data:=.fields #[.ref d,.int 0 0,.int es.size 0,.int ep 0]}}):
  wpAny (TU prog w) A (pyIter (.ref d)) Q E s:=by
 have(o,e,h,a):=id c;have b:=c.typeIs;refine Ms b F.slot_dict_iter (DC F.slot_dict_iter b F.entry_dict_iter ?_ (F.args_dict_iter_1 _));unfold Builtin.«dict.__iter__»;refine Gb ?_;unfold Cc;refine Gb (Fc b ?_);show wpAny _ _ (pure (Tk d)) _ _ s;refine Gm ?_;show wpAny _ _ (Ls d>>=_) _ _ s;unfold Ls;rw[Gs (by rw[g];exact TD)];refine Gb (Gm ?_);refine Gb (EJ e a ?_);refine Gb (Lj e a ?_);refine Gb (DD (Gm {0,"dict_keyiterator",_,{_,To _ Xb,1},F.slot_dict_keyiterator_next.lookup,?_}));simpa[rawInt]using f
theorem Qr6{f:Gd}{i:Nat}{e:Lz}{Q:Option Gj->Gz->Prop}(a:s.heap.IsKeyIter f d i es.size ep)(u:s.heap.I9 d es ep)(m:es[i]?=Ga e)
  (p:∀h,h.IsKeyIter f d (i+1) es.size ep->Ew f s.heap h->Q (Ga e.key) {s with heap:=h}):
  wpAny (TU prog w) A (pyNext (.ref f)) Q E s:=by
 have(o,n,q,l):=id a;have(v,j,r,g):=id u;unfold pyNext;refine Gb (Fk (DN (name:=EI "__next__") a.typeIs F.slot_dict_keyiterator_next
  (DC F.slot_dict_keyiterator_next a.typeIs F.entry_dict_keyiterator_next ?_ (F.args_dict_keyiterator_next_1 _))))
 refine Gb (Gm ?_);refine Gb ?_;refine Gb ?_;first|refine Gb (E3 a.typeIs (Gm ?_))|refine Gb (SK a.typeIs (Gm ?_))
 refine Gb (Ma n l ?_);have k:Ez "dict_keyiterator"=Gx:=by decide
 simp only[k,DK,EB];show wpAny _ _ (if(Tk d==DE)=Gi then _ else _) _ _ s;rw[Gs (show¬((Tk d==DE)=Gi)from TD)];refine Gb (Gm ?_);refine Gb (EJ j g ?_);rw[Gs (by simp)];refine Gb (Gm ?_);refine Gb (Lj j g ?_);rw[Gs (by simp)];refine Gm ?_;have c:i<es.size:=by
  rcases Dh i es.size with h|h
  .exact h
  .rw[El h]at m;cases m
 have t:es[i]=e:=by rw[T6 c]at m;exact T3 m
 simp only[show¬((i:Int)<0)from by ext,EB,Er,T6 c];refine Gb ?_;first|refine Gb (E3 a.typeIs (Gm ?_))|refine Gb (SK a.typeIs (Gm ?_))
 refine Gb (Nf a.typeIs ?_);show wpAny _ _ (setField (.ref f) 1 (rawInt ((i:Int)+1))>>=_) _ _ s;refine Gb (Lx n l (by simp) ?_);have b:(s.heap.update f (Fl (·.setIfInBounds 1 (rawInt ((i:Int)+1))))).IsKeyIter f d (i+1) es.size ep:=
  {_,DU _ n (Fd (So l _)),(Mt ..).trans q,by rw[So l];simp[rawInt]}
 refine Gb (D9 ?_);refine Gb (Nf (s:={s with heap:=s.heap.update f (Fl (·.setIfInBounds 1 (rawInt ((i:Int)+1))))}) b.typeIs ?_);show wpAny _ _ (pure es[i].key) _ _ _;rw[t];exact Gm (Gm {0,Gm (p _ b (Eb ..))})
theorem VZ{f:Gd}{i:Nat}{Q:Option Gj->Gz->Prop}(n:A.handled=Gq)(a:s.heap.IsKeyIter f d i es.size ep)(p:s.heap.I9 d es ep)(g:es.size<=i)
  (l:∀h,Nu f s.heap h->Q Gq {s with heap:=h}):wpAny (TU prog w) A (pyNext (.ref f)) Q E s:=by
 have(o,k,h,j):=id a;have(q,c,m,b):=id p;unfold pyNext;refine Gb (Fk (DN (name:=EI "__next__") a.typeIs F.slot_dict_keyiterator_next
  (DC F.slot_dict_keyiterator_next a.typeIs F.entry_dict_keyiterator_next ?_ (F.args_dict_keyiterator_next_1 _))))
 refine Gb (Gm ?_);refine Gb ?_;refine Gb ?_;first|refine Gb (E3 a.typeIs (Gm ?_))|refine Gb (SK a.typeIs (Gm ?_))
 refine Gb (Ma k j ?_);have e:Ez "dict_keyiterator"=Gx:=by decide
 simp only[e,DK,EB];show wpAny _ _ (if(Tk d==DE)=Gi then _ else _) _ _ s;rw[Gs (show¬((Tk d==DE)=Gi)from TD)];refine Gb (Gm ?_);refine Gb (EJ c b ?_);rw[Gs (by simp)];refine Gb (Gm ?_);refine Gb (Lj c b ?_);rw[Gs (by simp)];refine Gm ?_;simp only[show¬((i:Int)<0)from by ext,EB,Er,El g];refine Gb ?_;first|refine Gb (E3 a.typeIs (Gm ?_))|refine Gb (SK a.typeIs (Gm ?_))
 show wpAny _ _ (setField (.ref f) 0 .none>>=_) _ _ s;refine Gb (Lx k j (by simp) ?_);show wpAny _ _ (newExc (.type "StopIteration") []>>=_) _ _ _;refine Gb ?_;simp only[newExc,newTuple];refine Gb (DD ?_ (by size_fits));refine Gb (m:=firstArgMember _ _) (Bs (a:=DE) (by first|rfl|(simp only[firstArgMember];rfl)) ?_);refine DD ?_ (by size_fits);simp only[raiseNew];refine Gb (NP ?_);rw[show A.in1.handled=Gq from n];refine Gb (Gm (Bt ?_));refine Gb (LB (T:="StopIteration") (b:=Gi) {_,To _ Xb,1} Nv ?_);exact Gm (l _ (((Eb ..).extBut.push _).push _))
theorem Walks.Q0g(t:A.handled=Gq)(I d:Gd)(n:d≠I)(c:Array Lz)(p:Nat):
  Walks prog w A I [I,d] [I] c.size (λi v=>∃e,c[i]?=Ga e/\v=e.key) (λi h=>h.IsKeyIter I d i c.size p/\h.I9 d c p) where
 sub:=λb f=>by simp at f;simp[f]
 frame:=λ_ _ _ a q=>{a.1.at λo e=>q I (by simp) o e,a.2.at λo e=>q d (by simp) o e}
 item:=λi s Q E hi a g=>by have r:c[i]?=Ga c[i]:=T6 hi;refine Qr6 a.1 a.2 r λl j k=>?_;exact g _ l s.toks {_,r,1} {j,a.2.at λo e=>(k.2 d n).trans e} λb o f e=>k.extBut b o (λh=>f (by simp[h])) e
 done:=λs Q E a g=>VZ t a.1 a.2 (GJ _) λl m=>g l s.toks λb o f e=>m b o (λh=>f (by simp[h])) e
 self:=λ_ _ _ _ a g=>Nw a.1 g
theorem XF(g:(d==Ef)=Gx):BN prog w "dict" d d es.size (λi v=>∃e,es[i]?=Ga e/\v=e.key) (λh=>h.I9 d es ep) where
 type:=λ_ a=>a.typeIs
 there:=λ_ a=>{a.lt,a.lt}
 keep:=λ_ _ a f=>a.at λo e=>f d (.inl Xb) o e
 notList:=by decide
 notTuple:=by decide
 hint:=λ_ _ _ _ a b=>Hn a.typeIs b
 iter:=λ_ _ c a=>{2,(λ_ _ b=>VL g a b),Walks.Q0g c _ d (T2 a.lt) es ep,{{_,To _ Xb,11},a.at λo e=>Gp _ e}}
end
end PySem
namespace L2
open PySem PySem.Spec PyProof.Rows
variable{k:KD}
abbrev KE:=KD×Gd×V
variable{zw:List KE}
noncomputable def Yt(zw:List KE)(k:KD):Option V:=(zw.find? λp=>decide (p.1=k)).map (·.2.2)
noncomputable def Vo(zw:List KE)(k:KD)(b:Gd)(v:V):List KE:=if(Yt zw k).isSome=Gi then zw.map (λp=>if p.1=k then(p.1,p.2.1,v)else p)else zw++[(k,b,v)]
abbrev KX:List KE->List (KD×Gd×Gj)->Prop:=Dg λp q=>p.1=q.1/\p.2.1=q.2.1/\zu p.2.2 q.2.2
def so(P:Gn)(w:Tg)(a:Gd)(zw:List KE)(h:Heap):Prop:=
 zw.length<=TH/\(a==Ef)=Gx/\∃xs,KX zw xs/\∃o es ep,h.get? a=Ga o/\o.ExactDict/\o.data=.dict es ep/\es.toList=xs.map (entryOfKey (V3 P w))/\(xs.map (·.1)).Nodup
def Uv(P:Gn)(w:Tg)(a:Gd)(zw:List KE):HO:=.ext (so P w a zw)
def Jg(H:Hp)(zw:List KE):Prop:=∀p∈zw,Dt H (.ref p.2.1) p.1.toD/\p.1.toD.canLay0=Gi/\p.1.depth<=8
def iu(H:Hp)(b:Gd)(k:KD):Prop:=Dt H (.ref b) k.toD/\k.toD.canLay0=Gi/\k.depth<=8
theorem qo{P:Gn}{w:Tg}{H:Hp}{h:Heap}{a:Gd}(x:so P w a zw h):Yj P w H h a (Uv P w a zw):=by
 exists x,?_
 .obtain⟨_,_,_,_,o,_,_,e,_⟩:=x;exact⟨o,e⟩
 .rintro i j ⟨f,g,d,r,o,c,b,e,q⟩ k;exact{f,g,d,r,o,c,b,k o e,q}
theorem KX.val{i:List (KD×Gd×Gj)}(r:KX zw i)(k:KD):Rj (Yt zw k) ((atKey i k).map (·.2)):=by
 induction r with
 |nil=>exact DJ
 |@cons p q d f h t l=>
  have(g,_,j):=h;by_cases e:p.1=k
  .have a:q.1=k:=g.symm.trans e;have b:atKey (q::f) k=Ga q.2:=by simp[atKey,DZ,a]
   have c:Yt (p::d) k=Ga p.2.2:=by simp[Yt,DZ,e]
   rw[c,b];exact j
  .have a:¬q.1=k:=λz=>e (g.trans z);have b:atKey (q::f) k=atKey f k:=by simp[atKey,DZ,a]
   have c:Yt (p::d) k=Yt d k:=by simp[Yt,DZ,e]
   rw[c,b];exact l
theorem KX.put{c:List (KD×Gd×Gj)}(r:KX zw c)(k:KD)(b:Gd){v:V}{u:Gj}(f:zu v u):KX (Vo zw k b v) (storedH c k b u):=by
 have e:(Yt zw k).isSome=(atKey c k).isSome:=by rw[(r.val k).W9,SA]
 unfold Vo storedH;rw[e];by_cases q:(atKey c k).isSome=Gi
 .rw[GV q,GV q];clear q e;induction r with
  |nil=>exact .nil
  |@cons p q j l h t i=>
   rw[Tp,Tp];refine .cons ?_ i;have(a,d,g):=h;unfold putAt;by_cases e:p.1=k
   .rw[GV e,GV (a.symm.trans e)];exact⟨a,d,f⟩
   .rw[Gs e,Gs (λz=>e (a.trans z))];exact⟨a,d,g⟩
 .rw[Gs q,Gs q];exact E2 r ⟨Xb,Xb,f⟩
theorem ng(a:List KE)(k:KD)(b:Gd)(v:V):(Vo a k b v).length<=a.length+1:=by
 unfold Vo;split
 .rw[Gv];ext
 .rw[Gk,Gy];ext
theorem uk(b:Gd)(v:V)(h:Yt zw k=Gq):Vo zw k b v=zw++[(k,b,v)]:=by unfold Vo;rw[h];exact Gs (by decide)
theorem xm{u:V}(b:Gd)(v:V)(h:Yt zw k=Ga u):Vo zw k b v=zw.map (λp=>if p.1=k then(p.1,p.2.1,v)else p):=by unfold Vo;rw[h];exact GV rfl
theorem Y9{p:KE}{r:List KE}(e:p.1=k):Yt (p::r) k=Ga p.2.2:=by simp[Yt,DZ,e]
theorem Y2{p:KE}{r:List KE}(e:¬p.1=k):Yt (p::r) k=Yt r k:=by simp[Yt,DZ,e]
theorem qw(k j:KD)(b:Gd)(y:V):∀a:List KE,Yt a k=Gq->Yt (a++[(k,b,y)]) j=if j=k then Ga y else Yt a j
 |[],_=>by
  by_cases e:k=j
  .rw[GV e.symm];exact Y9 (p:=(k,b,y)) e
  .rw[Gs (λz=>e z.symm)];exact Y2 (p:=(k,b,y)) e
 |p::r,c=>by
  rw[Dp];have d:¬p.1=k:=λz=>by rw[Y9 z]at c;cases c
  rw[Y2 d]at c;have f:=qw k j b y r c;by_cases e:p.1=j
  .rw[Y9 e,Y9 e,Gs (λz=>d (e.trans z))]
  .rw[Y2 e,Y2 e,f]
theorem yQ(k j:KD)(y:V):∀a:List KE,Yt (a.map λp=>if p.1=k then(p.1,p.2.1,y)else p) j=(Yt a j).map λx=>if j=k then y else x
 |[]=>rfl
 |p::r=>by
  have b:=yQ k j y r;rw[Tp];by_cases h:p.1=k
  .rw[GV h];by_cases e:p.1=j
   .rw[Y9 (p:=(p.1,p.2.1,y)) e,Y9 e,D0,GV (e.symm.trans h)]
   .rw[Y2 (p:=(p.1,p.2.1,y)) e,Y2 e,b]
  .rw[Gs h];by_cases e:p.1=j
   .rw[Y9 (p:=p) e,Y9 e,D0,Gs (λz=>h (e.trans z))]
   .rw[Y2 (p:=p) e,Y2 e,b]
theorem J2(a:List KE)(k j:KD)(b:Gd)(y:V):Yt (Vo a k b y) j=if j=k then Ga y else Yt a j:=by
 cases q:Yt a k with
 |none=>rw[uk b y q,qw k j b y a q]
 |some u=>
  rw[xm b y q,yQ];by_cases e:j=k
  .rw[GV e,e,q,D0,GV rfl]
  .rw[Gs e];cases Yt a j with
   |none=>rfl
   |some x=>rw[D0,Gs e]
theorem SB(a:List KE)(k:KD)(b:Gd)(v:V):∀p∈Vo a k b v,(p.1=k/\p.2.1=b)\/∃u,(p.1,p.2.1,u)∈a:=λp c=>by
 unfold Vo at c;split at c
 .obtain⟨q,d,e⟩:=Tw.mp c;right;split at e
  .subst e;exact{q.2.2,d}
  .subst e;exact{q.2.2,d}
 .rcases Gh.mp c with h|h
  .exact .inr {p.2.2,h}
  .rw[Tb]at h;subst h;exact .inl ⟨Xb,Xb⟩
theorem Jg.put{H:Hp}{b:Gd}{v:V}(h:Jg H zw)(d:iu H b k):Jg H (Vo zw k b v):=λp e=>by
 rcases SB zw k b v p e with⟨a,c⟩|⟨u,f⟩
 .rw[a,c];exact d
 .exact h (p.1,p.2.1,u) f
section
variable{X:Cx}{zq:List (Gd×S8)}{σ:St}{H:Hp}{s:Gz}{a b:Gd}{zw:List KE}{k:KD}
theorem iu.is(I:zv X zq σ H s)(h:iu H b k):(V3 X.prog X.w).is s.heap k b:=by have(c,d,e):=h;have(a,r):=c.reads I.Yc (u:=.ref b) rfl;exact{⟨a,r⟩,d,e}
theorem kr(I:zv X zq σ H s)(e:H a=Ga (Uv X.prog X.w a zw)):so X.prog X.w a zw s.heap:=(I.Yc a _ e).1
theorem jU(I:zv X zq σ H s)(e:H a=Ga (Uv X.prog X.w a zw))(v:Jg H zw):zw.length<=TH/\(a==Ef)=Gx/\∃c,KX zw c/\s.heap.DictOfH (V3 X.prog X.w) a c:=by
 have(z,y,c,r,o,g,f,i,j,k,n,u):=kr I e;refine{z,y,c,r,o,g,f,i,j,k,n,λx b=>?_,u};have all:∀{l:List KE}{m:List (KD×Gd×Gj)},KX l m->(∀p∈l,p∈zw)->∀x∈m,(V3 X.prog X.w).is s.heap x.1 x.2.1:=by
  intro l m q;induction q with
  |nil=>intro _ x b;exact nomatch b
  |@cons p q A B d t w=>
   intro sub x b;rcases Tf.mp b with e|b
   .subst e;rw[<-d.1,<-d.2.1];exact iu.is I (v p (sub p (by simp)))
   .exact w (λp h=>sub p (Gr _ h)) x b
 exact all r (λ_ h=>h) x b
end
def pG(P:Gn)(w:Tg):TE:=λ_ H Q=>∀p,H p=Gq->Q (.ref p) (zj H p (Uv P w p []))
structure DH(P:Gn)(w:Tg)(H:Hp)(d:Gd)(zw:List KE):Prop where
 at_:H d=Ga (Uv P w d zw)
 keys:Jg H zw
section
variable{X:Cx}
theorem Rn{a:M3}:PE X (.Dict [] [] a) (pG X.prog X.w):=λb s c H Q I h=>
 MI ⟨.ref s.heap.objs.size,_,I.laid (a:=s.heap.objs.size) (o:=Uv X.prog X.w s.heap.objs.size []) (t':=s.toks) (λ_ _ q=>Gp _ q) (GJ _)
  (qo {Tu _,EK.mpr (Ta (T2 I.big)),[],.nil,_,#[],(0),To _ Xb,⟨Xb,Xb,Xb⟩,11,SV}),Xb,h _ (I.Yc.fresh (GJ _))⟩
inductive wJ(P:Gn)(w:Tg)(f:Bool->Bool)(x:V)(y:V)(H:Hp)(Q:VK):Prop
 |mk (b:_) (d:_) (k:_) (zw:_) (h0:x=.ref b) (h1:y=.ref d) (h2:DH P w H d zw) (h3:iu H b k) (h4:Q (.bl (f (Yt zw k).isSome)) H):wJ P w f x y H Q
def qd(P:Gn)(w:Tg)(f:Bool->Bool):R2:=λx y H Q=>wJ P w f x y H Q
theorem Q7n(a:X.A.units+64<EY):hA X (Ee .In) (qd X.prog X.w λb=>b):=by intro c s o H x y v u Q I l m h;have(b,d,k,j,rfl,rfl,D,i,q):=h;cases(show v=Tk b from l);cases(show u=Tk d from m);have(z,g,n,a,f):=jU I D.at_ D.keys;refine CG (knd:=V3 X.prog X.w) (show X.A.units+1+10<EY by ext) (i.is I) g f ?_;have e:=(a.val k).W9;rw[SA]at e;rw[<-e];exact{.bl _,H,I.tok _,1,q}
theorem ux(a:X.A.units+64<EY):hA X (Ee .NotIn) (qd X.prog X.w λb=>!b):=by intro c s o H x y v u Q I l m h;have(b,d,k,j,rfl,rfl,D,i,q):=h;cases(show v=Tk b from l);cases(show u=Tk d from m);have(z,g,n,a,f):=jU I D.at_ D.keys;refine Bj (knd:=V3 X.prog X.w) (show X.A.units+1+10<EY by ext) (i.is I) g f ?_;have e:=(a.val k).W9;rw[SA]at e;rw[<-e];exact{.bl _,H,I.tok _,1,q}
inductive A3(P:Gn)(w:Tg)(x:V)(y:V)(H:Hp)(Q:VK):Prop
 |mk (d:_) (b:_) (k:_) (zw:_) (v:_) (h0:x=.ref d) (h1:y=.ref b) (h2:DH P w H d zw) (h3:iu H b k) (h4:Yt zw k=Ga v) (h5:Q v H):A3 P w x y H Q
def ma(P:Gn)(w:Tg):R2:=λx y H Q=>A3 P w x y H Q
theorem i8(a:X.A.units+64<EY):iS X (ma X.prog X.w):=by
 intro g f j s B H x y v u Q I o t h hs;have(d,b,k,n,r,rfl,rfl,D,l,m,q):=h;cases(show v=Tk d from o);cases(show u=Tk b from t);have(z,A,w,c,i):=jU I D.at_ D.keys;have a:=c.val k;rw[m]at a;cases e:atKey w k with
 |none=>rw[e]at a;exact(show False from a).elim
 |some p=>rw[e]at a;refine L4 (x:=p.2) i.typeIs Mg.lookup ?_ hs;exact NZ (knd:=V3 X.prog X.w) (show X.A.units+1+10<EY by ext) (l.is I) i e {1,r,H,I.tok _,a,q}
inductive zJ(P:Gn)(w:Tg)(o:V)(i:V)(v:V)(H:Hp)(Q:Hp->Prop):Prop
 |mk (d:_) (b:_) (k:_) (zw:_) (h0:o=.ref d) (h1:i=.ref b) (h2:DH P w H d zw) (h3:iu H b k) (h4:zw.length<TH) (h5:Q (zj H d (Uv P w d (Vo zw k b v)))):zJ P w o i v H Q
def m8(P:Gn)(w:Tg):ny:=λo i v H Q=>zJ P w o i v H Q
theorem kj(a:X.A.units+64<EY):vz X (m8 X.prog X.w):=by
 intro g s K H o i v ov A u Q I C B E h;have(d,b,k,a,rfl,rfl,D,x,G,q):=h;cases(show ov=Tk d from C);cases(show A=Tk b from B);have(z,w,J,c,j):=jU I D.at_ D.keys;have y:(Vo a k b v).length<=TH:=by have:=ng a k b v;ext
 refine Rs (knd:=V3 X.prog X.w) (hsz:=by rw[<-GQ c];exact z) (show X.A.units+1+10<EY by ext) (x.is I) j λF e hs=>?_;have(ob,m,l,f,n,p,r,_,t):=e;refine{_,R7 (ob:=Uv X.prog X.w d (Vo a k b v)) I (by rw[D.at_];exact DJ) hs ⟨ob,f⟩ (qo {y,w,_,c.put k b E,ob,m,l,f,n,p,r,t}),q}
theorem Qn2:Ur X (.builtin "len") (λxs H Q=>∃d a,xs=[.ref d]/\DH X.prog X.w H d a/\Q (.int a.length) H):=by
 intro c s w H xs t Q I r h;have(d,a,rfl,D,q):=h;have(u,rfl,m):=vals1 r;cases(show u=Tk d from m);have(z,l,v,b,o,f,n,g,i,j,k,_):=kr I D.at_;have p:=O8;have e:f.size=a.length:=by rw[GQ b,<-Gv (f:=entryOfKey (V3 X.prog X.w)),<-k,DF]
 refine Qxi l ⟨o,g,i,j⟩ (by lia) ?_;rw[e];exact{.int a.length,H,I.tok _,{40},q}
theorem XT(G:X.calm=Gi):Ur X (.type "list") (λxs H Q=>∃d b,xs=[.ref d]/\DH X.prog X.w H d b/\∀l,H l=Gq->Q (.ref l) (zj H l (.lst (b.map λp=>.ref p.2.1)))):=by
 intro l s P H xs T Q I r h;have(d,b,rfl,D,q):=h;have(u,rfl,N):=vals1 r;cases(show u=Tk d from N);have(z,J,O,m,o,es,ep,B,C,E,n,j):=kr I D.at_;have e:es.size=b.length:=by rw[GQ m,<-Gv (f:=entryOfKey (V3 X.prog X.w)),<-n,DF]
 refine Bm (XF (es:=es) (ep:=ep) J) (I.ok.hd G) ⟨o,B,C,E⟩ (by rw[e];exact z) λw x a A M F c=>?_;have g:(b.map λp=>V.ref p.2.1).length<=TH:=by rw[Gv];exact z
 have v:Yg (b.map λp=>V.ref p.2.1) a.toList:=by
  have k:es.toList.map (·.key)=O.map λq=>Tk q.2.1:=by rw[n,Dj];rfl
  have f:a.toList=es.toList.map (·.key):=by
   refine L8 λi=>?_;by_cases hi:i<a.size
   .obtain⟨L,K,v⟩:=c.2 i a[i] (T6 hi);rw[Ed,T6 hi,Ts,Ed,K,v];rfl
   .have K:=c.1;rw[Df (by simp;lia),Df (by simp;lia)]
  rw[f,k];clear q z n k f g e c D j;induction m with
  |nil=>exact .nil
  |@cons p q R S K t L=>rw[Tp,Tp];refine .cons ?_ L;show Tk q.2.1=Tk p.2.1;rw[K.2.1]
 have y:zv X l P (zj H s.heap.objs.size (.lst (b.map λp=>.ref p.2.1))) {s with heap:=w,toks:=x}:=
  I.laid (t':=x) M (GJ _) (show Yj X.prog X.w _ w _ (.lst _)from{g,a.toList,A,v,by rw[SD];exact F})
 exact{.ref s.heap.objs.size,_,y,1,q _ (I.Yc.fresh (GJ _))}
end
end L2
namespace Sb
open PySem
variable{S:List Th}{L:Th->Int}{x y t:Th}{b d:Gd}{H H':Hp}{P:Gn}{w:Tg}
abbrev Tl:=List (Bool×Th×Th)
variable{tl:Tl}
mutual
inductive Cg(tl:Tl):Th->Th->Prop
 |refl (t:Th):Cg tl t t
 |symm {s t:Th}:Cg tl s t->Cg tl t s
 |trans {r s t:Th}:Cg tl r s->Cg tl s t->Cg tl r t
 |told {s t:Th}:(Gi,s,t)∈tl->Cg tl s t
 |cong {w:TQ} {ps qs:List Th}:hI tl ps qs->Cg tl (.mk w ps) (.mk w qs)
inductive hI(tl:Tl):List Th->List Th->Prop
 |nil:hI tl [] []
 |cons {p q:Th} {ps qs:List Th}:Cg tl p q->hI tl ps qs->hI tl (p::ps) (q::qs)
end
theorem hI.of{e:Tl}:∀{c d:List Th},c.length=d.length->(∀(i:Nat)p q,c[i]?=Ga p->d[i]?=Ga q->Cg e p q)->hI e c d
 |[],[],_,_=>.nil
 |[],_::_,h,_=>by simp at h
 |_::_,[],h,_=>by simp at h
 |p::c,q::d,h,f=>.cons (f 0 p q rfl rfl) (hI.of (by simpa using h) λi a b g j=>f (i+1) a b (by simpa using g) (by simpa using j))
inductive Dv where
 |cls (i:Int)
 |node (w:TQ) (ds:List Dv)
open Classical in
noncomputable def act(S:List Th)(L:Th->Int)(w:TQ)(ds:List Dv):Dv:=
 if h:∃a,Th.mk w a∈S/\a.map (λq=>Dv.cls (L q))=ds then .cls (L (.mk w (Fh h)))else .node w ds
mutual
noncomputable def ev(S:List Th)(L:Th->Int):Th->Dv
 |.mk w ps=>act S L w (evL S L ps)
noncomputable def evL(S:List Th)(L:Th->Int):List Th->List Dv
 |[]=>[]
 |p::r=>ev S L p::evL S L r
end
structure Oq(tl:Tl)(S:List Th)(L:Th->Int):Prop where
 closed:∀w ps,Th.mk w ps∈S->∀p∈ps,p∈S
 told:∀a b,(Gi,a,b)∈tl->a∈S/\b∈S/\L a=L b
 cong:∀w ps qs,Th.mk w ps∈S->Th.mk w qs∈S->ps.map L=qs.map L->L (.mk w ps)=L (.mk w qs)
theorem ue{L:Th->Int}:∀{a b:List Th},a.map (λq=>Dv.cls (L q))=b.map (λq=>Dv.cls (L q))->a.map L=b.map L
 |[],[],_=>rfl
 |[],_::_,h=>by simp at h
 |_::_,[],h=>by simp at h
 |p::a,q::b,h=>by simp only[Tp,Db,Dv.cls.injEq]at h⊢;exact{h.1,ue h.2}
mutual
theorem mY{g:Tl}{S:List Th}{L:Th->Int}(T:Oq g S L):∀t:Th,t∈S->ev S L t=.cls (L t)
 |.mk w a,h=>by
  have e:evL S L a=a.map (λq=>Dv.cls (L q)):=Kg T a (T.closed w a h);have b:∃d,Th.mk w d∈S/\d.map (λq=>Dv.cls (L q))=a.map (λq=>Dv.cls (L q)):=⟨a,h,Xb⟩;have f:ev S L (.mk w a)=act S L w (evL S L a):=by simp only[ev]
  rw[f,e];unfold act;rw[dif_pos b];have c:=Ng b;rw[T.cong w _ a c.1 h (ue c.2)]
theorem Kg{c:Tl}{S:List Th}{L:Th->Int}(T:Oq c S L):∀a:List Th,(∀p∈a,p∈S)->evL S L a=a.map (λq=>Dv.cls (L q))
 |[],_=>by simp[evL]
 |p::r,h=>by simp only[evL,Tp];rw[mY T p (h p Tc),Kg T r λq b=>h q (Gr _ b)]
end
mutual
theorem lK{a:Tl}{S:List Th}{L:Th->Int}(T:Oq a S L):∀{s t:Th},Cg a s t->ev S L s=ev S L t
 |_,_,.refl _=>rfl
 |_,_,.symm c=>(lK T c).symm
 |_,_,.trans c d=>(lK T c).trans (lK T d)
 |_,_,.told m=>by have(b,e,f):=T.told _ _ m;rw[mY T _ b,mY T _ e,f]
 |_,_,.cong c=>by simp only[ev,vj T c]
theorem vj{a:Tl}{S:List Th}{L:Th->Int}(T:Oq a S L):∀{s t:List Th},hI a s t->evL S L s=evL S L t
 |_,_,.nil=>rfl
 |_,_,.cons c d=>by simp only[evL,lK T c,vj T d]
end
theorem Oq.complete(T:Oq tl S L)(a:x∈S)(b:y∈S)(c:Cg tl x y):L x=L y:=by have e:=lK T c;rw[mY T x a,mY T y b]at e;injection e
structure Tells(tl:Tl)(S:List Th)(L:Th->Int):Prop where
 tab:Oq tl S L
 sound:∀x∈S,∀y∈S,L x=L y->Cg tl x y
theorem Tells.iff(T:Tells tl S L)(a:x∈S)(b:y∈S):L x=L y↔Cg tl x y:={T.sound x a y b,T.tab.complete a b}
def mrg(L:Th->Int)(o n:Int):Th->Int:=λt=>if L t=o then n else L t
theorem Kc{o n:Int}(h:L x=L y):mrg L o n x=mrg L o n y:=by unfold mrg;rw[h]
theorem QO{a b:Th}(i:a∈S)(j:b∈S)(s:∀x∈S,∀y∈S,L x=L y->Cg tl x y)(c:Cg tl a b):∀x∈S,∀y∈S,mrg L (L a) (L b) x=mrg L (L a) (L b) y->Cg tl x y:=by
 intro x g y h e;unfold mrg at e;by_cases f:L x=L a
 .by_cases d:L y=L a
  .exact s x g y h (f.trans d.symm)
  .rw[GV f,Gs d]at e;exact .trans (s x g a i f) (.trans c (s b j y h e))
 .by_cases d:L y=L a
  .rw[Gs f,GV d]at e;exact .trans (s x g b j e) (.trans (.symm c) (.symm (s y h a i d)))
  .rw[Gs f,Gs d]at e;exact s x g y h e
open PySem PySem.Spec PyProof.Rows L2
mutual
def kd:Th->KD
 |.mk w ps=>.tup (.str w::kds ps)
def kds:List Th->List KD
 |[]=>[]
 |p::r=>kd p::kds r
end
mutual
theorem O6:∀t:Th,(kd t).toD=t.toD
 |.mk w a=>by simp only[kd,KD.toD,Ji,Th.toD,we a]
theorem we:∀a:List Th,Ji (kds a)=X9 a
 |[]=>by simp[kds,Ji,X9]
 |t::r=>by simp only[kds,Ji,X9,O6 t,we r]
end
theorem VP(t:Th):(kd t).depth=t.depth:=by rw[<-oC,O6,Xj]
theorem lC{s:Th}(h:kd s=kd t):s=t:=by
 have e:s.toD=t.toD:=by rw[<-O6,<-O6,h]
 exact(Io s t).mp (by rw[e];exact(Io t t).mpr Xb)
mutual
theorem yC{H:Hp}:∀(t:Th){v:V},Dt H v t.toD->Z7 H v t
 |.mk w c,v,h=>by
  simp only[Th.toD]at h;cases h with
  |tup e r=>
   cases r with
   |cons a b=>cases a;exact .mk e (tL c b)
theorem tL{H:Hp}:∀(b:List Th){a:List V},hH H a (X9 b)->Zy H a b
 |[],a,h=>by simp only[X9]at h;cases h;exact .nil
 |t::r,a,h=>by
  simp only[X9]at h;cases h with
  |cons c d=>exact .cons (yC t c) (tL r d)
end
theorem jE(h:Z7 H (.ref b) t)(ok:t.ok=Gi)(a:t.depth<=8):iu H b (kd t):={by rw[O6];exact h.dt,by rw[O6];exact Wf t ok,by rw[VP];exact a}
mutual
theorem wh{H a:Hp}(e:Q7 H a):∀(k:KD){v:V},Dt H v k.toD->Dt a v k.toD
 |.int i,v,h=>by simp only[KD.toD]at h⊢;cases h;exact .int i
 |.str x,v,h=>by simp only[KD.toD]at h⊢;cases h;exact .str x
 |.tup d,v,h=>by
  simp only[KD.toD]at h⊢;cases h with
  |tup b c=>exact .tup (e _ _ b) (Aj e d c)
theorem Aj{H b:Hp}(e:Q7 H b):∀(c:List KD){a:List V},hH H a (Ji c)->hH b a (Ji c)
 |[],a,h=>by simp only[Ji]at h⊢;cases h;exact .nil
 |k::r,a,h=>by
  simp only[Ji]at h⊢;cases h with
  |cons d f=>exact .cons (wh e k d) (Aj e r f)
end
theorem Zp(e:Q7 H H'){a:List KE}(h:Jg H a):Jg H' a:=λp b=>{wh e p.1 (h p b).1,(h p b).2}
structure Num(P:Gn)(w:Tg)(H:Hp)(d:Gd)(S:List Th)(L:Th->Int):Prop where
 ex:∃zw:List KE,H d=Ga (Uv P w d zw)/\Jg H zw/\zw.map (·.1)=S.map kd/\∀t∈S,Yt zw (kd t)=Ga (.int (L t))
 ok:∀t∈S,t.ok=Gi/\t.depth<=8
theorem Num.at(N:Num P w H d S L):∃o,H d=Ga (.ext o):=by have(a,h,_):=N.ex;exact{_,h}
theorem Num.keep(N:Num P w H d S L)(h:∀o,H d=Ga o->H' d=Ga o)(e:Q7 H H'):Num P w H' d S L:=by have(a,b,c,f,g):=N.ex;exact{{a,h _ b,Zp e c,f,g},N.ok}
theorem Num.same(N:Num P w H d S L)(e:Q9 H H'):Num P w H' d S L:=N.keep (λo h=>e d o h) (Q7.of e)
theorem Num.get{Q:VK}(N:Num P w H d S L)(ht:t∈S)(h:Z7 H (.ref b) t)(q:Q (.int (L t)) H):ma P w (.ref d) (.ref b) H Q:=by have(a,c,e,g,f):=N.ex;exact{d,b,kd t,a,01,⟨c,e⟩,jE h (N.ok t ht).1 (N.ok t ht).2,f t ht,q}
theorem Num.put{P:Gn}{w:Tg}{H:Hp}{d b:Gd}{S:List Th}{L:Th->Int}{t:Th}{i:Int}{Q:Hp->Prop}(N:Num P w H d S L)(f:S.length<=1000000)(ht:t∈S)(h:Z7 H (.ref b) t)
  (q:∀f,(∀c o,H c=Ga o->c≠d->f c=Ga o)->Num P w f d S (λu=>if u=t then i else L u)->Q f):m8 P w (.ref d) (.ref b) (.int i) H Q:=by
 have(a,g,j,k,l):=N.ex;have s:a.length=S.length:=by have:=congrArg E1 k;simpa using this
 have m:=jE h (N.ok t ht).1 (N.ok t ht).2;refine{d,b,kd t,a,11,⟨g,j⟩,m,by rw[TJ];ext,q _ (λc o e f=>by rw[Qh f];exact e) ?_};have r:Q7 H (zj H d (Uv P w d (Vo a (kd t) b (.int i)))):=Z2 λv e=>by rw[g]at e;cases e
 refine{{_,Qb,Zp r (j.put m),?_,λu n=>?_},N.ok}
 .rw[xm b _ (l t ht),Dj];rw[<-k];refine TX λp _=>?_;show(if p.1=kd t then(p.1,p.2.1,V.int i)else p).1=p.1;split<;>rfl
 .rw[J2];by_cases e:u=t
  .subst e;rw[GV Xb,GV rfl]
  .rw[Gs (λz=>e (lC z)),Gs e];exact l u n
theorem Num.add{i:Int}{Q:Hp->Prop}(N:Num P w H d S L)(j:S.length<=1000000)(ht:¬t∈S)(ok:t.ok=Gi)(l:t.depth<=8)(h:Z7 H (.ref b) t)
  (q:∀j,(∀c o,H c=Ga o->c≠d->j c=Ga o)->Num P w j d (S++[t]) (λu=>if u=t then i else L u)->Q j):m8 P w (.ref d) (.ref b) (.int i) H Q:=by
 have(f,m,n,k,y):=N.ex;have D:f.length=S.length:=by have:=congrArg E1 k;simpa using this
 have s:=jE h ok l;have g:Yt f (kd t)=Gq:=by
  cases e:Yt f (kd t)with
  |none=>rfl
  |some v=>exfalso;unfold Yt at e;have(p,r,_):=L6.mp e;have A:=Fy r;have B:p.1=kd t:=Du A;have j:kd t∈f.map (·.1):=Tw.mpr {p,Sx r,B};rw[k]at j;have(u,a,x):=Tw.mp j;exact ht (lC x▸a)
 refine{d,b,kd t,f,11,⟨m,n⟩,s,by rw[TJ];ext,q _ (λc o e j=>by rw[Qh j];exact e) ?_};have C:Q7 H (zj H d (Uv P w d (Vo f (kd t) b (.int i)))):=Z2 λE e=>by rw[m]at e;cases e
 refine{{_,Qb,Zp C (n.put s),?_,λu a=>?_},λu a=>?_}
 .rw[uk b _ g,TY,k,TY];rfl
 .rw[J2];by_cases e:u=t
  .subst e;rw[GV Xb,GV rfl]
  .rw[Gs (λz=>e (lC z)),Gs e];rcases Gh.mp a with a|a
   .exact y u a
   .rw[Tb]at a;exact absurd a e
 .rcases Gh.mp a with a|a
  .exact N.ok u a
  .rw[Tb]at a;subst a;exact⟨ok,l⟩
theorem Num.VD{Q:VK}(N:Num P w H d S L)(ok:t.ok=Gi)(g:t.depth<=8)(h:Z7 H (.ref b) t)(q:Q (.bl (!decide (t∈S))) H):qd P w (λb=>!b) (.ref b) (.ref d) H Q:=by
 have(a,j,k,l,m):=N.ex;exists b,d,kd t,a,11,⟨j,k⟩,jE h ok g;have e:(Yt a (kd t)).isSome=decide (t∈S):=by
  by_cases ht:t∈S
  .rw[Ti ht,m t ht];rfl
  .rw[Td ht];cases e:Yt a (kd t)with
   |none=>rfl
   |some v=>exfalso;unfold Yt at e;have(p,f,_):=L6.mp e;have n:=Fy f;have o:p.1=kd t:=Du n;have c:kd t∈a.map (·.1):=Tw.mpr {p,Sx f,o};rw[l]at c;have(u,r,i):=Tw.mp c;exact ht (lC i▸r)
 rw[e];exact q
theorem Num.names(N:Num P w H d S L):∃a,DH P w H d a/\a.length=S.length/\Zy H (a.map λp=>V.ref p.2.1) S:=by
 have(a,f,b,c,j):=N.ex;have i:a.length=S.length:=by have:=congrArg E1 c;simpa using this
 exists a,⟨f,b⟩,i;have all:∀(l:List KE)(S:List Th),(∀p∈l,p∈a)->l.map (·.1)=S.map kd->Zy H (l.map λp=>V.ref p.2.1) S:=by
  intro l;induction l with
  |nil=>intro S _ e;cases S with
   |nil=>exact .nil
   |cons t r=>simp at e
  |cons p l h=>intro S sub e;cases S with
   |nil=>simp at e
   |cons t r=>simp only[Tp,Db]at e;refine .cons (yC t ?_) (h r (λq g=>sub q (Gr _ g)) e.2);have:=(b p (sub p Tc)).1;rw[e.1,O6]at this;exact this
 exact all a S (λ_ h=>h) c
def tw(b:Bool):TQ:=if b then"same"else"unlike"
def Um(H:Hp):List V->Tl->Prop:=Dg λx p=>∃a v u,x=.ref a/\H a=Ga (.tup [.str (tw p.1),v,u])/\Z7 H v p.2.1/\Z7 H u p.2.2
theorem Um.Qv{H b:Hp}(e:Q7 H b){d:List V}{c:Tl}(h:Um H d c):Um b d c:=Qr h λx p⟨a,v,u,f,g,i,j⟩=>{a,v,u,f,e _ _ g,i.Qv e,j.Qv e}
def iz(H:Hp):List V->List (Th×Th)->Prop:=Dg λx p=>∃a v u,x=.ref a/\H a=Ga (.tup [v,u])/\Z7 H v p.1/\Z7 H u p.2
theorem iz.Qv{H b:Hp}(e:Q7 H b){c:List V}{l:List (Th×Th)}(h:iz H c l):iz b c l:=Qr h λx p⟨a,v,u,d,f,g,i⟩=>{a,v,u,d,e _ _ f,g.Qv e,i.Qv e}
theorem Qy{a d:Type}{F:a->d->Prop}:∀{b:List a}{c:List d}{i:Nat}{x:a},Dg F b c->b[i]?=Ga x->∃y,c[i]?=Ga y/\F x y
 |_,_,_,_,.nil,e=>by simp at e
 |_,_,0,_,.cons h _,e=>by simp at e;subst e;exact{0,h}
 |_,_,i+1,_,.cons _ t,e=>by have(y,f,g):=Qy (i:=i) t (by simpa using e);exact{y,by simpa using f,g}
theorem Zq{e f:Type}{F:e->f->Prop}:∀{a b:List e}{c d:List f},Dg F a c->Dg F b d->Dg F (a++b) (c++d)
 |_,_,_,_,.nil,t=>t
 |_,_,_,_,.cons h r,t=>.cons h (Zq r t)
noncomputable def Os(tl:Tl):List (Th×Th):=(tl.filter (·.1)).map (·.2)
theorem zZ{a b:Th}:(a,b)∈Os tl↔(Gi,a,b)∈tl:=by
 unfold Os;rw[Tw];constructor
 .rintro⟨⟨c,x⟩,h,e⟩;rw[Fv]at h;have(d,f):=h;have:c=Gi:=f;subst this;cases e;exact d
 .intro h;exact{(Gi,a,b),Fv.mpr ⟨h,Xb⟩,1}
inductive yI(P:Gn)(w:Tg)(vs:List V)(H:Hp)(Q:VK):Prop
 |mk (a:Gd) (b:Gd) (us:List V) (vs':List V) (tl:Tl) (ts:List Th) (h0:vs=[.ref a,.ref b]) (h1:H a=Ga (.lst us)) (h2:Um H us tl) (h3:H b=Ga (.lst vs')) (h4:Zy H vs' ts) (h5:(∀t∈ts,t.ok=Gi/\t.depth<=8)) (h6:(∀p∈tl,(p.2.1.ok=Gi/\p.2.1.depth<=8)/\p.2.2.ok=Gi/\p.2.2.depth<=8)) (h7:Q6 ts+Q6 (tl.map (·.2.1))+Q6 (tl.map (·.2.2))<=3000) (h8:∀(d:Gd)(S:List Th)(L:Th->Int)(H':Hp),Q9 H H'->H d=Gq->Num P w H' d S L->Tells tl S L->(∀t∈ts,t∈S)->(∀p∈tl,p.2.1∈S/\p.2.2∈S)->Q (.ref d) H'):yI P w vs H Q
def AE(P:Gn)(w:Tg):Sp:=λa H Q _=>yI P w a H Q
end Sb
namespace L2
open PySem PySem.Spec PyProof.Rows
variable{d:Gd}{H:Hp}
theorem R3{K:Gf}{a p:Gd}{xs:List V}{g:TG}{A:TT}{z:TE}{Q:Hp->Prop}{n:St}{t:Hp}(f:xs.length<=TH)(h:Nat->List V->St->Hp->Prop)(B:h 0 [] n (zj t p (.lst [])))
  (D:∀i c d H,i<=xs.length->h i c d H->Uw K H a xs)
  (hs:∀i x c d H,xs[i]?=Ga x->h i c d H->H p=Ga (.lst c)->g x d H λj H2=>A j H2 λb o=>if b=Gi then z j o λv u=>u p=Ga (.lst c)/\h (i+1) (c++[v]) j (zj u p (.lst (c++[v])))else o p=Ga (.lst c)/\h (i+1) c j o)
  (C:∀c d H,h xs.length c d H->H p=Ga (.lst c)->Q H):jD p (iT K a) g A z Q n (zj t p (.lst [])):=by
 exists λi m d H=>m=xs.length - i/\i<=xs.length/\∃c,c.length<=i/\h i c d H/\H p=Ga (.lst c),{xs.length,by simp,Tu _,[],GJ _,B,Qb};rintro i m d H ⟨rfl,hi,c,E,pv,w⟩;have q:=D i c d H hi pv;by_cases l:i<xs.length
 .refine .inr ⟨{xs,xs[i],q,by simp[l]},λv f k=>k p=Ga (.lst c)/\h (i+1) (c++[v]) f (zj k p (.lst (c++[v]))),λf k=>k p=Ga (.lst c)/\h (i+1) c f k,
   λv f k⟨r,s⟩=>{c,r,by lia,xs.length - (i+1),by lia,1,l,c++[v],by simp[E],s,Qb},λf k⟨r,s⟩=>{xs.length - (i+1),by lia,1,l,c,by lia,s,r},λx k y=>?_⟩
  have(e,y):=y;subst e;exact hs i x c d _ (y xs q) pv w
 .have e:i=xs.length:=by lia
  subst e;exact .inl {{xs,q,GJ _},C c d H pv w}
def Tr(t:TS)(c a:St->Hp->Prop):Prop:=∀D σ H,c σ H->(∀b H',a b H'->D.nx b H')->t D σ H
def Of(d:Gd)(H H':Hp):Prop:=∀c o,H c=Ga o->c≠d->H' c=Ga o
theorem Of.refl:Of d H H:=λ_ _ e _=>e
theorem Of.trans{f g:Hp}(a:Of d H f)(b:Of d f g):Of d H g:=λc o e h=>b c o (a c o e h) h
theorem Of.of{a:Hp}(e:Q9 H a):Of d H a:=λc o h _=>e c o h
end L2
namespace Sb
open PySem PySem.Spec PyProof.Rows L2
variable{H:Hp}{tl:Tl}
theorem _root_.L2.Of.Qv{d:Gd}{f:Hp}{o:HO}(b:Of d H f)(h:H d=Ga o)(g:∀a,o≠.tup a):Q7 H f:=λc a e=>b c _ e λz=>by subst z;rw[h]at e;exact g a (T3 e)
theorem Ku{a:Type}{p q:a->Bool}:∀{l:List a},(∀x∈l,p x=Gi->q x=Gi)->l.countP p<=l.countP q
 |[],_=>by simp
 |x::l,h=>by
  have d:=Ku (l:=l) λy c=>h y (Gr _ c);have b:=h x Tc;rw[EV,EV];cases e1:p x with
  |true=>rw[b e1];simp;exact d
  |false=>simp;lia
theorem AH{e:Type}{p q:e->Bool}:∀{l:List e},(∀x∈l,p x=Gi->q x=Gi)->(∃x∈l,q x=Gi/\p x=Gx)->l.countP p<l.countP q
 |[],_,⟨x,a,_⟩=>nomatch a
 |x::l,h,⟨y,a,b,c⟩=>by
  have d:∀y∈l,p y=Gi->q y=Gi:=λy a=>h y (Gr _ a);have i:=Ku d;rw[EV,EV];rcases Tf.mp a with z|z
  .subst z;rw[b,c];simp;ext
  .have g:=AH d ⟨y,z,b,c⟩;have f:=h x Tc;cases e3:p x with
   |true=>rw[f e3];simp;exact g
   |false=>simp;ext
noncomputable def dis(S:List Th)(L:Th->Int):Nat:=(S.flatMap λx=>S.map λy=>(x,y)).countP λp=>decide (L p.1≠L p.2)
theorem YM{S:List Th}{L a:Th->Int}(h:∀x∈S,∀y∈S,L x=L y->a x=a y)(i:∃x∈S,∃y∈S,L x≠L y/\a x=a y):dis S a<dis S L:=by
 have(x,c,y,d,f,g):=i;refine AH (λp b e=>?_) {(x,y),?_,Ti f,by simp[g]}
 .rw[EC]at b;have(x,c,b):=b;have(y,d,rfl):=Tw.mp b;exact Ti λz=>(Du e) (h x c y d z)
 .rw[EC];exact{x,c,Tw.mpr ⟨y,d,Xb⟩}
theorem Vf{H:Hp}:∀l:List Int,hH H (l.map V.int) (l.map Ei)
 |[]=>.nil
 |i::r=>.cons (.int i) (Vf r)
theorem Vn:∀l:List Int,Gw (l.map Ei)=Gi
 |[]=>by simp[Gw]
 |i::r=>by simp[Gw,Tv,Vn r]
theorem Iw:∀l:List Int,TV (l.map Ei)<=1
 |[]=>by simp[TV]
 |i::r=>by have:=Iw r;simp only[Tp,TV,Dw];ext
theorem oo:∀l m:List Int,Ds (l.map Ei) (m.map Ei)=decide (l=m)
 |[],[]=>by simp[Ds]
 |[],_::_=>by simp[Ds]
 |_::_,[]=>by simp[Ds]
 |i::l,j::m=>by
  simp only[Tp,Ds,TW,oo l m];by_cases h:i=j
  .subst h;simp
  .simp[h]
theorem AN{P:Gn}{w:Tg}{K:Gf}{r p d:Gd}{k:List V}{g S:List Th}{L:Th->Int}{Q:Hp->Prop}(u:H r=Ga (.tup k))(f:Zy H k g)(c:∀t∈g,t∈S)(N:Num P w H d S L)(m:H p=Gq)(b:k.length<=3000)
  (q:∀b,Q9 H b->b p=Ga (.lst ((g.map L).map V.int))->Q b):jD p (ju K r) (Ui 0) nH (tOp (ma P w) (Ul 1) (Ul 0)) Q [Gq,Ga (.ref d)] (zj H p (.lst [])):=by
 refine Ib (K:=K) (a:=r) (xs:=k) (small (by ext)) (λi h l j=>(∃s,l=[s,Ga (.ref d)])/\h=((g.take i).map L).map V.int/\j=zj H p (.lst h)) {{40},by simp,1} (λi h l j _⟨_,_,e⟩=>Qj (by rw[e];exact Qf m _ _ _ u)) ?_ ?_
 .rintro i x h l j hi n ⟨⟨s,rfl⟩,rfl,rfl⟩ a;have(t,ht,e):=f.get hi;have(b,_,_,_,rfl,_,_,_):=e.inv;have o:=Qf m (.lst (((g.take i).map L).map V.int));refine{00,(N.same o).get (c t (Gc ht)) (e.same o) {a,{40},?_,?_}}
  .rw[TF,ht];simp
  .rw[Vq]
 .rintro h l j n ⟨_,rfl,rfl⟩ a;rw[f.length,Tz]at a⊢;exact q _ (Qf m _) a
inductive Dd where
 |tell (b:Bool) (x y:Th)
 |ask (x y:Th)
 |back (i:Int)
variable{d:Dd}
def Dd.fits(ts:List Th):Dd->Prop
 |.tell _ x y=>x∈ts/\y∈ts
 |.ask x y=>x∈ts/\y∈ts
 |.back _=>True
def iF(H:Hp)(x:V):Dd->Prop
 |.tell b t u=>∃a c d,x=.ref a/\H a=Ga (.tup [.str (tw b),c,d])/\Z7 H c t/\Z7 H d u
 |.ask t u=>∃a c d,x=.ref a/\H a=Ga (.tup [.str "ask",c,d])/\Z7 H c t/\Z7 H d u
 |.back i=>∃a,x=.ref a/\H a=Ga (.tup [.str "back",.int i])
theorem iF.Qv{H j:Hp}(e:Q7 H j){x:V}:∀{d:Dd},iF H x d->iF j x d
 |.tell _ _ _,⟨a,h,i,b,c,f,g⟩=>{a,h,i,b,e _ _ c,f.Qv e,g.Qv e}
 |.ask _ _,⟨a,h,i,b,c,f,g⟩=>{a,h,i,b,e _ _ c,f.Qv e,g.Qv e}
 |.back _,⟨a,b,c⟩=>{a,b,e _ _ c}
def Vx(H:Hp):List V->List Dd->Prop:=Dg λx d=>iF H x d
theorem Vx.Qv{H a:Hp}(e:Q7 H a){c:List V}{b:List Dd}(h:Vx H c b):Vx a c b:=Qr h λ_ _ h=>h.Qv e
theorem Vx.same{a:Hp}(e:Q9 H a){c:List V}{b:List Dd}(h:Vx H c b):Vx a c b:=h.Qv (Q7.of e)
inductive yq(K:Gf)(vs:List V)(H:Hp)(Q:VK):Prop
 |mk (a:Gd) (b:Gd) (ns:List Int) (us:List V) (ts:List Th) (h0:vs=[.ref a,.ref b]) (h1:Uw K H a (ns.map V.int)) (h2:ns.length<=63) (h3:H b=Ga (.lst us)) (h4:Zy H us ts) (h5:0<ts.length) (h6:ts.length<=1000) (h7:∀(r:Gd)(es:List V)(dl:List Dd)(H':Hp),Q9 H H'->H r=Gq->H' r=Ga (.lst es)->Vx H' es dl->dl.length=ns.length->(∀d∈dl,d.fits ts)->Q (.ref r) H'):yq K vs H Q
def wK(K:Gf):Sp:=λa H Q _=>yq K a H Q
inductive uq(vs:List V)(H:Hp)(Q:VK):Prop
 |mk (n:Int) (h0:vs=[.int n]) (h1:∀(m:Int)(H':Hp),Q9 H H'->Q (.int m) H'):uq vs H Q
def ve:Sp:=λa H Q _=>uq a H Q
inductive Xr(tl:Tl):Prop
 |mk (a:_) (b:_) (h0:(Gx,a,b)∈tl) (h1:Cg tl a b):Xr tl
inductive ya(vs:List V)(H:Hp)(Q:VK):Prop
 |mk (a:Gd) (e:Gd) (us:List V) (tl:Tl) (v1:V) (v2:V) (b:Bool) (x:Th) (y:Th) (h0:vs=[.ref a,.ref e]) (h1:H a=Ga (.lst us)) (h2:Um H us tl) (h3:H e=Ga (.tup [.str (tw b),v1,v2])) (h4:Z7 H v1 x) (h5:Z7 H v2 y) (h6:(x.ok=Gi/\x.depth<=8)) (h7:(y.ok=Gi/\y.depth<=8)) (h8:(∀p∈tl,(p.2.1.ok=Gi/\p.2.1.depth<=8)/\p.2.2.ok=Gi/\p.2.2.depth<=8)) (h9:Q6 (tl.map (·.2.1))+Q6 (tl.map (·.2.2))+x.size+y.size<=3000) (h10:∀(r:Bool)(H':Hp),Q9 H H'->(r=Gi↔Xr (tl++[(b,x,y)]))->Q (.bl r) H'):ya vs H Q
def rB:Sp:=λa H Q _=>ya a H Q
open Classical in
noncomputable def kindOf(tl:Tl)(x y:Th):TQ:=if Cg tl x y then"equal"else if∃a b,(Gx,a,b)∈tl/\Cg (tl++[(Gi,x,y)]) a b then"unlike"else"open"
open Classical in
noncomputable def Up(tl:Tl):Dd->Tl×V
 |.ask x y=>(tl,.str (kindOf tl x y))
 |.back i=>if 0<=i/\i<=(tl.length:Int)then(tl.take i.toNat,.int ((tl.length:Int) - i))else(tl,.str "no moment")
 |.tell b x y=>if Xr (tl++[(b,x,y)])then(tl,.str "clash")else(tl++[(b,x,y)],.int ((tl.length:Int)+1))
noncomputable def after(tl:Tl):List Dd->Tl
 |[]=>tl
 |d::ds=>after (Up tl d).1 ds
noncomputable def lB(tl:Tl):List Dd->List V
 |[]=>[]
 |d::ds=>(Up tl d).2::lB (Up tl d).1 ds
theorem Vd(c:Tl):∀(b a:List Dd),after c (b++a)=after (after c b) a
 |[],a=>rfl
 |d::b,a=>Vd (Up c d).1 b a
theorem O4{a:List Dd}{k:Nat}(h:a[k]?=Ga d):after tl (a.take (k+1))=(Up (after tl (a.take k)) d).1:=by rw[TF,h,Vd];rfl
def Th.good(t:Th):Prop:=t.ok=Gi/\t.depth<=8/\t.size<=100
def Dd.good:Dd->Prop
 |.tell _ x y=>x.good/\y.good
 |.ask x y=>x.good/\y.good
 |.back _=>True
def iw(tl:Tl):Prop:=∀p∈tl,p.2.1.good/\p.2.2.good
theorem XN(h:iw tl)(g:d.good):iw (Up tl d).1:=by
 cases d with
 |ask x y=>exact h
 |back i=>
  simp only[Up];split
  .exactλp a=>h p (Dq a)
  .exact h
 |tell b x y=>
  simp only[Up];split
  .exact h
  .intro p a;rcases Gh.mp a with z|z
   .exact h p z
   .rw[Tb]at z;subst z;exact g
theorem UC:(Up tl d).1.length<=tl.length+1:=by
 cases d with
 |ask x y=>exact LW _
 |back i=>
  simp only[Up];split
  .rw[Dc];ext
  .exact LW _
 |tell b x y=>
  simp only[Up];split
  .exact LW _
  .rw[Gk,Gy];ext
theorem Ox:∀{ds:List Dd}{tl:Tl},iw tl->(∀d∈ds,d.good)->iw (after tl ds)
 |[],_,h,_=>h
 |d::ds,tl,h,g=>by have:=Ox (ds:=ds) (tl:=(Up tl d).1) (XN h (g d Tc)) λe a=>g e (Gr _ a);simp only[after];exact this
theorem Ia:∀{ds:List Dd}{tl:Tl},(after tl ds).length<=tl.length+ds.length
 |[],tl=>GJ _
 |d::ds,tl=>by have a:=Ia (ds:=ds) (tl:=(Up tl d).1);have b:=UC (tl:=tl) (d:=d);simp only[after,TB];lia
theorem xP(h:iw tl):Q6 (tl.map (·.2.1))<=tl.length*100/\Q6 (tl.map (·.2.2))<=tl.length*100:=by
 have b:=Rr (tl.map (·.2.1)) 100 λt ht=>by have(p,a,rfl):=Tw.mp ht;exact(h p a).1.2.2
 have c:=Rr (tl.map (·.2.2)) 100 λt ht=>by have(p,a,rfl):=Tw.mp ht;exact(h p a).2.2.2
 rw[Gv]at b c;exact⟨b,c⟩
noncomputable def tlD(p:Bool×Th×Th):DO:=.tuple [.str (tw p.1),p.2.1.toD,p.2.2.toD]
theorem Um.dts{b:List V}(h:Um H b tl):hH H b (tl.map tlD):=by
 unfold Um at h;induction h with
 |nil=>exact .nil
 |cons h r g=>have(a,v,u,c,d,e,f):=h;subst c;exact .cons (.tup d (.cons (.str _) (.cons e.dt (.cons f.dt .nil)))) g
def oY(d:DO):Prop:=d.canLay0=Gi/\W8 d<=1000/\d.depth<=20
theorem Qvg{a:List DO}(h:∀d∈a,oY d)(f:a.length<=100):(Fo a).canLay0=Gi/\W8 (Fo a)<=1000000/\(Fo a).depth<=60:=by
 have all:Gw a=Gi/\Z0 a<=a.length*1000/\TV a<=20:=by
  clear f;induction a with
  |nil=>simp[Gw,Z0,TV]
  |cons d r i=>
   have(b,j,k):=h d Tc;have(g,l,m):=i λe c=>h e (Gr _ c);exists by simp[Gw,b,g],?_
   .simp only[Z0,TB];lia
   .simp only[TV];lia
 exists by simp only[Tv];exact all.1,?_
 .simp only[W8];lia
 .simp only[Dw];lia
theorem tQ(b:Bool):DM (tw b)=Gi:=by cases b<;>decide+kernel
theorem QL{s:TQ}{x y:Th}(hs:DM s=Gi)(a:x.good)(b:y.good):oY (.tuple [.str s,x.toD,y.toD]):=by
 have c:=Wf x a.1;have d:=Wf y b.1;have n1:=pV x;have n2:=pV y;have e:=Xj x;have f:=Xj y;have:=a.2;have:=b.2;exists by simp[Tv,Gw,c,d,hs],?_
 .simp only[W8,Z0];lia
 .simp only[Dw,TV];lia
theorem Q0b(h:iw tl):∀d∈tl.map tlD,oY d:=λd b=>by have(p,a,rfl):=Tw.mp b;exact QL (tQ p.1) (h p a).1 (h p a).2
structure jI(U:List Th):Prop where
 cl:U5 U
 good:∀t∈U,t.good
 len:U.length<=60
theorem jI.nU{U:List Th}(h:jI U)(f:d.fits U):d.good:=by
 cases d with
 |tell b x y=>exact{h.good x f.1,h.good y f.2}
 |ask x y=>exact{h.good x f.1,h.good y f.2}
 |back i=>exact DJ
theorem Qh2{a:List Th}(h:∀t∈a,∀p∈t.parts,p∈a):U5 a:=by
 have b:∀n:Nat,∀t∈a,t.depth<=n->∀s∈t.inside,s∈a:=by
  intro n;induction n with
  |zero=>intro t _ c;have:=qr t;lia
  |succ n e=>
   intro t ht c s hs;cases t with
   |mk u f=>
    simp only[Th.inside,Gh,Tb]at hs;rcases hs with hs|rfl
    .rw[Wa,EC]at hs;have(p,d,hs):=hs;have:=Wl d;simp only[Th.depth]at c;exact e p (h _ ht p d) (by lia) s hs
    .exact ht
 exactλt ht=>b _ t ht (GJ _)
mutual
def Th.ren(a:TQ->TQ):Th->Th
 |.mk w ps=>.mk (a w) (j8 a ps)
def j8(a:TQ->TQ):List Th->List Th
 |[]=>[]
 |p::r=>p.ren a::j8 a r
end
noncomputable def Kl(a:TQ->TQ)(p:Bool×Th×Th):Bool×Th×Th:=(p.1,p.2.1.ren a,p.2.2.ren a)
mutual
theorem Cg.ren{b:Tl}(a:TQ->TQ):∀{s t:Th},Cg b s t->Cg (b.map (Kl a)) (s.ren a) (t.ren a)
 |_,_,.refl t=>.refl _
 |_,_,.symm c=>.symm (Cg.ren a c)
 |_,_,.trans c d=>.trans (Cg.ren a c) (Cg.ren a d)
 |_,_,.told m=>.told (Tw.mpr {_,m,1})
 |_,_,.cong c=>by simp only[Th.ren];exact .cong (hI.ren a c)
theorem hI.ren{b:Tl}(a:TQ->TQ):∀{s t:List Th},hI b s t->hI (b.map (Kl a)) (j8 a s) (j8 a t)
 |_,_,.nil=>by simp only[j8];exact .nil
 |_,_,.cons c d=>by simp only[j8];exact .cons (Cg.ren a c) (hI.ren a d)
end
def Sub(tl a:Tl):Prop:=∀b x y,(b,x,y)∈tl->(b,x,y)∈a\/(b,y,x)∈a
mutual
theorem Cg.sub{b a:Tl}(h:Sub b a):∀{s t:Th},Cg b s t->Cg a s t
 |_,_,.refl t=>.refl t
 |_,_,.symm c=>.symm (Cg.sub h c)
 |_,_,.trans c d=>.trans (Cg.sub h c) (Cg.sub h d)
 |_,_,.told m=>by
  rcases h _ _ _ m with z|z
  .exact .told z
  .exact .symm (.told z)
 |_,_,.cong c=>.cong (hI.sub h c)
theorem hI.sub{b a:Tl}(h:Sub b a):∀{s t:List Th},hI b s t->hI a s t
 |_,_,.nil=>.nil
 |_,_,.cons c d=>.cons (Cg.sub h c) (hI.sub h d)
end
theorem Iq{a:Tl}(h:Sub tl a)(b:Xr tl):Xr a:=by
 have(x,y,m,c):=b;rcases h _ _ _ m with z|z
 .exact{x,y,z,c.sub h}
 .exact{y,x,z,.symm (c.sub h)}
theorem oM(n:Nat):Sub (tl.take n) tl:=λ_ _ _ m=>.inl (Dq m)
theorem P2:¬Xr []:=λ⟨_,_,m,_⟩=>nomatch m
theorem QE(h:¬Xr tl):¬Xr (Up tl d).1:=by
 cases d with
 |ask x y=>exact h
 |back i=>
  simp only[Up];split
  .exactλb=>h (Iq (oM _) b)
  .exact h
 |tell b x y=>
  simp only[Up];split
  .exact h
  .rename_i z;exact z
theorem Il:∀{ds:List Dd}{tl:Tl},¬Xr tl->¬Xr (after tl ds)
 |[],_,h=>h
 |d::ds,tl,h=>by have:=Il (ds:=ds) (tl:=(Up tl d).1) (QE h);simp only[after];exact this
def Wy(p:Bool×Th×Th):Dd:=.tell p.1 p.2.1 p.2.2
theorem yT:∀(a d:Tl),¬Xr (d++a)->after d (a.map Wy)=d++a/\lB d (a.map Wy)=(ES a.length).map λk:Nat=>V.int ((d.length:Int)+(k:Int)+1)
 |[],d,_=>by simp[after,lB]
 |p::a,d,h=>by
  have(b,x,y):=p;have l:¬Xr (d++[(b,x,y)]):=λz=>h (Iq (λc u v m=>.inl (by
   rcases Gh.mp m with m|m
   .exact Gu _ m
   .rw[Tb]at m;rw[m];exact TL _ Tc)) z)
  have e:Up d (.tell b x y)=(d++[(b,x,y)],.int ((d.length:Int)+1)):=by simp only[Up];rw[Gs l]
  have g:d++(b,x,y)::a=(d++[(b,x,y)])++a:=by simp
  rw[g]at h⊢;have(i,j):=yT a (d++[(b,x,y)]) h;exists ?_
  .simp only[Tp,Wy,after,e];exact i
  .simp only[Tp,Wy,lB,e];have f:lB (d++[(b,x,y)]) (a.map Wy)=(ES a.length).map λk:Nat=>V.int (((d++[(b,x,y)]).length:Int)+(k:Int)+1):=j;have u:(a.map λp:Bool×Th×Th=>Dd.tell p.1 p.2.1 p.2.2)=a.map Wy:=rfl;first
    |rw[u,f]
    |rw[f]
   rw[TB,List.range_succ_eq_map,Tp,Dj];simp only[Db];refine{by simp,TX λk _=>?_};simp only[CK,V.int.injEq,Gk,Gy];ext
end Sb
namespace L2
open PySem PySem.Spec PyProof.Rows
def mh(K:Gf)(a:Gd)(n:Nat):It:=
 {λi H=>∃xs,Uw K H a xs/\xs.length=n/\i<n,λi H x H'=>H'=H/\∀xs,Uw K H a xs->xs[n - 1 - i]?=Ga x,λi _=>i=n}
theorem ZY{P:Gn}{w:Tg}{K:Gf}{tg:D4}(a m:Gd)(n:Nat):jf P w K tg (mh K a n) [m] m (λi h=>i<=n/\h.IsRevIter m a ((n:Int) - 1 - (i:Int))) where
 mem:=by simp
 obj:=λi h g b l=>by
  have e:b=m:=by simpa using l
  subst e;have(_,o,e,c,d):=g;exact{o,e,λv z=>by rw[d]at z;cases z}
 keep:=λi h r g k=>{g.1,g.2.at λo e=>k m (by simp) o e}
 item:=by
  intro X G hw F J i j s O H E I t g x;subst G hw F;have(N,v,hn,hi):=x;have(W,M,p,hz):=I.list v;have hl:=M.length;have L:N[n - 1 - i]?=Ga (N[n - 1 - i]'(by ext)):=Ge (by ext);have(u,U,Y):=M.get L;have(y,A,T,B,C,D):=t m (by simp);have e:(n:Int) - 1 - (i:Int)=((n - 1 - i:Nat):Int):=by ext
  have f:=g.2;rw[e]at f;refine Nh f p.isList (x:=u) (by simpa using U) λr q Z=>?_;have Q:zv X j O H {s with heap:=r}:=I.turned (t':=s.toks) (λb o l e=>(Z.2 b l).trans e) y A B C D;have R:((n - 1 - i:Nat):Int) - 1=(n:Int) - 1 - ((i+1:Nat):Int):=by ext
  rw[R]at q;have(o,S,c,d):=id q;exact{u,1,kX (s:={s with heap:=r}) S c d (by decide) {_,H,Q,Y,{1,λys V=>by rw[I.rP V v];exact L},⟨hi,q⟩,λb l=>(t b l).1}}
 done:=by intro X G hw F J i j s O H E I t g x;subst G hw F;have x:i=n:=x;have(y,A,T,B,C,D):=t m (by simp);have f:=g.2;rw[show(n:Int) - 1 - (i:Int)= -1 by ext]at f;exact Nx (I.ok.hd J) f λr q=>{1,I.turned (t':=s.toks) (λb o l e=>q b o l e) y A B C D}
 self:=λ_ _ _ _ _ g h=>Fp g.2 h
inductive sM(K:Gf)(R:It->Hp->Prop)(vs:List V)(H1:Hp):Prop
 |mk (a:_) (xs:_) (h0:vs=[.ref a]) (h1:Uw K H1 a xs) (h2:R (mh K a xs.length) H1):sM K R vs H1
def Q5j(K:Gf)(ta:TA):TI:=λσ H R=>ta σ H λa H1=>sM K R a H1
section
variable{X:Cx}{tg:D4}
theorem xj{a:D4}{n:TA}{p i:M3}(y:Gl X "reversed")(z:X.mg "reversed"=Gq)(w:PA X [a] n)(hs:T4 [a] X.env=[(Gx,eval a X.env)]:=by rfl):PI X tg (.Call (.Name "reversed" p) [a] [] i) (Q5j X.K n):=by
 intro d s r H R I h;refine JV (Uy I y z CL (ED (Xg (w i d s r H _ I h) λK f⟨L,l,j,D,C⟩=>?_) hs Xb));have(b,k,e,A,q):=C;subst e;have(u,rfl,E):=vals1 D;cases(show u=Tk b from E);have(g,F,B,J):=j.list A;have G:=F.length;refine RA B.isList ?_;have t:zv X d r l {f with heap:=f.heap.push (revObj b ((g.toArray.size:Int) - 1))}:=j.kept (t':=f.toks) λb o e=>Gp _ e;have m:(f.heap.push (revObj b ((g.toArray.size:Int) - 1))).IsRevIter f.heap.objs.size b ((k.length:Int) - 1 - ((0:Nat):Int)):=by
  have v:(k.length:Int) - 1 - ((0:Nat):Int)=(g.toArray.size:Int) - 1:=by rw[Tq];lia
  rw[v];exact{_,To _ Xb,11}
 refine Fp m {f.heap.objs.size,[f.heap.objs.size],2,l,1,t,ZY b _ k.length,{Tu _,m},λc x=>?_,q};have e:c=f.heap.objs.size:=by simpa using x
 subst e;exact j.jk (GJ _) (j.Yc.fresh (GJ _))
end
theorem va{K:Gf}{a:Gd}{xs:List V}{g:TG}{l:TS}{D:Ends}{b:St}{H:Hp}(c:Nat->St->Hp->Prop)(n:c 0 b H)(r:∀i b H,i<=xs.length->c i b H->Uw K H a xs)
  (hs:∀i x b H,xs.reverse[i]?=Ga x->c i b H->g x b H λk H2=>l {D with nx:=c (i+1),ct:=c (i+1),bk:=D.nx} k H2)(o:∀b H,c xs.length b H->D.nx b H):
  ∃W:Nat->Nat->St->Hp->Prop,(∃m,W 0 m b H)/\∀i m b H,W i m b H->
   ((mh K a xs.length).stop i H/\D.nx b H)\/((mh K a xs.length).go i H/\∃N:St->Hp->Prop,(∀j d,N j d->∃h,h<m/\W (i+1) h j d)/\∀x d,(mh K a xs.length).yld i H x d->g x b d λk H2=>l {D with nx:=N,ct:=N,bk:=D.nx} k H2):=by
 exists λi m b H=>m=xs.length - i/\i<=xs.length/\c i b H,{xs.length,by simp,Tu _,n};rintro i m b H ⟨rfl,hi,p⟩;have q:=r i b H hi p;by_cases f:i<xs.length
 .refine .inr {⟨xs,q,Xb,f⟩,c (i+1),λj d h=>{xs.length - (i+1),by lia,1,f,h},λx d y=>?_};have(e,y):=y;subst e;exact hs i x b _ (by rw[EN f];exact y xs q) p
 .have e:i=xs.length:=by lia
  subst e;exact .inl {1,o b H p}
end L2
namespace Sb
open PySem PySem.Spec PyProof.Rows L2
variable{H:Hp}{d a f:Gd}{ts:List Th}{t:Th}
structure Mp(P:Gn)(w:Tg)(H:Hp)(d:Gd)(S:Th->Prop)(F:Th->Th):Prop where
 ex:∃zw:List KE,H d=Ga (Uv P w d zw)/\Jg H zw/\∀t,S t->∃b,Yt zw (kd t)=Ga (.ref b)/\Z7 H (.ref b) (F t)
theorem Mp.at{P:Gn}{w:Tg}{S:Th->Prop}{F:Th->Th}(N:Mp P w H d S F):∃o,H d=Ga (.ext o):=by have(a,h,_):=N.ex;exact{_,h}
def jv(j:Nat):V:=.int (j:Int)
theorem K6{i j:Nat}(h:jv i=jv j):i=j:=by unfold jv at h;injection h with h;lia
abbrev Fm:=TQ×List Nat
noncomputable def fm(ts:List Th)(t:Th):Fm:=(t.word,t.parts.map λp=>ts.idxOf p)
def ik(i:Nat):KD:=.int (i:Int)
noncomputable def Xp(f:Fm):KD:=.tup [.str f.1,.tup (f.2.map ik)]
theorem yD:∀{a b:List Nat},a.map ik=b.map ik->a=b
 |[],[],_=>rfl
 |[],_::_,h=>by simp at h
 |_::_,[],h=>by simp at h
 |x::a,y::b,h=>by
  simp only[Tp,Db]at h;have e:(x:Int)=(y:Int):=by have:=h.1;unfold ik at this;injection this
  have t:=yD h.2;rw[t,show x=y by ext]
theorem J9{f g:Fm}(h:Xp f=Xp g):f=g:=by unfold Xp at h;simp only[KD.tup.injEq,Db,KD.str.injEq,BO]at h;exact RN h.1 (yD h.2)
theorem Oa(h:t∈ts):ts[ts.idxOf t]?=Ga t:=by have a:ts.idxOf t<ts.length:=Sh h;rw[Ge a,Mb a]
theorem Oz{j:Nat}(nd:ts.Nodup)(h:ts[j]?=Ga t):ts.idxOf t=j:=by have(a,e):=Gg.mp h;subst e;exact nd.idxOf_getElem j a
theorem qq{s:Th}(hs:s∈ts)(ht:t∈ts)(e:ts.idxOf s=ts.idxOf t):s=t:=by have a:=Oa hs;have b:=Oa ht;rw[e,b]at a;exact(T3 a).symm
theorem PN{a:List Th}(h:t∈ts):(ts++a).idxOf t=ts.idxOf t:=by rw[RU,GV h]
theorem Ka{c:List Th}:∀{a b:List Th},(∀x∈a,x∈c)->(∀x∈b,x∈c)->a.map (λp=>c.idxOf p)=b.map (λp=>c.idxOf p)->a=b
 |[],[],_,_,_=>rfl
 |[],_::_,_,_,h=>by simp at h
 |_::_,[],_,_,h=>by simp at h
 |x::a,y::b,e,f,h=>by simp only[Tp,Db]at h;rw[qq (e x Tc) (f y Tc) h.1,Ka (λz d=>e z (Gr _ d)) (λz d=>f z (Gr _ d)) h.2]
theorem We(b:U5 ts)(h:t∈ts):∀p∈t.parts,p∈ts:=λp a=>by
 refine b t h p ?_;cases t with
 |mk w c=>simp only[Th.parts]at a;simp only[Th.inside,Gh];left;rw[Wa,EC];exact{p,a,A4 p}
theorem rq{s:Th}(hs:∀p∈s.parts,p∈ts)(ht:∀p∈t.parts,p∈ts)(e:fm ts s=fm ts t):s=t:=by
 cases s with
 |mk w a=>
  cases t with
  |mk v b=>unfold fm at e;simp only[Th.word,Th.parts,Ek]at e hs ht;rw[e.1,Ka hs ht e.2]
theorem qb{b:List Th}(h:∀p∈t.parts,p∈ts):fm (ts++b) t=fm ts t:=by unfold fm;refine RN rfl (TX λp a=>PN (h p a))
inductive Oj(H:Hp)(x:V)(f:Fm):Prop
 |mk (c:_) (e:_) (h0:x=.ref c) (h1:H c=Ga (.tup [.str f.1,.ref e])) (h2:H e=Ga (.tup (f.2.map jv))):Oj H x f
theorem Oj.Qv{a:Hp}{x:V}{f:Fm}(e:Q7 H a)(h:Oj H x f):Oj a x f:=by have(c,d,b,g,i):=h;exact{c,d,b,e _ _ g,e _ _ i}
theorem ze{H:Hp}:∀l:List Nat,hH H (l.map jv) (Ji (l.map ik))
 |[]=>by simp only[Ly,Ji];exact .nil
 |i::r=>by simp only[Tp,Ji,ik,KD.toD];exact .cons (.int _) (ze r)
theorem zd:∀l:List Nat,Gw (Ji (l.map ik))=Gi
 |[]=>by simp[Ji,Gw]
 |i::r=>by simp only[Tp,Ji];simp only[Gw,zd r,SM];simp[ik,KD.toD,Tv]
theorem wg:∀l:List Nat,Ru (l.map ik)=0
 |[]=>by simp[Ru]
 |i::r=>by simp only[Tp,Ru,wg r];simp[ik,KD.depth]
theorem Oj.key{c:Gd}{f:Fm}(h:Oj H (.ref c) f)(ok:DM f.1=Gi):iu H c (Xp f):=by
 have(g,e,a,b,d):=h;cases a;unfold Xp;exists ?_,?_
 .simp only[KD.toD,Ji];exact .tup b (.cons (.str _) (.cons (.tup d (ze f.2)) .nil))
 .simp only[KD.toD,Ji,Tv,Gw,ok,zd,LJ]
 .simp only[KD.depth,Ru,wg];decide
noncomputable def Ry(a f d:Gd):List (TQ×V):=[("things",.ref a),("forms",.ref f),("known",.ref d)]
structure Pl(P:Gn)(w:Tg)(C:Gd)(H:Hp)(p a f d:Gd)(ts:List Th):Prop where
 ob:∃dx,H p=Ga (.ins C dx (Ry a f d))
 th:∃us,H a=Ga (.lst us)/\Zy H us ts
 fo:∃ws,H f=Ga (.lst ws)/\Dg (Oj H) ws (ts.map (fm ts))
 kn:∃zw,DH P w H d zw/\zw.length<=ts.length/\(∀(j:Nat)t,ts[j]?=Ga t->Yt zw (Xp (fm ts t))=Ga (jv j))/\∀k v,Yt zw k=Ga v->∃t∈ts,k=Xp (fm ts t)
 af:a≠f
 nd:ts.Nodup
 cl:U5 ts
 ok:∀t∈ts,t.ok=Gi/\t.depth<=50
structure hJ(a f d:Gd)(H H':Hp):Prop where
 keep:∀b o,H b=Ga o->b≠a->b≠f->b≠d->H' b=Ga o
 there:∀b,H' b=Gq->H b=Gq
theorem hJ.refl:hJ a f d H H:={λ_ _ e _ _ _=>e,λ_ h=>h}
theorem hJ.trans{c g:Hp}(x:hJ a f d H c)(y:hJ a f d c g):hJ a f d H g:={λb o e i j k=>y.keep b o (x.keep b o e i j k) i j k,λb h=>x.there b (y.there b h)}
theorem hJ.of{c:Hp}(g:Q9 H c):hJ a f d H c:={λb o e _ _ _=>g b o e,λb h=>g.free h}
section
variable{P:Gn}{w:Tg}{C:Gd}{H H':Hp}{p a f d:Gd}{ts:List Th}
theorem hJ.Qv(x:hJ a f d H H')(y:Pl P w C H p a f d ts):Q7 H H':=λb k e=>by have(i,h,_):=y.th;have(j,c,_):=y.fo;have(g,n1,_):=y.kn;exact x.keep b _ e (Zu e h (by intro z;cases z)) (Zu e c (by intro z;cases z)) (Zu e n1.at_ (by intro z;cases z))
theorem Pl.keep(x:Pl P w C H p a f d ts)(m:∀o,H p=Ga o->H' p=Ga o)(j:∀o,H a=Ga o->H' a=Ga o)(l:∀o,H f=Ga o->H' f=Ga o)(k:∀o,H d=Ga o->H' d=Ga o)(c:Q7 H H'):Pl P w C H' p a f d ts:=by have(e,q):=x.ob;have(t,r,s):=x.th;have(u,g,i):=x.fo;have(b,n1,n2,n3,n):=x.kn;exact{{e,m _ q},{t,j _ r,s.Qv c},{u,l _ g,Qr i λ_ _ h=>h.Qv c},{b,{k _ n1.at_,Zp c n1.keys},n2,n3,n},x.af,x.nd,x.cl,x.ok}
theorem Pl.same(g:Q9 H H')(x:Pl P w C H p a f d ts):Pl P w C H' p a f d ts:=x.keep (g _) (g _) (g _) (g _) (Q7.of g)
theorem Pl.but{b:Gd}{l g:List V}(x:Pl P w C H p a f d ts)(c:H b=Ga (.lst l))(h:b≠a)(i:b≠f):Pl P w C (zj H b (.lst g)) p a f d ts:=by
 have(m,k):=x.ob;have(j,n1,_):=x.kn;refine x.keep (λo e=>?_) (λo e=>by rw[Qh (Ta h)];exact e) (λo e=>by rw[Qh (Ta i)];exact e) (λo e=>?_) (Z2 λn e=>by rw[c]at e;cases e)
 .rw[Qh (Zu k c (by intro z;cases z))];exact e
 .rw[Qh (Zu n1.at_ c (by intro z;cases z))];exact e
end
structure nX(a f d dn:Gd)(S S':List Gd)(H H':Hp):Prop where
 keep:∀b o,H b=Ga o->b≠a->b≠f->b≠d->b≠dn->b∉S->H' b=Ga o
 own:∀b∈S',b∈S\/H b=Gq
 sub:∀b∈S,b∈S'
 there:∀b,H' b=Gq->H b=Gq
theorem nX.trans{c:Gd}{S j k:List Gd}{g i:Hp}(x:nX a f d c S j H g)(y:nX a f d c j k g i):nX a f d c S k H i:=by
 refine{λb o e l m n p q=>y.keep b o (x.keep b o e l m n p q) l m n p λz=>?_,λb r=>?_,λb h=>y.sub b (x.sub b h),λb h=>x.there b (y.there b h)}
 .rcases x.own b z with z|z
  .exact q z
  .rw[e]at z;cases z
 .rcases y.own b r with h|h
  .exact x.own b h
  .exact .inr (x.there b h)
inductive wQ(P:Gn)(w:Tg)(C:Gd)(vs:List V)(H:Hp)(Q:VK):Prop
 |mk (p:Gd) (dx:Gd) (h0:vs=[.ref p]) (h1:H p=Ga (.ins C dx [])) (h2:∀(a f d:Gd)(H':Hp),Pl P w C H' p a f d []->(∀b o,H b=Ga o->b≠p->H' b=Ga o)->H a=Gq->H f=Gq->H d=Gq->Q .non H'):wQ P w C vs H Q
def yg(P:Gn)(w:Tg)(C:Gd):Sp:=λa H Q _=>wQ P w C a H Q
inductive tR(P:Gn)(w:Tg)(C:Gd)(vs:List V)(H:Hp)(Q:VK):Prop
 |mk (p:Gd) (c:Gd) (v:V) (t:Th) (a:Gd) (f:Gd) (d:Gd) (ts:List Th) (h0:vs=[.ref p,v,.ref c]) (h1:Pl P w C H p a f d ts) (h2:Z7 H v t) (h3:t.ok=Gi) (h4:t.depth<=50) (h5:(∀q∈t.parts,q∈ts)) (h6:Oj H (.ref c) (fm ts t)) (h7:ts.length<1000000) (h8:∀(j:Nat)(H':Hp),Pl P w C H' p a f d (if t∈ts then ts else ts++[t])->(if t∈ts then ts else ts++[t])[j]?=Ga t->hJ a f d H H'->Q (jv j) H'):tR P w C vs H Q
def pX(P:Gn)(w:Tg)(C:Gd):Sp:=λa H Q _=>tR P w C a H Q
inductive xF(P:Gn)(w:Tg)(C:Gd)(vs:List V)(H:Hp)(Q:VK):Prop
 |mk (p:Gd) (v:V) (t:Th) (a:Gd) (f:Gd) (d:Gd) (ts:List Th) (h0:vs=[.ref p,v]) (h1:Pl P w C H p a f d ts) (h2:Z7 H v t) (h3:t.ok=Gi) (h4:t.depth<=50) (h5:ts.length+t.size<=500000) (h6:∀(j:Nat)(H':Hp),Pl P w C H' p a f d (Xh ts t.inside)->(Xh ts t.inside)[j]?=Ga t->hJ a f d H H'->Q (jv j) H'):xF P w C vs H Q
def yy(P:Gn)(w:Tg)(C:Gd):Sp:=λa H Q _=>xF P w C a H Q
end Sb
namespace L2
open PySem PySem.Spec PyProof.Rows
variable{G:Prop}
theorem Qmg{K:Gf}{a p:Gd}{xs:List V}{g:TG}{B:TT}{A:TE}{Q:Hp->Prop}{n:St}{t:Hp}(h:Nat->List V->St->Hp->Prop)(f:xs.length<=TH)(C:h 0 [] n (zj t p (.lst [])))
  (E:∀i c d H,i<=xs.length->h i c d H->hB K H a xs)
  (hs:∀i x c d H,xs[i]?=Ga x->h i c d H->H p=Ga (.lst c)->g x d H λj H2=>B j H2 λb o=>if b=Gi then A j o λv u=>u p=Ga (.lst c)/\h (i+1) (c++[v]) j (zj u p (.lst (c++[v])))else o p=Ga (.lst c)/\h (i+1) c j o)
  (D:∀c d H,c.length<=xs.length->h xs.length c d H->H p=Ga (.lst c)->Q H):jD p (ju K a) g B A Q n (zj t p (.lst [])):=by
 exists λi m d H=>m=xs.length - i/\i<=xs.length/\∃c,c.length<=i/\h i c d H/\H p=Ga (.lst c),{xs.length,by simp,Tu _,[],GJ _,C,Qb};rintro i m d H ⟨rfl,hi,c,z,pv,w⟩;have q:=E i c d H hi pv;by_cases l:i<xs.length
 .refine .inr ⟨{xs,xs[i],q,by simp[l]},λv f k=>k p=Ga (.lst c)/\h (i+1) (c++[v]) f (zj k p (.lst (c++[v]))),λf k=>k p=Ga (.lst c)/\h (i+1) c f k,
   λv f k⟨r,s⟩=>{c,r,by lia,xs.length - (i+1),by lia,1,l,c++[v],by simp[z],s,Qb},λf k⟨r,s⟩=>{xs.length - (i+1),by lia,1,l,c,by lia,s,r},λx k y=>?_⟩
  have(e,y):=y;subst e;exact hs i x c d _ (y xs q) pv w
 .have e:i=xs.length:=by lia
  subst e;exact .inl {{xs,q,GJ _},D c d H z pv w}
theorem Qux{X:Cx}{a b:D4}{l:M3}{i j:Nat}(w:PE X a (Ul i))(A:PE X b (Ul j)):PE X (.BoolOp .Or [a,b] l) (λσ H Q=>∃x y,σ[i]?=Ga (Ga (.int x))/\σ[j]?=Ga (Ga (.int y))/\∀z:Int,Q (.int z) H):=by
 intro d s σ H Q I h;have(x,y,t,u,q):=h;refine BoolOp_or (Xg (w d s σ H (λv f=>v=.int x/\f=H) I {_,t,11}) λv B⟨D,f,o,n,p,r⟩=>?_);subst p r;refine Xg (yB d B σ f (.int x) v (λk g=>g=f) o n {401}) λc C⟨g,m,e⟩=>?_;subst e;cases c with
 |true=>exact{.int x,g,m,n,q x}
 |false=>exact kM A d C σ g Q m {_,u,q y}
theorem QJ{T:Int->Prop}(k:(∀i,T i)->G)(h:∀i,T i):G:=k h
theorem QN{F T:Gd->Hp->Prop}(k:(∀a H,F a H->T a H)->G)(h:∀a H,F a H->T a H):G:=k h
theorem Q20{A B:Prop}(k:A->B->G)(a:A)(b:B):G:=k a b
theorem OH(a:List V)(h:0<a.length):∃v,Oh a (-1)=Ga v/\a[a.length - 1]?=Ga v:=by
 have hi:a.length - 1<a.length:=by ext
 refine{_,?_,Ge hi};unfold Oh ixN;rw[Gs (by decide),GV (by ext)];have e:((-1:Int)+(a.length:Int)).toNat=a.length - 1:=by ext
 rw[e];show a[a.length - 1]?=_;exact Ge hi
end L2
namespace Sb
open PySem PySem.Spec PyProof.Rows L2
variable{a f d wk:Gd}{H H':Hp}{D S:List Gd}{m:Nat}{ts:List Th}
noncomputable def wfl(p:Gd)(n:Int):List (TQ×V):=[("places",.ref p),("steps",.int n)]
theorem P5(p:Gd)(n k:Int):Y0 "steps" (.int k) (wfl p n)=wfl p k:=by
 have h:¬(("places":TQ)="steps"):=by decide+kernel
 simp only[wfl,Y0,Gs h,Mo]
theorem VT(p:Gd):Y0 "steps" (.int 0) (Y0 "places" (.ref p) [])=wfl p 0:=by
 have h:¬(("places":TQ)="steps"):=by decide+kernel
 simp only[wfl,Y0,Gs h]
inductive ie(CW:Gd)(H:Hp)(wk p:Gd):Prop
 |mk (dx:_) (n:_) (h0:H wk=Ga (.ins CW dx (wfl p n))):ie CW H wk p
theorem Q6l{C b e c p:Gd}{n:Int}:HO.ins C e (Ry a f d)≠HO.ins b c (wfl p n):=by intro z;injection z with _ _ z;have:=congrArg E1 z;simp[Ry,wfl]at this
structure hF(H:Hp)(D S:List Gd)(m:Nat)(ts:List Th):Prop where
 at_:∀dn∈D,∃zw,H dn=Ga (.dT zw)/\zw.length<=m/\∀k v,Xq zw k=Ga v->∃l∈S,v=.ref l
 ls:∀l∈S,∃es,H l=Ga (.lst es)/\es.length<=m/\∀e∈es,∃c v,∃(j:Nat)(t:Th),e=.ref c/\H c=Ga (.tup [v,jv j])/\Z7 H v t/\ts[j]?=Ga t
theorem hF.keep{i:Nat}{a:List Th}(x:hF H D S m ts)(r:∀d∈D,∀o,H d=Ga o->H' d=Ga o)(u:∀l∈S,∀o,H l=Ga o->H' l=Ga o)(k:Q7 H H')(b:∀(j:Nat)t,ts[j]?=Ga t->a[j]?=Ga t)(e:m<=i):hF H' D S i a:=by
 refine{λf g=>?_,λl h=>?_}
 .obtain⟨e,n,q,p⟩:=x.at_ f g;exact{e,r f g _ n,by ext,p}
 .obtain⟨q,n,B,p⟩:=x.ls l h;refine{q,u l h _ n,by ext,λe s=>?_};have(c,v,j,t,w,y,z,A):=p e s;exact{c,v,j,t,w,k _ _ y,z.Qv k,b j t A}
theorem hF.same(g:Q9 H H')(x:hF H D S m ts):hF H' D S m ts:=x.keep (λd _=>g d) (λl _=>g l) (Q7.of g) (λ_ _ h=>h) (GJ _)
theorem hF.mono{a:Nat}(x:hF H D S m ts)(h:m<=a):hF H D S a ts:=x.keep (λ_ _ _ h=>h) (λ_ _ _ h=>h) (λ_ _ h=>h) (λ_ _ h=>h) h
theorem hF.more{c:Gd}(x:hF H D S m ts)(d:H c=Gq):hF (zj H c (.dT [])) (c::D) S m ts:=by
 have y:=x.same (Qf d (.dT []));refine{λb a=>?_,y.ls};rcases Tf.mp a with rfl|a
 .exact{[],Qb,Tu _,λk v e=>by rw[qc]at e;cases e}
 .exact y.at_ b a
structure hX(a f d wk:Gd)(D D' S S':List Gd)(H H':Hp):Prop where
 keep:∀b o,H b=Ga o->b≠a->b≠f->b≠d->b≠wk->b∉D->b∉S->H' b=Ga o
 Qmd:∀b∈D',b∈D\/H b=Gq
 Qic:∀b∈S',b∈S\/H b=Gq
 Qsl:∀b∈D,b∈D'
 Qsb:∀b∈S,b∈S'
 there:∀b,H' b=Gq->H b=Gq
theorem hX.of(g:Q9 H H'):hX a f d wk D D S S H H':={λb o e _ _ _ _ _ _=>g b o e,λ_ h=>.inl h,λ_ h=>.inl h,λ_ h=>h,λ_ h=>h,λb h=>g.free h}
theorem hX.trans{g i l m:List Gd}{j k:Hp}(x:hX a f d wk D g S l H j)(y:hX a f d wk g i l m j k):hX a f d wk D i S m H k:=by
 refine{λb o e n p q r s t=>y.keep b o (x.keep b o e n p q r s t) n p q r (λz=>?_) (λz=>?_),λb c=>?_,λb c=>?_,λb h=>y.Qsl b (x.Qsl b h),λb h=>y.Qsb b (x.Qsb b h),λb h=>x.there b (y.there b h)}
 .rcases x.Qmd b z with z|z
  .exact s z
  .rw[e]at z;cases z
 .rcases x.Qic b z with z|z
  .exact t z
  .rw[e]at z;cases z
 .rcases y.Qmd b c with h|h
  .exact x.Qmd b h
  .exact .inr (x.there b h)
 .rcases y.Qic b c with h|h
  .exact x.Qic b h
  .exact .inr (x.there b h)
theorem hX.Qv{P:Gn}{w:Tg}{C g:Gd}{p:Gd}{i j:List Gd}(x:hX a f d wk D i S j H H')(W:ie g H wk p)(y:Pl P w C H p a f d ts)(z:hF H D S m ts):Q7 H H':=λb v e=>by
 have(t,q,_):=y.th;have(u,k,_):=y.fo;have(l,n1,_):=y.kn;have(r,n,o):=W;refine x.keep b _ e (Zu e q (by intro z;cases z)) (Zu e k (by intro z;cases z)) (Zu e n1.at_ (by intro z;cases z)) (Zu e o (by intro z;cases z)) (λc=>?_) λc=>?_
 .obtain⟨s,h,_⟩:=z.at_ b c;rw[e]at h;cases h
 .obtain⟨s,h,_⟩:=z.ls b c;rw[e]at h;cases h
theorem QX{l o:Hp}{h q:Gd}{k:List Wi}{n:List (List Wi×V)}{y:V}(x:hF H D S m ts)(M:h∈D)(w:H h=Ga (.dT n))(C:Q9 H l)(F:l q=Gq)
  (P:(Xq n k=Ga y/\o=zj l q (.lst []))\/(Xq n k=Gq/\y=.ref q/\o=zj (zj l q (.lst [])) h (.dT (n++[(k,.ref q)])))):
  ∃f r,y=.ref f/\f∈r/\hF o D r (m+1) ts/\(∀b∈S,b∈r)/\(∀b∈r,b∈S\/H b=Gq)/\(∀b u,H b=Ga u->b≠h->o b=Ga u)/\(∀b,o b=Gq->H b=Gq):=by
 have g:=C.trans (Qf F (.lst []));have R:H q=Gq:=C.free F;have(aa,n1,n2,n3):=x.at_ h M;rw[w]at n1;cases n1;rcases P with⟨T,rfl⟩|⟨O,rfl,rfl⟩
 .obtain⟨f,i,rfl⟩:=n3 _ _ T;exact{f,S,1,i,x.keep (λd _=>g d) (λf _=>g f) (Q7.of g) (λ_ _ e=>e) (LW _),λ_ e=>e,λ_ e=>.inl e,λb u a _=>g _ _ a,λb e=>g.free e}
 .have E:=g _ _ w;have G:(zj l q (.lst [])) q=Ga (.lst []):=Qb;have Q:q≠h:=Zu G E (by intro z;cases z);have Y:Q7 (zj l q (.lst [])) (zj (zj l q (.lst [])) h (.dT (n++[(k,.ref q)]))):=Z2 λJ a=>by rw[E]at a;cases a
  have I:Q7 H (zj (zj l q (.lst [])) h (.dT (n++[(k,.ref q)]))):=λb J a=>Y b J (g _ _ a);refine{q,q::S,1,Tc,{λA N=>?_,λf i=>?_},λb e=>Gr _ e,λb e=>?_,λb u a e=>by rw[Qh e];exact g _ _ a,λb e=>?_}
  .by_cases v:A=h
   .subst v;refine{_,Qb,by rw[Gk,Gy];lia,λp U a=>?_};rw[qz (κ:=List Wi) k p _ n O]at a;by_cases B:p=k
    .rw[GV B]at a;cases a;exact⟨q,Tc,Xb⟩
    .rw[Gs B]at a;have(f,i,s):=n3 _ _ a;exact{f,Gr _ i,s}
   .obtain⟨L,B,W,K⟩:=x.at_ A N;refine{L,by rw[Qh v];exact g _ _ B,by lia,λp U a=>?_};have(f,i,s):=K _ _ a;exact{f,Gr _ i,s}
  .rcases Tf.mp i with rfl|i
   .exact{[],by rw[Qh Q];exact G,Tu _,λa v=>nomatch v}
   .obtain⟨L,B,s,K⟩:=x.ls f i;refine{L,?_,by lia,λa v=>?_}
    .rw[Qh (Zu B w (by intro z;cases z))];exact g _ _ B
    .obtain⟨c,Z,j,t,U,p,W,X⟩:=K a v;exact{c,Z,j,t,U,I _ _ p,W.Qv I,X}
  .rcases Tf.mp e with rfl|e
   .exact .inr R
   .exact .inl e
  .by_cases v:b=h
   .subst v;rw[Qb]at e;cases e
   .rw[Qh v]at e;exact g.free e
inductive vA(CW:Gd)(vs:List V)(H:Hp)(Q:VK):Prop
 |mk (wk:Gd) (dx:Gd) (p:Gd) (h0:vs=[.ref wk,.ref p]) (h1:H wk=Ga (.ins CW dx [])) (h2:∀H',ie CW H' wk p->(∀b o,H b=Ga o->b≠wk->H' b=Ga o)->(∀b,H' b=Gq->H b=Gq)->Q .non H'):vA CW vs H Q
def uh(a:Gd):Sp:=λb H Q _=>vA a b H Q
inductive yz(vs:List V)(H:Hp)(Q:VK):Prop
 |mk (l:Gd) (v:V) (t:Th) (es:List V) (ts:List Th) (h0:vs=[.ref l,v]) (h1:H l=Ga (.lst es)) (h2:(∀e∈es,∃c v,∃(j:Nat)(t:Th),e=.ref c/\H c=Ga (.tup [v,jv j])/\Z7 H v t/\ts[j]?=Ga t)) (h3:(∀t∈ts,t.ok=Gi/\t.depth<=50)) (h4:Z7 H v t) (h5:t.ok=Gi) (h6:t.depth<=50) (h7:(∀j:Nat,ts[j]?=Ga t->Q (jv j) H)) (h8:Q .non H):yz vs H Q
def oJ:Sp:=λa H Q _=>yz a H Q
inductive xD(vs:List V)(H:Hp)(Q:VK):Prop
 |mk (i:Int) (j:Int) (h0:vs=[.int i,.int j]) (h1:j<1000000) (h2:∀r:Int,Q (.int r) H):xD vs H Q
def pI:Sp:=λa H Q _=>xD a H Q
inductive uJ(P:Gn)(w:Tg)(C:Gd)(CW:Gd)(n:Nat)(vs:List V)(H:Hp)(Q:VK):Prop
 |mk (wk:Gd) (p:Gd) (dn:Gd) (v:V) (sp:Int) (t:Th) (a:Gd) (f:Gd) (d:Gd) (D:List Gd) (S:List Gd) (m:Nat) (ts:List Th) (h0:vs=[.ref wk,v,.ref dn,.int sp]) (h1:ie CW H wk p) (h2:Pl P w C H p a f d ts) (h3:hF H D S m ts) (h4:dn∈D) (h5:a∉S) (h6:f∉S) (h7:Z7 H v t) (h8:t.ok=Gi) (h9:t.depth<=n) (h10:t.depth<=50) (h11:m+2*t.size<=1000000) (h12:ts.length+t.size<=1000000) (h13:∀(j:Nat)(D' S':List Gd)(H':Hp),ie CW H' wk p->Pl P w C H' p a f d (Xh ts t.inside)->hF H' D' S' (m+2*t.size) (Xh ts t.inside)->(Xh ts t.inside)[j]?=Ga t->hX a f d wk D D' S S' H H'->Q (jv j) H'):uJ P w C CW n vs H Q
def j7(P:Gn)(w:Tg)(C a:Gd)(n:Nat):Sp:=λb H Q _=>uJ P w C a n b H Q
theorem V6:∀(l:List Th)(i:Nat),Q6 (l.take i)<=Q6 l
 |[],_=>by simp
 |x::l,0=>by simp[Q6]
 |x::l,i+1=>by have:=V6 l i;simp only[SQ,Q6];lia
theorem Qig(a:List Th)(i:Nat)(t:Th)(h:a[i]?=Ga t):Zm (a.take (i+1))=Zm (a.take i)++t.inside:=by rw[TF,h,Wa,NF,<-Wa];simp
theorem sj:∀(a:List Th)(i:Nat)(t:Th),a[i]?=Ga t->Q6 (a.take (i+1))=Q6 (a.take i)+t.size
 |[],_,_,h=>by simp at h
 |x::r,0,t,h=>by simp at h;subst h;simp[Q6]
 |x::r,i+1,t,h=>by have:=sj r i t (by simpa using h);simp only[SQ,Q6]at this⊢;lia
theorem pk{a b:List Th}{j:Nat}{t:Th}(h:a[j]?=Ga t):(Xh a b)[j]?=Ga t:=by have(m,e):=Uj b a;rw[e,Tt (Gg.mp h).1];exact h
end Sb
namespace L2
open PySem PySem.Spec PyProof.Rows
inductive uU(x:V)(vs:List V)(H:Hp)(Q:VK):Prop
 |mk (d:_) (b:_) (dv:_) (zw:_) (k:_) (h0:x=.ref d) (h1:vs=[.ref b,dv]) (h2:H d=Ga (.dT zw)) (h3:H b=Ga (.tup (k.map kV))) (h4:zw.length<TH) (h5:∀v H',((Xq zw k=Ga v/\H'=H)\/(Xq zw k=Gq/\v=dv/\H'=zj H d (.dT (zw++[(k,dv)]))))->Q v H'):uU x vs H Q
def Qth:V->List V->Hp->VK->Prop:=λx a H Q=>uU x a H Q
theorem WG{X:Cx}(n:X.A.units+1<EY):iO X "dict.setdefault" Qth:=by intro a s w H x u v t Q I r p h;have(d,b,e,c,k,f,g,i,j,l,q):=h;exact OT n a s w H x u v t Q I r p {d,b,e,c,k,f,g,i,j,l,λv o=>q v H (.inl ⟨o,Xb⟩),λm=>q e _ (.inr ⟨m,Xb,Xb⟩)}
end L2
namespace Sb
open PySem L2
abbrev KI(K:Gf)(f:Gd):Prop:=DY K (.ref f)=Gi
abbrev MG(mg:TQ->Option Gj)(x:TQ)(f:Gd):Prop:=mg x=Ga (.ref f)
abbrev Xk(X:Cx)(s:DR)(n:Nat):=Subtype (W0 X ((Zs s).drop n))
end Sb
namespace K06
open PySem L2 Sb
variable{f C f0 CW:Gd}{fd:Do}
structure Ra(mg:TQ->Option Gj):Prop where
 len:mg "len"=Gq
 list:mg "list"=Gq
 tuple:mg "tuple"=Gq
 range:mg "range"=Gq
 reversed:mg "reversed"=Gq
 enumerate:mg "enumerate"=Gq
 zip:mg "zip"=Gq
 sorted:mg "sorted"=Gq
theorem Ol(x:V)(a:List V):Oh (x::a) (0:Int)=Ga x:=Zk (xs:=x::a) (j:=0) rfl
def oA(t:Th):List Wi:=(qV t).map MM
theorem QS(t:Th):(oA t).map kV=(qV t).map V.str:=by unfold oA;rw[Dj];rfl
inductive tT(vs:List V)(H:Hp)(Q:VK):Prop
 |mk (v:V) (t:Th) (h0:vs=[v]) (h1:Z7 H v t) (h2:t.size<=1000000) (h3:∀(r:Gd)(H':Hp),Q9 H H'->H' r=Ga (.tup ((oA t).map kV))->Q (.ref r) H'):tT vs H Q
def p8:Sp:=λa H Q _=>tT a H Q
section
variable{P:Gn}{w:Tg}{K:Gf}{mg:TQ->Option Gj}{base:Heap}
theorem K3:Q8 ["thing"] ["thing"] (Qo nE):=by eq_refl
theorem WC(F:Wg K "top_words" "top_words" nE f fd)(E:Ra mg):Q3 P w K mg base Ya 1 f fd ["thing"] p8:=by
 refine F.ok K3 (λb v H G e=>?_) (λX W ab s v b H G Y e=>?_)
 .obtain⟨T,t,rfl,_⟩:=e;rfl
 subst_vars;have(T,t,rfl,ht,O,q):=e;have(a,n,b,k,rfl,rfl,z,B):=ht.inv;and_intros;exists _,Qg (Qt (X0 Uh rfl E.tuple Di (Qa (Zf Wc (Zt (Qa (Qn Qs {0} Qi) Qd))
  (Ug (own:=["part"]) (fv:=[]) rfl (S:=(by eq_refl:Wb (Qo nE) _)) .nil (Jd (Z3 V9 {0} (Yd Qi) Yu))
   (λ_ _ _ _ _=>Yz (i:=0) (nd1 _) rfl (DX Xb) (Sq Xb)) (λ_ _ _ _ _=>Wk) (λ_ _ _ _ _=>Qn (r:=jw K) Qs {0} Qi (λ_ _=>rfl)))) Qd)))
 simp only[Th.size]at O;have Z:=Zj k;have S:=B.length;refine{0,a,2,.str n,11,Qj z,Ol _ _,Wz,λy L=>?_};have l:=Qf L (.lst [.str n]);refine{00,a,0,Qj (l _ _ z),Wm _ _,λr N=>?_};rw[iH];have m:=Qf N (.tup b);refine{r,1,{_,Qj Qb},λp A=>?_};have C:=Qf A (.lst []);have ac:=(l.trans m).trans C;refine Ib (K:=K) (a:=r) (xs:=b) (small (by lia)) (λi o u g=>(∃D,u=[D])/\Q9 (zj (zj v y (.lst [.str n])) r (.tup b)) g/\o=(k.take i).map λt=>V.str t.word)
  {{40},C,by simp} (λi o u g _ e=>Qj (e.2.1 _ _ Qb)) ?_ ?_
 .rintro i x o u g hi R ⟨⟨D,rfl⟩,d,rfl⟩ j;subst_vars;have(t,M,Q):=B.get hi;have(I,U,us,qs,rfl,rfl,J,_):=Q.inv;and_intros;exists 0,I,2,.str U,11,Qj (d _ _ (m _ _ (l _ _ J))),Ol _ _,j,{40},λc aa h=>?_
  .rw[Qh (Qe h A)];exact d _ _ h
  .rw[TF,M,TY];rfl
 .rintro o u g R ⟨_,d,rfl⟩ j;have h:k.take b.length=k:=by rw[S,Tz]
  rw[h]at j;have I:=d _ _ (m _ _ (@Qb v y (.lst [.str n])));refine{y,p,301,I,j,small (by rw[Gv,Gy];lia),λc J=>?_};refine{c,0,.inl {Qk Qb,λQ M=>?_}};refine q Q _ ((((l.trans m).trans d).trans (Qf J _)).trans (Qf M _)) ?_;rw[Qb,QS];simp[qV,Th.word,Th.parts]
theorem n1:¬(("things":TQ)="forms"):=by decide+kernel
theorem n2:¬(("things":TQ)="known"):=by decide+kernel
theorem n3:¬(("forms":TQ)="known"):=by decide+kernel
theorem ZP(a f d:Gd):Y0 "known" (.ref d) (Y0 "forms" (.ref f) (Y0 "things" (.ref a) []))=Ry a f d:=by simp only[Y0,Gs n1,Gs n2,Gs n3,Ry]
theorem vI(a f d:Gd):(Ry a f d).lookup ("things":TQ)=Ga (.ref a):=by rfl
theorem Qxm(a f d:Gd):(Ry a f d).lookup ("forms":TQ)=Ga (.ref f):=by rfl
theorem nB(a f d:Gd):(Ry a f d).lookup ("known":TQ)=Ga (.ref d):=by rfl
theorem QC(a f d:Gd):(Ry a f d).lookup ("place_by_form":TQ)=Gq:=by rfl
structure iJ(K:Gf)(mg:TQ->Option Gj)(C:Gd):Prop where
 cl:ic K C
 nT:Xf K C "things"
 nF:Xf K C "forms"
 nN:Xf K C "known"
 mgC:mg "Places"=Ga (.ref C)
theorem Y3:Q8 ["self"] ["self"] (Qo lJ):=by eq_refl
theorem WR(F:Wg K "__init__" "Places.__init__" lJ f fd)(T:iJ K mg C):Q3 P w K mg base Ya 1 f fd ["self"] (yg P w C):=by
 refine F.ok Y3 (λN H Q E h=>?_) (λM A L s H N Q E S h=>?_)
 .obtain⟨p,x,rfl,_⟩:=h;rfl
 have(p,x,rfl,G,q):=h;show∃t,W0 ?my _ t/\_;let R:Xk ?my lJ 2:={_,Qg (Xm {0} Rn Xb)}
 let O:Xk ?my lJ 1:={_,Qc (Xm {0} (Zt Qd) rfl) R.2}
 exists _,Qc (Xm {0} (Zt Qd) rfl) O.2;refine{Tu _,λa I=>?_};have c:p≠a:=Qe G I;refine{0,p,C,x,[],1,(by rw[Qh c];exact G),T.cl,T.nT,by show 0<1000;decide,Tu _,λf u=>?_};have g:p≠f:=Qe Qb u;have i:a≠f:=Qe (o:=.lst []) (by rw[Qh (Ta c),Qb]) u;refine{0,p,C,x,0,(by rw[Qh g,Qb]),T.cl,T.nF,by show 1<1000;decide,λd n=>?_};have l:p≠d:=Qe Qb n;have D:f≠d:=Qe (o:=.lst []) (by rw[Qh (Ta g),Qb]) n;have B:a≠d:=Qe (o:=.lst []) (by rw[Qh (Ta c),Qh i,Qh (Ta c),Qb]) n;exists 0,p,C,x,0,(by rw[Qh l,Qb]),T.cl,T.nN,(by show 2<1000;decide);refine q a f d _ {{x,?_},{[],?_,.nil},{[],?_,.nil},{[],{?_,λp G=>nomatch G},GJ _,λj t e=>?_,λk v e=>?_},i,SV,Qna,λt ht=>by simp at ht} (λb o e r=>?_) I ?_ ?_
 .rw[Qb,ZP]
 .rw[Qh (Ta c),Qh B,Qh (Ta c),Qh i,Qh (Ta c),Qb]
 .rw[Qh (Ta g),Qh D,Qh (Ta g),Qb]
 .rw[Qh (Ta l),Qb];rfl
 .simp at e
 .simp[Yt]at e
 .have m:b≠a:=Qe e I;have y:b≠f:=λz=>by subst z;rw[Qh r,Qh m,e]at u;cases u
  have J:b≠d:=λz=>by subst z;rw[Qh r,Qh y,Qh r,Qh m,e]at n;cases n
  rw[Qh r,Qh J,Qh r,Qh y,Qh r,Qh m];exact e
 .rw[Qh (Ta g),Qh (Ta i)]at u;exact u
 .rw[Qh (Ta l),Qh (Ta D),Qh (Ta l),Qh (Ta B)]at n;exact n
theorem Qvm:Q8 ["self","thing","form"] ["self","thing","form"] (Qo rD):=by eq_refl
theorem yP{P:Gn}{w:Tg}{H:Hp}{p a d:Gd}{b:List Th}{c:List KE}{t:Th}(x:Pl P w C H p a f d b)(ht:∀q∈t.parts,q∈b)(i:∀(j:Nat)t,b[j]?=Ga t->Yt c (Xp (fm b t))=Ga (jv j))(l:∀k v,Yt c k=Ga v->∃t∈b,k=Xp (fm b t)):
  (Yt c (Xp (fm b t))).isSome=decide (t∈b):=by
 by_cases h:t∈b
 .rw[Ti h,i _ t (Oa h)];rfl
 .rw[Td h];cases e:Yt c (Xp (fm b t))with
  |none=>rfl
  |some v=>exfalso;have(s,hs,g):=l _ _ e;exact h (rq ht (We x.cl hs) (J9 g)▸hs)
theorem Q2y{P:Gn}{w:Tg}{H:Hp}{p a d c:Gd}{g:List Th}{i:List KE}{E F:List V}{v:V}{t:Th}(x:Pl P w C H p a f d g)(A:DH P w H d i)(h:i.length<=g.length)(G:∀(j:Nat)t,g[j]?=Ga t->Yt i (Xp (fm g t))=Ga (jv j))(I:∀k v,Yt i k=Ga v->∃t∈g,k=Xp (fm g t))
  (o:H a=Ga (.lst E))(L:Zy H E g)(hw:H f=Ga (.lst F))(M:Dg (Oj H) F (g.map (fm g)))(T:Z7 H v t)(ok:t.ok=Gi)(Q:t.depth<=50)(ht:∀q∈t.parts,q∈g)(J:Oj H (.ref c) (fm g t))(m:¬t∈g):
  Pl P w C (zj (zj (zj H d (Uv P w d (Vo i (Xp (fm g t)) c (jv g.length)))) a (.lst (E++[v]))) f (.lst (F++[.ref c]))) p a f d (g++[t]):=by
 have(R,B):=x.ob;have N:d≠a:=Zu A.at_ o (by intro z;cases z);have O:d≠f:=Zu A.at_ hw (by intro z;cases z);have X:p≠d:=Zu B A.at_ (by intro z;cases z);have W:p≠a:=Zu B o (by intro z;cases z);have Y:p≠f:=Zu B hw (by intro z;cases z);have D:Q7 H (zj (zj (zj H d (Uv P w d (Vo i (Xp (fm g t)) c (jv g.length)))) a (.lst (E++[v]))) f (.lst (F++[.ref c]))):=λb xs e=>by rw[Qh (Zu e hw (by intro z;cases z)),Qh (Zu e o (by intro z;cases z)),Qh (Zu e A.at_ (by intro z;cases z))];exact e
 have Z:Yt i (Xp (fm g t))=Gq:=by
  have:=yP x ht G I;rw[Td m]at this;cases e:Yt i (Xp (fm g t))with
  |none=>rfl
  |some u=>rw[e]at this;cases this
 have U:iu H c (Xp (fm g t)):=J.key (by cases t;simp only[Th.ok,T5]at ok;exact ok.1);have n:∀s∈g,fm (g++[t]) s=fm g s:=λs hs=>qb (We x.cl hs);have l:fm (g++[t]) t=fm g t:=qb ht;exists {R,?_},{_,?_,(L.append (.one T)).Qv D},{_,Qb,?_},{Vo i (Xp (fm g t)) c (jv g.length),{?_,Zp D (A.keys.put U)},?_,λj s e=>?_,λk y e=>?_},x.af,?_,?_
 .rw[Qh Y,Qh W,Qh X];exact B
 .rw[Qh x.af,Qb]
 .have r:(g++[t]).map (fm (g++[t]))=g.map (fm g)++[fm g t]:=by rw[TY,TX n,Tp,Ly,l]
  rw[r];exact Zq (Qr M λ_ _ h=>h.Qv D) (.cons (J.Qv D) .nil)
 .rw[Qh O,Qh N,Qb]
 .have:=ng i (Xp (fm g t)) c (jv g.length);rw[Gk,Gy];lia
 .rw[J2];rcases Dh j g.length with h|h
  .rw[Tt h]at e;have hs:=Gc e;rw[n s hs,Gs (λz=>m (rq (We x.cl hs) ht (J9 z)▸hs))];exact G j s e
  .rw[TR h]at e;have r:j - g.length=0:=by have:=(Gg.mp e).1;simp at this;lia
   rw[r]at e;simp at e;subst e;have:j=g.length:=by lia
   subst this;rw[l,GV rfl]
 .rw[J2]at e;by_cases h:k=Xp (fm g t)
  .exact{t,by simp,by rw[l];exact h}
  .rw[Gs h]at e;have(s,hs,r):=I _ _ e;exact{s,Gu _ hs,by rw[n s hs];exact r}
 .rw[DQ];refine{x.nd,by simp,λs hs u o=>?_};simp at o;subst o;exactλz=>m (z▸hs)
 .intro s hs r h;rcases Gh.mp hs with hs|hs
  .exact Gu _ (x.cl s hs r h)
  .simp at hs;subst hs;cases s with
   |mk w0 ps=>
    simp only[Th.inside,Gh,Tb]at h;rcases h with h|h
    .rw[Wa,EC]at h;have(K,S,h):=h;exact Gu _ (x.cl K (ht K S) r h)
    .subst h;simp
 .intro s hs;rcases Gh.mp hs with hs|hs
  .exact x.ok s hs
  .simp at hs;subst hs;exact⟨ok,Q⟩
theorem OK(F:Wg K "place_by_form" "Places.place_by_form" rD f0 fd)(e:iJ K mg C)(ab:Ra mg):Q3 P w K mg base Ya 1 f0 fd ["self","thing","form"] (pX P w C):=by
 refine F.ok Qvm (λvs h ad ac L=>?_) (λah ag aj s h vs ad ac hr L=>?_)
 .obtain⟨p,c,D,t,a,f,d,b,rfl,_⟩:=L;rfl
 have(p,c,D,t,a,f,d,b,rfl,x,hv,ok,dp,ht,M,hl,q):=L;have N:=hr.units;exists _,Qc (Zb (Qp (ux N) {2} (Qx {0} rfl) rfl)
   (Qc (Rk (Qm Zo rfl ab.len GX (Qa (Qx {0} rfl) Qd)) (ke (Qx {0} rfl) {2} (kj N)))
   (Qc (Zl (X6 Te Tx TC Z4 (Qx {0} rfl) (Qa {1} Qd)))
   (Qg (Zl (X6 Te Tx TC Z4 (Qx {0} rfl) (Qa {2} Qd)))))) Qw)
  (Qg (Qt (Qn (i8 N) (Qx {0} rfl) {2})))
 subst_vars;have(k,m):=x.ob;have(g,v,u2):=x.th;have(H,G,w2):=x.fo;have(l,n,kl,O,X):=x.kn;and_intros;have Q:iu h c (Xp (fm b t)):=M.key (by cases t;simp only[Th.ok,T5]at ok;exact ok.1);have ul:=u2.length;have wl:H.length=b.length:=by rw[GQ w2,Gv]
 exists 00,p,C,k,30,m,e.cl,e.nN,nB _ _ _,c,d,Xp (fm b t),l,11,n,Q,0;rw[yP x ht O X];by_cases j:t∈b
 .rw[Ti j];refine Q4 ?_;have J:=q (b.idxOf t) h (by rw[GV j];exact x) (by rw[GV j];exact Oa j) hJ.refl;exact{0,p,C,k,30,m,e.cl,e.nN,nB _ _ _,0,d,c,Xp (fm b t),l,01,n,Q,O _ t (Oa j),J}
 .rw[Td j];refine Yp ?_;have S:=Q2y (c:=c) x n kl O X v u2 G w2 hv ok dp ht M j;have da:d≠a:=Zu n.at_ v (by intro z;cases z);have df:d≠f:=Zu n.at_ G (by intro z;cases z);have pd:p≠d:=Zu m n.at_ (by intro z;cases z);have pa:p≠a:=Zu m v (by intro z;cases z);have pf:p≠f:=Zu m G (by intro z;cases z);have e1:(g.length:Int)=((b.length:Nat):Int):=by rw[ul]
  exists 0,p,C,k,30,m,e.cl,e.nT,vI _ _ _,a,g,1,.inl (Qk v),0,p,C,k,30,m,e.cl,e.nN,nB _ _ _,0,d,c,Xp (fm b t),l,11,n,Q,(by rw[TJ];lia);have Z:(zj h d (Uv P w d (Vo l (Xp (fm b t)) c (.int g.length)))) a=Ga (.lst g):=by rw[Qh (Ta da)];exact v
  have Y:(zj h d (Uv P w d (Vo l (Xp (fm b t)) c (.int g.length)))) p=Ga (.ins C k (Ry a f d)):=by rw[Qh pd];exact m
  exists 0,p,C,k,30,Y,e.cl,e.nT,vI _ _ _,.inl {13,Qk Z},0,a,g,01,Z,(by rw[TJ];lia);have o2:(zj (zj h d (Uv P w d (Vo l (Xp (fm b t)) c (.int g.length)))) a (.lst (g++[D]))) p=Ga (.ins C k (Ry a f d)):=by rw[Qh pa];exact Y
  have aa:(zj (zj h d (Uv P w d (Vo l (Xp (fm b t)) c (.int g.length)))) a (.lst (g++[D]))) f=Ga (.lst H):=by rw[Qh (Ta x.af),Qh (Ta df)];exact G
  exists 0,p,C,k,30,o2,e.cl,e.nF,Qxm _ _ _,.inl {13,Qk aa},0,f,H,01,aa,(by rw[TJ];lia);rw[e1];have B:hJ a f d h (zj (zj (zj h d (Uv P w d (Vo l (Xp (fm b t)) c (jv b.length)))) a (.lst (g++[D]))) f (.lst (H++[.ref c]))):=⟨λA ai J h1 h2 h3=>by rw[Qh h2,Qh h1,Qh h3];exact J,λA i=>by
    by_cases V:A=f
    .subst V;rw[Qb]at i;cases i
    .rw[Qh V]at i;by_cases T:A=a
     .subst T;rw[Qb]at i;cases i
     .rw[Qh T]at i;by_cases U:A=d
      .subst U;rw[Qb]at i;cases i
      .rw[Qh U]at i;exact i⟩
  have tn:fm (b++[t]) t=fm b t:=qb ht;have W:(b++[t])[b.length]?=Ga t:=by simp
  have ae:∀o,Pl P w C o p a f d (b++[t])->hJ a f d h o->∃u r,o p=Ga (.ins C u (Ry a f d))/\DH P w o d r/\iu o c (Xp (fm b t))/\Yt r (Xp (fm b t))=Ga (jv b.length):=λo y B=>by have(u,R):=y.ob;have(r,I,_,T,_):=y.kn;have E:=T b.length t W;rw[tn]at E;exact{u,r,R,I,(M.Qv (B.Qv x)).key (by cases t;simp only[Th.ok,T5]at ok;exact ok.1),E}
  subst_vars;have(u,r,R,I,af,E):=ae _ S B;and_intros;exact{0,p,C,u,30,R,e.cl,e.nN,nB _ _ _,0,d,c,Xp (fm b t),r,01,I,af,E,q b.length _ (by rw[Gs j];exact S) (by rw[Gs j];exact W) B}
structure lM(K:Gf)(mg:TQ->Option Gj)(CW:Gd):Prop where
 cl:ic K CW
 nP:Xf K CW "places"
 nS:Xf K CW "steps"
 mgC:mg "Walk"=Ga (.ref CW)
 few:∃u,mg "FEW_PARTS"=Ga u/\zu (.int 4) u
 walks:∃u,mg "WALKS_ANEW"=Ga u/\zu (.int 1024) u
 steps:∃u,mg "STEPS_ANEW"=Ga u/\zu (.int 40000) u
theorem ZV(p:Gd)(n:Int):(wfl p n).lookup ("places":TQ)=Ga (.ref p):=by rfl
theorem qf(p:Gd)(n:Int):(wfl p n).lookup ("steps":TQ)=Ga (.int n):=by rfl
theorem ye(p:Gd)(n:Int):(wfl p n).lookup ("place_within":TQ)=Gq:=by rfl
theorem Qzc:Q8 ["spare","inner"] ["spare","inner"] (Qo qL):=by eq_refl
theorem Quy(F:Wg K "share_of" "share_of" qL f0 fd):Q3 P w K mg base Ya 1 f0 fd ["spare","inner"] pI:=by
 refine F.ok Qzc (λe H Q E h=>?_) (λd A a s H e Q E g h=>?_)
 .obtain⟨i,j,rfl,_⟩:=h;rfl
 have(i,j,rfl,f,q):=h;exists _,Qc (Zb (PW.pt (Yv (Qp Vg {1} Qi (Qu _)) (Xe (Qp Vg (Zf Wr {0} {1}) (Zf Rm {1} Qi) (Qu _))))) (Qg (Qt Qi)) Qw)
  (Qg (Qt (Zf Wr {0} {1})))
 exists 403010;by_cases b:j<2
 .rw[Ti b];exact Yp (Yp (q 0))
 .rw[Td b];have c:zr i j:={by ext,by ext};refine Q4 {00301,c,03013010,?_};refine Uu (λ_=>q 0) (λ_=>?_);exact{00301,c,q _}
theorem zN:Q8 ["met","thing","twin","place"] ["met","thing"] (Qo qj):=by eq_refl
theorem QP(F:Wg K "place_among" "place_among" qj f0 fd)(B:Ra mg):Q3 P w K mg base Ya 1 f0 fd ["met","thing"] oJ:=by
 refine F.ok zN (λR H Q E h=>?_) (λz A n s H R Q E G h=>?_)
 .obtain⟨l,v,t,g,N,rfl,_⟩:=h;rfl
 have(l,v,t,g,N,rfl,p,k,m,ht,x,D,J,L):=h;have I:=G.units;have q:=zN.nd;exists _,Qc (Yb Tj rfl (xj rfl B.reversed (Qa {0} Qd)) (Uc rfl (Zr (Z5 2 q) (Zr (Z5 3 q) Wp)))
   (Qg (Zb (Qp (U1 I) {2} {1} (Qu _)) (Qg (Qt {3})) Qw)))
  (Qg (Qt U7))
 refine⟨_,Xb,l,g,Xb,Qk p,va (K:=K) (a:=l) (xs:=g) (λi f d=>d=H/\∃r u,f=[Ga (.ref l),Ga v,r,u])
  {4130} (by rintro i f d _ ⟨e,_⟩;rw[e];exact Qk p) ?_ ?_⟩
 .rintro i y f d hi ⟨rfl,r,u,rfl⟩;subst_vars;have(c,O,j,M,rfl,C,e,o):=k y (SW.mp (Gc hi));and_intros;have b:=m _ (Gc o);exists c,0,Qj C,1,O,0,jv j,01002,e.dt,ht.dt,Wf _ b.1,Wf _ x,?_,0
  .rw[Xj,Xj];have:=b.2;lia
  rw[la];by_cases a:M=t
  .subst a;rw[Ti rfl];exact Yp {0,J j o}
  .rw[Td a];exact Q4 {4130}
 .rintro f d ⟨rfl,_⟩;exact L
theorem Qwy:Q8 ["self","places"] ["self","places"] (Qo rV):=by eq_refl
theorem Qsq(F:Wg K "__init__" "Walk.__init__" rV f0 fd)(T:lM K mg CW):Q3 P w K mg base Ya 1 f0 fd ["self","places"] (uh CW):=by
 refine F.ok Qwy (λi H Q E h=>?_) (λg A f s H i Q E j h=>?_)
 .obtain⟨d,c,p,rfl,_⟩:=h;rfl
 have(d,c,p,rfl,hw,q):=h;exists _,Qc (Xm {0} {1} rfl) (Qg (Xm {0} Qi Xb));exists 00,d,CW,c,[],1,hw,T.cl,T.nP,(by show 0<1000;decide);exists 0,d,CW,c,0,Qb,T.cl,T.nS,(by show 1<1000;decide);refine q _ {c,(0),by rw[Qb,VT]} (λb o e a=>by rw[Qh a,Qh a];exact e) λb a=>?_;by_cases h:b=d
 .subst h;rw[Qb]at a;cases a
 .rw[Qh h,Qh h]at a;exact a
theorem zF:Q8 ["self","thing","near","spare","met","place","inner","share","scope","parts","part"] ["self","thing","near","spare"] (Qo Xl):=by eq_refl
theorem WN{n:Nat}{fT fA fS fB:Gd}{bo bk bn bm:Do}(F:Wg K "place_within" "Walk.place_within" Xl f0 fd)(bR:iJ K mg C)(X:lM K mg CW)(aF:Ra mg)(mP:Yq K CW "place_within" f0)(bP:zk K fd ["self","thing","near","spare"] [])
  (bQ:Q3 P w K mg base Ya (n+1) f0 fd ["self","thing","near","spare"] (j7 P w C CW n))(GT:Q3 P w K mg base Ya 1 fT bo ["thing"] p8)(kT:KI K fT)(bT:zk K bo ["thing"] [])(mT:MG mg "top_words" fT)
  (GA:Q3 P w K mg base Ya 1 fA bk ["met","thing"] oJ)(kA:KI K fA)(bA:zk K bk ["met","thing"] [])(mA:MG mg "place_among" fA)
  (GS:Q3 P w K mg base Ya 1 fS bn ["spare","inner"] pI)(kS:KI K fS)(bS:zk K bn ["spare","inner"] [])(mS:MG mg "share_of" fS)
  (mB:Yq K C "place_by_form" fB)(GB:Q3 P w K mg base Ya 1 fB bm ["self","thing","form"] (pX P w C))(bB:zk K bm ["self","thing","form"] []):
  Q3 P w K mg base Ya (n+2) f0 fd ["self","thing","near","spare"] (j7 P w C CW (n+1)):=by
 refine F.ok zF (λE aa aU bO o=>?_) (λcJ cH cU s aa E aU bO hr o=>?_)
 .obtain⟨m,p,dn,ar,sp,t,a,v,d,D,S,aj,u,rfl,_⟩:=o;rfl
 subst_vars;have(m,p,dn,ar,sp,t,a,v,d,D,S,aj,u,rfl,W,x,xn,hD,aS,fS,ht,Yc,ca,bt,hm,ch,q):=o;have hu:=hr.units;have aN:Yl 1 _:=hr.mono (by ext);have nd:=zF.nd;have(u1,mF,rF):=X.few;have(u3,mN,rN):=X.steps;and_intros;show∃t,W0 ?my _ t/\_;let cD:Xk ?my Xl 11:={_,Qg (Qt {5})}
 let cC:Xk ?my Xl 10:={_,Qc (Zl (X6 Te Tx TC Z4 {4} (Qa (Ze (Qa {1} (Qa {5} Qd))) Qd))) cD.2}
 let cB:Xk ?my Xl 9:={_,Qc (Qz 5 nd (Zn (Qx {0} rfl) bR.cl mB GB aN bB .nil Q5 (Qa {1} (Qa (Ze (Qa (Qn Qs {1} Qi) (Qa (X0 Uh rfl aF.tuple Di (Qa {9} Qd)) Qd))) Qd)))) cC.2}
 let w9:Xk ?my Xl 8:=⟨_,Qc (Yb Tj rfl (Jd (Z3 V9 {1} (Yd Qi) Yu)) (Z5 10 nd)
   (Qc (Zb (PW.pt (Ii (Qp ou {7} Qi (Qu _)) (Jk (PW.pt (Yv (Qp jV {6} (mX rfl mF rF) (Qu _)) (Xe (Qp Vg (Qx {0} rfl) (mX rfl mN rN) (Qu _))))))))
    (Qg (Qz 8 nd nV))
    (Qg (Zb (PW.pt (Ii (Da {9} (λ_=>rfl)) (Jk (Qp (U1 hu) {10} (Qn Qs {1} (Qm Zo rfl aF.len GX (Qa {9} Qd))) (Qu _)))))
     (Qc (Zl (X6 Te Tx TC Z4 {9} (Qa (Qn Zd {9} (Js Ud Qi)) Qd)))
     (Qg YR)) Qw)))
   (Qg (Zl (X6 Te Tx TC Z4 {9} (Qa (Zn {0} X.cl mP bQ hr bP .nil Q5 (Qa {10} (Qa {8} (Qa (Qux {7} {3}) Qd)))) Qd)))))) cB.2⟩
 let w8:Xk ?my Xl 7:={_,Qc (Qz 9 nd (Zt Qd)) w9.2}
 let w7:Xk ?my Xl 6:={_,Qc (Qz 8 nd {2}) w8.2}
 let w6:Xk ?my Xl 5:={_,Qc (Qz 7 nd (K1 (Qp Vg (Qx {0} rfl) (mX rfl mN rN) (Qu _)) (Za GS aN rfl mS kS bS .nil Q5 (Qa {3} (Qa {6} Qd))) Qi)) w7.2}
 let w5:Xk ?my Xl 4:=⟨_,Qc (Qz 6 nd (Qm Zo rfl aF.len GX (Qa (Ug (own:=["part"]) (fv:=[]) rfl (S:=(by eq_refl:Wb (Qo Xl) _)) .nil (Jd (Z3 V9 {1} (Yd Qi) Yu))
   (λ_ _ _ _ _=>Yz (i:=0) (nd1 _) rfl (DX Xb) (Sq Xb)) (λ_ _ _ _ _=>n9 (Qp ou (Qm (r:=λxs aa aU=>∃p ys,xs=[.ref p]/\(Uw K aa p ys\/hB K aa p ys)/\aU (.int ys.length) aa) Zo rfl aF.len GX (Qa {0} Qd)) Qi (Qu _))) (λ_ _ _ _ _=>pv 0)) Qd))) w6.2⟩
 let w4:Xk ?my Xl 3:={_,Qc (Zb (Oy (wj {5})) (Qg (Qt {5})) Qw) w5.2}
 let w3:Xk ?my Xl 2:={_,Qc (Qz 5 nd (Za GA aN rfl mA kA bA .nil Q5 (Qa {4} (Qa {1} Qd)))) w4.2}
 let w2:Xk ?my Xl 1:={_,Qc (Qz 4 nd (X6 SX Ll Lm (WG (Jw hr)) {2} (Qa (Za GT aN rfl mT kT bT .nil Q5 (Qa {1} Qd)) (Qa (Zt Qd) Qd)))) w3.2}
 exists _,Qc (Xm {0} (Zf Vl (Qx {0} rfl) Qi) rfl) w2.2;have(ax,k0,ow):=W;exists 0,m,CW,ax,30,ow,X.cl,X.nS,qf _ _,3010,m,CW,ax,0,ow,X.cl,X.nS,(by show 2<1000;decide);rw[P5];subst_vars;have(cK,op):=x.ob;have(cW,u1,_):=x.th;have(cY,w1,_):=x.fo;have(cQ,D1,_):=x.kn;and_intros;generalize aJ:zj aa m (.ins CW ax (wfl p (k0+1)))=H0;have ai:∀f A,aa f=Ga A->f≠m->H0 f=Ga A:=λf A b o=>by rw[<-aJ,Qh o];exact b
 have bf:H0 m=Ga (.ins CW ax (wfl p (k0+1))):=by rw[<-aJ,Qb]
 have bM:∀f,H0 f=Gq->aa f=Gq:=λf l=>by
  by_cases o:f=m
  .subst o;rw[bf]at l;cases l
  .rw[<-aJ,Qh o]at l;exact l
 clear aJ;have t0:Q7 aa H0:=λf xs b=>ai f _ b (Zu b ow (by intro z;cases z));have x0:Pl P w C H0 p a v d u:=x.keep (λA b=>ai _ _ b (Zu op ow Q6l)) (λA b=>ai _ _ b (Zu u1 ow (by intro z;cases z))) (λA b=>ai _ _ b (Zu w1 ow (by intro z;cases z))) (λA b=>ai _ _ b (Zu D1.at_ ow (by intro z;cases z))) t0;have bN:hF H0 D S aj u:=xn.keep (λf l A b=>by
   have(kv,o,_):=xn.at_ f l;exact ai _ _ b (Zu o ow (by intro z;cases z))) (λf l A b=>by
   have(kv,o,_):=xn.ls f l;exact ai _ _ b (Zu o ow (by intro z;cases z))) t0 (λ_ _ o=>o) (GJ _)
 have bD:=ht.Qv t0;have sz:=R0 t;have(bF,ag,cN,_):=bN.at_ dn hD;refine{0,.inr (.inr (.inl {1,.inr ⟨bF,ag⟩})),0,ar,t,1,bD,by ext,λr H1 g1 R=>{Tu _,λq1 aM=>?_}};have g2:=g1.trans (Qf aM (.lst []));refine{dn,r,.ref q1,bF,oA t,11,g2 _ _ ag,(Qf aM (.lst [])) _ _ R,by rw[TJ];ext,λnv H3 bv=>?_};subst_vars;have(J,S1,rfl,lS,bh,cw,cr,ao,cy):=QX bN hD ag g1 aM bv;and_intros;clear bv g2 R g1 aM;have t3:Q7 H0 H3:=λf xs b=>ao f _ b (Zu b ag (by intro z;cases z));have a9:=bD.Qv t3;have bg:H3 m=Ga (.ins CW ax (wfl p (k0+1))):=ao _ _ bf (Zu bf ag (by intro z;cases z));have W3:ie CW H3 m p:={2,bg};have x3:Pl P w C H3 p a v d u:=by have(dx,o1):=x0.ob;have(us,u1,_):=x0.th;have(ws,w1,_):=x0.fo;have(kv,D,_):=x0.kn;exact x0.keep (λA b=>ao _ _ b (Zu o1 ag (by intro z;cases z))) (λA b=>ao _ _ b (Zu u1 ag (by intro z;cases z))) (λA b=>ao _ _ b (Zu w1 ag (by intro z;cases z))) (λA b=>ao _ _ b (Zu D.at_ ag (by intro z;cases z))) t3
 have F3:hX a v d m D D S S1 aa H3:={λf A b _ _ _ h4 h5 _=>ao f A (ai f A b h4) (λz=>h5 (z▸hD)),λ_ o=>.inl o,λf l=>(cr f l).elim .inl λz=>.inr (bM f z),λ_ o=>o,cw,λf l=>bM f (cy f l)};have bI:∀c,c∉S->aa c≠Gq->c∉S1:=λc R h2 z=>by
  rcases F3.Qic c z with z|z
  .exact R z
  .exact h2 z
 have bU:a∉S1:=bI a aS (by rw[u1];intro z;cases z);have b7:v∉S1:=bI v fS (by rw[w1];intro z;cases z);have(es,hl,cS,b3):=bh.ls J lS;exists 00,J,ar,t,es,u,1,hl,b3,x3.ok,a9,Yc,bt,λj ej=>?_
 .have b:=AM x.cl (Gc ej);refine{0,Gi,by rw[Td nofun];rfl,Yp {0,q j D S1 H3 W3 (by rw[b];exact x3) (by rw[b];exact bh.mono (by ext)) (by rw[b];exact ej) F3}}
 refine{0,Gx,by rw[Ti rfl];rfl,Q4 ?_};subst_vars;have(Y,wd,E,e,rfl,rfl,bq,a7):=a9.inv;and_intros;simp only[Th.size,Th.depth]at hm ch ca bt;have ay:okL e=Gi:=by simp only[Th.ok,T5]at Yc;exact Yc.2
 have cl:=a7.length;have cT:=Zj e;refine{00,Y,0,Qj bq,Wm _ _,λrA bx=>?_};rw[iH];have sA:=Qf bx (.tup E);refine{rA,1,{_,Qj Qb},λpA a6=>?_};refine Qmg (K:=K) (a:=rA) (xs:=E) (λi ys ah H2=>(∃x0,ah=[x0])/\Q9 (zj H3 rA (.tup E)) H2) (small (by ext)) {{40},Qf a6 (.lst [])} (λi ys ah H2 _ o=>Qj (o.2 _ _ Qb)) ?_ ?_
 .rintro i y ys ah H2 hi ⟨⟨x0,rfl⟩,aZ⟩ gp;subst_vars;have(ty,Q,hy):=a7.get hi;have(f,wb,us,qs,rfl,rfl,l,_):=hy.inv;and_intros;exists 0,f,0,.inr (Qj (aZ _ _ (sA _ _ l))),3010;refine Uu (λ_=>?_) (λ_=>{gp,{40},aZ});exact{0,gp,{40},λc A b=>by rw[Qh (Qe b a6)];exact aZ _ _ b}
 rintro ys ah O cj ⟨_,gA⟩ gp;have ak:Q9 H3 O:=sA.trans gA;exists pA,ys,1,.inl (Qk gp);exists 0,m,CW,ax,30,ak _ _ bg,X.cl,X.nS,qf _ _,3010;refine QJ (λX8=>Uu (λ_=>{0030,by ext,λr=>X8 r}) (λ_=>X8 0)) (λsh=>?_);have W4:ie CW O m p:={2,ak _ _ bg};have x4:=x3.same ak;have az:=bh.same ak;have F4:hX a v d m D D S S1 aa O:=F3.trans (hX.of ak);have bE:=a9.same ak;have a0:=ak _ _ bq;have a8:=a7.same ak;generalize (ys.length:Int)=ba;clear gA gp cj bx a6;refine{0,Tu _,λh T=>?_};have s4:=Qf T (.lst []);refine{00,Y,0,Qj (s4 _ _ a0),Wm _ _,λr2 bw=>?_};rw[iH];have s5:=Qf bw (.tup E);have aR:=s4.trans s5;have q5:=s5 _ _ (@Qb O h (.lst []));have r5:=@Qb (zj O h (.lst [])) r2 (.tup E);have cf:h≠r2:=Qe Qb bw;have x5:=x4.same aR;have cG:=az.same aR;have W5:ie CW (zj (zj O h (.lst [])) r2 (.tup E)) m p:=by have(dx,k,A):=W4;exact{dx,k,aR _ _ A}
 generalize cL:zj (zj O h (.lst [])) r2 (.tup E)=H5 at*;subst_vars;have(cV,cz,cI):=x4.th;have(cX,b8,_):=x4.fo;have(cO,D3,_):=x4.kn;have(bY,k4,o4):=W4;and_intros;have bJ:h≠a:=λz=>by rw[z,cz]at T;cases T
 have bK:h≠v:=λz=>by rw[z,b8]at T;cases T
 have cv:h≠d:=λz=>by rw[z,D3.at_]at T;cases T
 have bL:h≠m:=λz=>by rw[z,o4]at T;cases T
 have cu:h∉S1:=λz=>by have(xs,o,_):=az.ls _ z;rw[o]at T;cases T
 have ct:h∉D:=λz=>by have(xs,o,_):=az.at_ _ z;rw[o]at T;cases T
 have W4:ie CW O m p:=⟨bY,k4,o4⟩;refine⟨r2,Xb,{_,Qj r5},p6 (K:=K) (a:=r2) (xs:=E) (λi ah B=>iK λ(I G:List Gd)(ds:Gd)(g:List Nat)(au:Option V)=>lr (ah=[Ga (.ref m),Ga (.ref Y),Ga (.ref dn),Ga (.int sp),Ga (.ref J),Ga .non,Ga (.int ba),Ga (.int sh),Ga (.ref ds),Ga (.ref h),au]) (ie CW B m p) (Pl P w C B p a v d (Xh u (Zm (e.take i)))) (hF B I G (aj+1+2*Q6 (e.take i)) (Xh u (Zm (e.take i)))) (ds∈I) (hX a v d m D I S1 G O B) (h∉I) (h∉G) (a∉G) (v∉G) (B h=Ga (.lst (g.map jv))) (g.length=i) (∀(k j:Nat),g[k]?=Ga j->∃s,e[k]?=Ga s/\(Xh u (Zm (e.take i)))[j]?=Ga s) (B r2=Ga (.tup E)))
  {D,S1,dn,[],0,W5,?_,?_,hD,hX.of aR,ct,cu,bU,b7,q5,1,λk j o=>by simp at o,r5} (by rintro i ah B _ ⟨_,_,_,_,_,_,_,_,_,_,_,_,_,_,_,_,_,_,o⟩;exact Qj o) ?_ ?_⟩
 .simp only[Ny,Zm,Rq];exact x5
 .simp only[Ny,Zm,Q6,Rq,Nat.mul_zero,RT];exact cG
 .intro i y;have eS:∀ty,e[i]?=Ga ty->Xh (Xh u (Zm (e.take i))) ty.inside=Xh u (Zm (e.take (i+1))):=λty Q=>by rw[Qig e i ty Q,Jm]
  have bp:∀(ty:Th)(aH:Gd)(D7 U:List Gd)(M:Hp)(g:List Nat)(j:Nat)(au:Option V),e[i]?=Ga ty->g.length=i->(∀(k j:Nat),g[k]?=Ga j->∃s,e[k]?=Ga s/\(Xh u (Zm (e.take i)))[j]?=Ga s)->ie CW M m p->Pl P w C M p a v d (Xh u (Zm (e.take (i+1))))->hF M D7 U (aj+1+2*Q6 (e.take (i+1))) (Xh u (Zm (e.take (i+1))))->aH∈D7->hX a v d m D D7 S1 U O M->h∉D7->h∉U->a∉U->v∉U->M h=Ga (.lst (g.map jv))->M r2=Ga (.tup E)->(Xh u (Zm (e.take (i+1))))[j]?=Ga ty->
    iK λ(I G:List Gd)(ds:Gd)(bb:List Nat)(cF:Option V)=>lr ([Ga (.ref m),Ga (.ref Y),Ga (.ref dn),Ga (.int sp),Ga (.ref J),Ga .non,Ga (.int ba),Ga (.int sh),Ga (.ref aH),Ga (.ref h),au]=[Ga (.ref m),Ga (.ref Y),Ga (.ref dn),Ga (.int sp),Ga (.ref J),Ga .non,Ga (.int ba),Ga (.int sh),Ga (.ref ds),Ga (.ref h),cF]) (ie CW (zj M h (.lst (g.map jv++[jv j]))) m p) (Pl P w C (zj M h (.lst (g.map jv++[jv j]))) p a v d (Xh u (Zm (e.take (i+1))))) (hF (zj M h (.lst (g.map jv++[jv j]))) I G (aj+1+2*Q6 (e.take (i+1))) (Xh u (Zm (e.take (i+1))))) (ds∈I) (hX a v d m D I S1 G O (zj M h (.lst (g.map jv++[jv j])))) (h∉I) (h∉G) (a∉G) (v∉G) ((zj M h (.lst (g.map jv++[jv j]))) h=Ga (.lst (bb.map jv))) (bb.length=i+1) (∀(k j:Nat),bb[k]?=Ga j->∃s,e[k]?=Ga s/\(Xh u (Zm (e.take (i+1))))[j]?=Ga s) ((zj M h (.lst (g.map jv++[jv j]))) r2=Ga (.tup E)):=by
   intro ty aH D7 U M g j au Q lw ab W7 x7 aE bX H aP aQ aV aY q7 r7 e7;have(bZ,k7,o7):=W7;exists D7,U,aH,g++[j],au,1,{bZ,k7,by rw[Qh (Ta bL)];exact o7},x7.but q7 bJ bK,?_,bX,?_,aP,aQ,aV,aY,?_,by rw[Gk,Gy,lw],λk j' hk=>?_
   .refine aE.keep (λf l A b=>?_) (λf l A b=>?_) (Z2 λxs b=>by rw[q7]at b;cases b) (λ_ _ o=>o) (GJ _)
    .rw[Qh (show f≠h fromλz=>aP (by rw[<-z];exact l))];exact b
    .rw[Qh (show f≠h fromλz=>aQ (by rw[<-z];exact l))];exact b
   .refine{λf A b R h2 h3 h4 h5 h6=>?_,H.Qmd,H.Qic,H.Qsl,H.Qsb,λf l=>?_}
    .rw[Qh (Qe b T)];exact H.keep f A b R h2 h3 h4 h5 h6
    .by_cases bs:f=h
     .subst bs;rw[Qb]at l;cases l
     .rw[Qh bs]at l;exact H.there f l
   .rw[Qb,TY];rfl
   .rcases Dh k g.length with a4|a4
    .rw[Tt a4]at hk;have(s0,R,h2):=ab k j' hk;exists s0,R;rw[<-eS ty Q];exact pk h2
    .rw[TR a4]at hk;have h0:k - g.length=0:=by have:=(Gg.mp hk).1;simp at this;ext
     rw[h0]at hk;simp at hk;subst hk;have:k=i:=by ext
     subst this;exact⟨ty,Q,e7⟩
   .rw[Qh (Ta cf)];exact r7
  refine' QN (F:=λbW H'=>E[i]?=Ga y/\∃(D' S':List Gd)(g:List Nat),ie CW H' m p/\Pl P w C H' p a v d (Xh u (Zm (e.take i)))/\hF H' D' S' (aj+1+2*Q6 (e.take i)) (Xh u (Zm (e.take i)))/\bW∈D'/\hX a v d m D D' S1 S' O H'/\h∉D'/\h∉S'/\a∉S'/\v∉S'/\H' h=Ga (.lst (g.map jv))/\g.length=i/\(∀(k j:Nat),g[k]?=Ga j->∃s,e[k]?=Ga s/\(Xh u (Zm (e.take i)))[j]?=Ga s)/\H' r2=Ga (.tup E)) (λX8=>?myk) ?myh
  case myk=>
   rintro ah B hi ⟨I,G,ds,g,au,rfl,W6,L,ac,aw,F6,ap,aq,ad,af,N,lw,ab,r6⟩;have cd:i<E.length:=(Gg.mp hi).1;have(ty,Q,hy):=a8.get hi;have aB:ty∈e:=Gc Q;have be:ty.ok=Gi:=by rw[Us,EW]at ay;exact ay ty aB
   have m2:=Wl aB;have m4:=sj e i ty Q;have t6:Q7 O B:=F6.Qv W4 x4 az;have a1:=t6 _ _ a0;have(ae,k6,Z):=W6;have W6:ie CW B m p:=⟨ae,k6,Z⟩;have bu:=X8 ds B ⟨hi,I,G,g,W6,L,ac,aw,F6,ap,aq,ad,af,N,lw,ab,r6⟩;dsimp only[Ui,List.set_cons_succ,List.set_cons_zero]
   refine' Q20 (λXg bi=>?mykk) ?mythn ?myels
   case mykk=>refine{03010,Uu (λ_=>?_) (λ_=>Q4 bi)};refine{03010,Uu (λ_=>Yp Xg) (λ_=>?_)};exact{0,m,CW,ae,30,Z,X.cl,X.nS,qf _ _,3010,Uu (λ_=>Xg) (λ_=>bi)}
   case myels=>
    by_cases a5:g=[]
    .exact{0,Gx,.inl {_,Qk N,by rw[a5];rfl},Q4 (Q4 bu)}
    .have cM:0<g.length:=LG.mpr a5;have bc:(g.map jv).length=g.length:=Gv _;obtain⟨vp,bj⟩:∃vp,E[i - 1]?=Ga vp:={_,Ge (show i - 1<E.length by ext)};have(tp,aX,ci):=a8.get bj;have cp:tp.ok=Gi:=by rw[Us,EW]at ay;exact ay tp (Gc aX)
     have m3:=Wl (Gc aX);have bV:Oh (V.str wd::E) (((g.map jv).length:Nat):Int)=Ga vp:=by refine Zk ?_;rw[bc,lw,show i=(i - 1)+1 by ext,SY];exact bj
     refine{0,Gi,.inl {_,Qk N,by cases g with|nil=>exact absurd rfl a5|cons _ _=>rfl},Yp ?_};exists 000,h,g.map jv,1,.inl (Qk N),Y,2,vp,11,Qj a1,bV,2,(hy.Qv t6).dt,(ci.Qv t6).dt,Wf _ be,Wf _ cp,?_,0
     .rw[Xj,Xj];ext
     rw[la];by_cases a3:ty=tp
     .rw[Ti a3];refine Yp ?_;have(vl,al,bl):=OH (g.map jv) (by ext);rw[Ts,bc]at bl;subst_vars;obtain⟨jl,ce,rfl⟩:∃jl,g[g.length - 1]?=Ga jl/\vl=jv jl:=by
       cases b:g[g.length - 1]? with
       |none=>rw[b]at bl;cases bl
       |some jl=>rw[b]at bl;exact{jl,1,(T3 bl).symm}
      have(sl,bz,bC):=ab _ _ ce;and_intros;have b6:sl=ty:=by rw[lw,aX]at bz;rw[a3];exact(T3 bz).symm
      subst b6;have eD:Xh u (Zm (e.take (i+1)))=Xh u (Zm (e.take i)):=by rw[<-eS sl Q];exact AM L.cl (Gc bC)
      exists 0,.inl {13,Qk N},00,h,g.map jv,301,Qk N,al,h,g.map jv,jv jl,11,N,(by rw[bc,TJ];ext);exact bp sl ds I G B g jl _ Q lw ab W6 (by rw[eD];exact L) (by rw[eD];exact ac.mono (by ext)) aw F6 ap aq ad af N r6 (by rw[eD];exact bC)
     .rw[Td a3];exact Q4 bu
   case mythn=>
    intro cc aA;have sc:=Qf aA (.dT []);refine X8 cc (zj B cc (.dT [])) {hi,cc::I,G,g,{ae,k6,sc _ _ Z},L.same sc,ac.more aA,Tc,?_,?_,aq,ad,af,sc _ _ N,lw,ab,sc _ _ r6}
    .have H:=F6.trans (hX.of (D:=I) (S:=G) sc);exact{H.keep,λf l=>(Tf.mp l).elim (λz=>.inr (by rw[z];exact F6.there _ aA)) (H.Qmd f),H.Qic,λf l=>Gr _ (H.Qsl f l),H.Qsb,H.there}
    .intro z;rcases Tf.mp z with z|z
     .rw[<-z,N]at aA;cases aA
     .exact ap z
  case myh=>
   rintro ds B ⟨hi,I,G,g,W6,L,ac,aw,F6,ap,aq,ad,af,N,lw,ab,r6⟩;have cd:i<E.length:=(Gg.mp hi).1;have(ty,Q,hy):=a8.get hi;have aB:ty∈e:=Gc Q;have m1:=sj e i ty Q;have m2:=Wl aB;have m3:=V6 e (i+1);have be:ty.ok=Gi:=by rw[Us,EW]at ay;exact ay ty aB
   have t6:Q7 O B:=F6.Qv W4 x4 az;have an:=p7 (Zm (e.take i)) u;rw[Jn]at an;have(ae,k6,Z):=W6;have W6:ie CW B m p:=⟨ae,k6,Z⟩;refine{0,.inl {13,Qk N},0,m,ae,0,Z,ye _ _,00,sh,sp,11,λz=>?_};refine{m,p,ds,y,z,ty,a,v,d,I,G,30,W6,L,ac,aw,ad,af,hy.Qv t6,be,by ext,by ext,by ext,by ext,λj D7 U M W7 x7 aE e7 H=>?_};have q7:M h=Ga (.lst (g.map jv)):=H.keep _ _ N bJ bK cv bL ap aq;have bd:∀c,c∉G->B c≠Gq->c∉U:=λc R h2 z=>by
    rcases H.Qic c z with z|z
    .exact R z
    .exact h2 z
   have aQ:h∉U:=bd h aq (by rw[N];intro z;cases z);have aP:h∉D7:=λz=>by
    rcases H.Qmd _ z with z|z
    .exact ap z
    .rw[N]at z;cases z
   subst_vars;have(cA,aT,_):=L.th;have(cE,aI,_):=L.fo;and_intros;have aV:a∉U:=bd a ad (by rw[aT];intro z;cases z);have aY:v∉U:=bd v af (by rw[aI];intro z;cases z);exists h,g.map jv,jv j,11,q7,(by rw[Gv,TJ];ext);have r7:M r2=Ga (.tup E):=H.Qv W6 L ac _ _ r6;rw[eS ty Q]at x7 aE e7;have eM:aj+1+2*Q6 (e.take i)+2*ty.size=aj+1+2*Q6 (e.take (i+1)):=by ext
   rw[eM]at aE;exact bp ty ds D7 U M g j _ Q lw ab W7 x7 aE (H.Qsl _ aw) (F6.trans H) aP aQ aV aY q7 r7 e7
 .rintro ah B ⟨I,G,ds,g,au,rfl,W6,L,ac,aw,F6,ap,aq,ad,af,N,lw,ab,r6⟩;have ep:e.take E.length=e:=by rw[cl,Tz]
  rw[ep]at L ac ab;have t6:Q7 O B:=F6.Qv W4 x4 az;have a1:=t6 _ _ a0;have(b1,cq):=L.ob;have(ae,k6,Z):=W6;have ck:=p7 (Zm e) u;rw[Jn]at ck;have aO:=F6.Qsb J lS;have cs:∀s0∈e,s0∈Xh u (Zm e):=λs0 cg=>(o9 _ _ _).mpr (.inr (by rw[Wa,EC];exact{s0,cg,A4 s0}));have b4:g=e.map λs0=>(Xh u (Zm e)).idxOf s0:=by
   refine L8 λk=>?_;rw[Ts];cases b:g[k]? with
   |none=>
    have:g.length<=k:=by simpa using b
    rw[Df (by ext)];rfl
   |some j0=>have(s0,R,h2):=ab k j0 b;rw[R,D0,Oz L.nd h2]
  refine{0,m,CW,ae,30,Z,X.cl,X.nP,ZV _ _,p,b1,0,cq,QC _ _ _,00,Y,2,.str wd,11,Qj a1,Ol _ _,0,h,0,.inl {Qk N,λe0 cb=>?_}};have s6:=Qf cb (.tup (g.map jv));refine{Yy,λc0 b9=>?_};have s7:=Qf b9 (.tup [.str wd,.ref e0]);have aC:=s6.trans s7;refine{p,c0,.ref Y,.mk wd e,a,v,d,0,L.same aC,(bE.Qv t6).same aC,Yc,by simp only[Th.depth];ext,cs,{c0,e0,1,Qb,?_},by ext,λj H8 x8 e8 F8=>?_}
  .rw[s7 _ _ Qb,b4];rfl
  have eI:(Th.mk wd e).inside=Zm e++[Th.mk wd e]:=by simp[Th.inside]
  have eD:Xh u (Th.mk wd e).inside=if Th.mk wd e∈Xh u (Zm e)then Xh u (Zm e)else Xh u (Zm e)++[Th.mk wd e]:=by rw[eI,YG]
  rw[<-eD]at x8 e8;have cx:Q7 B H8:=λf xs b=>(F8.Qv (L.same aC)) f xs (aC _ _ b);have av:hJ a v d B H8:=(hJ.of aC).trans F8;subst_vars;have(aW,an,cR,b2):=ac.ls J aO;have bG:J≠a:=λz=>ad (z▸aO);have bH:J≠v:=λz=>af (z▸aO);have(cA,aT,_):=L.th;have(cE,aI,_):=L.fo;have(cP,aG,_):=L.kn;and_intros;have cn:J≠d:=Zu an aG.at_ (by intro z;cases z);have co:J≠m:=Zu an Z (by intro z;cases z);have aL:=av.keep _ _ an bG bH cn;have o8:=av.keep _ _ Z (Zu Z aT (by intro z;cases z)) (Zu Z aI (by intro z;cases z)) (Zu Z aG.at_ (by intro z;cases z));refine{0,.inl {13,Qk aL},00,Yy,λc9 a2=>?_};have s9:=Qf a2 (.tup [.ref Y,jv j]);exists J,aW,.ref c9,11,s9 _ _ aL,(by rw[TJ];ext);have x9:=x8.same s9;have sE:(Th.mk wd e).size=Q6 e+1:=by simp[Th.size]
  have aD:Q7 B (zj (zj H8 c9 (.tup [.ref Y,jv j])) J (.lst (aW++[.ref c9]))):=λf xs b=>by rw[Qh (Zu b an (by intro z;cases z))];exact s9 _ _ (cx _ _ b)
  have cm:(zj (zj H8 c9 (.tup [.ref Y,jv j])) J (.lst (aW++[.ref c9]))) c9=Ga (.tup [.ref Y,jv j]):=by rw[Qh (λz=>by rw[z,aL]at a2;cases a2),Qb]
  refine{0,q j I G _ {ae,k6,by rw[Qh (Ta co)];exact s9 _ _ o8} (x9.but (s9 _ _ aL) bG bH) {λf l=>?_,λf l=>?_} e8 ?_}
  .obtain⟨kv,k1,k2,k3⟩:=ac.at_ f l;refine{kv,?_,by rw[sE];ext,k3};rw[Qh (Zu k1 an (by intro z;cases z))];exact s9 _ _ (av.keep _ _ k1 (Zu k1 aT (by intro z;cases z)) (Zu k1 aI (by intro z;cases z)) (Zu k1 aG.at_ (by intro z;cases z)))
  .by_cases aK:f=J
   .subst aK;refine{_,Qb,by rw[Gk,Gy,sE];ext,λb he=>?_};rcases Gh.mp he with he|he
    .subst_vars;have(c,ar,j0,t0,k1,k2,k3,k4):=b2 b he;and_intros;exists c,ar,j0,t0,k1,aD _ _ k2,k3.Qv aD;rw[eI,Jm];exact pk k4
    .rw[Tb]at he;subst he;exact{c9,.ref Y,j,0,cm,(bE.Qv t6).Qv aD,e8}
   .obtain⟨b5,k1,k2,k3⟩:=ac.ls f l;refine{b5,?_,by rw[sE];ext,λb he=>?_}
    .rw[Qh aK];exact s9 _ _ (av.keep _ _ k1 (λz=>ad (z▸l)) (λz=>af (z▸l)) (Zu k1 aG.at_ (by intro z;cases z)))
    .subst_vars;have(c,ar,j0,t0,k4,k5,k6,k7):=k3 b he;and_intros;exists c,ar,j0,t0,k4,aD _ _ k5,k6.Qv aD;rw[eI,Jm];exact pk k7
  .have am:=F4.trans F6;refine{λf A b R h2 h3 h4 h5 h6=>?_,am.Qmd,am.Qic,am.Qsl,am.Qsb,λf l=>?_}
   .have e9:=am.keep f A b R h2 h3 h4 h5 h6;have aK:f≠J:=λz=>by
     rcases am.Qic J aO with w1|w1
     .exact h6 (z▸w1)
     .rw[<-z,b]at w1;cases w1
    rw[Qh aK];exact s9 _ _ (av.keep _ _ e9 R h2 h3)
   .refine am.there f (av.there f ?_);by_cases br:f=J
    .subst br;rw[Qb]at l;cases l
    .rw[Qh br]at l;exact s9.free l
theorem Qzg:Q3 P w K mg base Ya 1 f fd ["self","thing","near","spare"] (j7 P w C CW 0):=by
 have g:∀b H Q E,¬j7 P w C CW 0 b H Q E:=λb H Q E h=>by have(o,p,i,v,k,t,a,f,d,D,S,m,l,_,_,_,_,_,_,_,_,_,j,_):=h;have:=qr t;lia
 exact{λb H Q E h=>absurd h (g b H Q E),λA c s H e n b Q E _ _ _ _ h=>absurd h (g b H Q E)}
theorem ui{f i g h v C e:Gd}{j d a c b:Do}(F:Wg K "place_within" "Walk.place_within" Xl f j)(T:iJ K mg C)(p:lM K mg e)(B:Ra mg)(E:Yq K e "place_within" f)(s:zk K j ["self","thing","near","spare"] [])
  (o:Q3 P w K mg base Ya 1 i d ["thing"] p8)(z:KI K i)(u:zk K d ["thing"] [])(H:MG mg "top_words" i)
  (k:Q3 P w K mg base Ya 1 g a ["met","thing"] oJ)(x:KI K g)(q:zk K a ["met","thing"] [])(A:MG mg "place_among" g)
  (m:Q3 P w K mg base Ya 1 h c ["spare","inner"] pI)(y:KI K h)(t:zk K c ["spare","inner"] [])(G:MG mg "share_of" h)
  (D:Yq K C "place_by_form" v)(l:Q3 P w K mg base Ya 1 v b ["self","thing","form"] (pX P w C))(r:zk K b ["self","thing","form"] []):∀n:Nat,Q3 P w K mg base Ya (n+1) f j ["self","thing","near","spare"] (j7 P w C e n)
 |0=>Qzg
 |n+1=>WN F T p B E s (ui F T p B E s o z u H k x q A m y t G D l r n) o z u H k x q A m y t G D l r
theorem ZJ:Q8 ["self","thing"] ["self","thing"] (Qo p9):=by eq_refl
theorem Qmx{D E:Gd}{G H:Do}(F:Wg K "place_of" "Places.place_of" p9 f0 fd)(m:lM K mg CW)(W:Mk K CW D)(T:Q3 P w K mg base Ya 1 D G ["self","places"] (uh CW))(bI:zk K G ["self","places"] [])(mW:Yq K CW "place_within" E)(bW:zk K H ["self","thing","near","spare"] [])
  (S:Q3 P w K mg base Ya 51 E H ["self","thing","near","spare"] (j7 P w C CW 50)):Q3 P w K mg base Ya 52 f0 fd ["self","thing"] (yy P w C):=by
 refine F.ok ZJ (λvs g X R o=>?_) (λad ac ah s g vs X R L o=>?_)
 .obtain⟨p,u,t,a,B,d,Q,rfl,_⟩:=o;rfl
 have(p,u,t,a,B,d,Q,rfl,x,ht,Z,J,af,q):=o;have(u2,mN,rN):=m.walks;have ab:Yl 2 _:=L.mono (by decide);exists _,Qg (Qt (Zn (ph W T ab rfl m.mgC bI .nil Q5 (Qa {0} Qd)) m.cl mW S L bW .nil Q5 (Qa {1} (Qa nV (Qa (mX rfl mN rN) Qd)))));refine{0,λf n r aa ae=>?_};have s0:Q9 g (zj (zj g n (.own f)) f (.ins CW n [])):=λc e b=>by rw[Qh (Qe b r),Qh (Qe b aa)];exact b
 refine{f,n,p,1,Qb,λV Y k1 ai=>{1,?_}};have N:Q9 g V:=λc e b=>k1 c e (s0 c e b) (Qe b r);have(A,kw,M):=Y;refine{f,A,0,M,ye _ _,0,λy I=>?_};have O:=Qf I (.dT []);have l:=N.trans O;refine{f,p,y,u,_,t,a,B,d,[y],[],(0),Q,1,{A,kw,O _ _ M},x.same l,{λh i=>?_,λag hl=>nomatch hl},by simp,by simp,by simp,ht.same l,Z,J,J,by lia,by lia,λj D' S' U W' x' n' e' v=>?_}
 .rw[Tb]at i;subst i;exact{[],Qb,GJ _,λk u b=>by rw[qc]at b;cases b}
 .refine q j U x' e' {λh e b R X h3=>v.keep h e (l _ _ b) R X h3 (Qe b r) (λz=>?_) (by simp),λh i=>l.free (v.there h i)};rw[Tb]at z;exact Qe (N _ _ b) I z
end
end K06
namespace Nt
variable{up:Nat->Option Nat}{p m a b n q x lo hi:Nat}{l S cl:List Nat}
inductive Ch(up:Nat->Option Nat):Nat->List Nat->Prop
 |top {p:Nat}:up p=Gq->Ch up p [p]
 |step {p q:Nat} {l:List Nat}:up p=Ga q->Ch up q l->Ch up p (p::l)
theorem Ch.uniq{m:List Nat}(h:Ch up p l)(k:Ch up p m):l=m:=by
 induction h generalizing m with
 |top e=>cases k with
  |top=>rfl
  |step f=>rw[e]at f;cases f
 |step e _ a=>cases k with
  |top f=>rw[e]at f;cases f
  |step f k=>rw[e]at f;cases f;rw[a k]
theorem Ch.ne(h:Ch up p l):l≠[]:=by cases h<;>simp
theorem Ch.head(h:Ch up p l):∃r,l=p::r:=by cases h<;>exact{40}
theorem Ch.suffix{d:Nat->Option Nat}:∀{p:Nat}{l a:List Nat}{z:Nat}{b:List Nat},Ch d p l->l=a++z::b->Ch d z (z::b)
 |p,_,[],z,b,h,e=>by simp only[EL]at e;have(r,c):=h.head;rw[e]at c;cases c;rw[<-e];exact h
 |p,_,x::a,z,b,.top _,e=>by simp at e
 |p,_,x::a,z,b,.step f h,e=>by simp only[Dp,Db]at e;exact Ch.suffix h e.2
theorem Ch.nodup{c:Nat->Option Nat}:∀{p:Nat}{l:List Nat},Ch c p l->l.Nodup
 |_,_,.top _=>by simp
 |p,_,.step (l:=l) e h=>by rw[Dy];refine{λg=>?_,h.nodup};have(a,b,rfl):=Sr g;have d:=h.suffix rfl;have f:Ch c p (p::(a++p::b)):=.step e h;have:=congrArg E1 (d.uniq f);simp at this;lia
def Yf(l:List Nat):Nat:=l.getLastD 0
theorem qg(h:l≠[]):Yf (p::l)=Yf l:=by
 cases l with
 |nil=>exact absurd rfl h
 |cons x r=>simp[Yf,List.getLastD]
theorem WS{a b:List Nat}(h:b≠[]):Yf (a++b)=Yf b:=by
 induction a with
 |nil=>rfl
 |cons x r c=>rw[Dp,qg (by simp[h]),c]
theorem Ch.n7{z:Nat}(h:Ch up p l)(c:z∈l):∃m,Ch up z m/\Yf m=Yf l:=by have(a,b,rfl):=Sr c;exact{z::b,h.suffix Xb,by rw[WS (by simp)]}
def iI(up:Nat->Option Nat)(p:Nat)(v:Nat):Nat->Option Nat:=λq=>if q=p then Ga v else up q
def X7(up:Nat->Option Nat):Nat->List Nat->(Nat->Option Nat)
 |_,[]=>up
 |over,c::r=>X7 (iI up c over) c r
theorem Jv:∀{l:List Nat}{a:Nat->Option Nat}{over q:Nat},q∉l->X7 a over l q=a q
 |[],_,_,_,_=>rfl
 |c::r,a,over,q,h=>by simp only[Tf,not_or]at h;show X7 (iI a c over) c r q=_;rw[Jv h.2];unfold iI;rw[Gs h.1]
theorem Ch.qi{b:Nat->Option Nat}{a:List Nat}{over:Nat}:∀{p:Nat}{l:List Nat},Ch b p l->(∀z∈l,z∉a)->Ch (X7 b over a) p l
 |p,_,.top e,h=>.top (by rw[Jv (h p (by simp))];exact e)
 |p,_,.step e k,h=>.step (by rw[Jv (h p (by simp))];exact e) (Ch.qi k λz c=>h z (by simp[c]))
theorem qW:∀{low:List Nat}{up:Nat->Option Nat}{over:Nat}{m:List Nat},low.Nodup->Ch (X7 up over low) over m->∀z∈low,∃l,Ch (X7 up over low) z l/\Yf l=Yf m
 |[],_,_,_,_,_,z,a=>by simp at a
 |c::r,up,over,m,b,f,z,a=>by
  rw[Dy]at b;have g:X7 up over (c::r) c=Ga over:=by show X7 (iI up c over) c r c=_;rw[Jv b.1];unfold iI;rw[GV rfl]
  have e:Ch (X7 up over (c::r)) c (c::m):=.step g f;have d:Yf (c::m)=Yf m:=qg f.ne;rcases Tf.mp a with rfl|a
  .exact{_,e,d}
  .obtain⟨l,h,i⟩:=qW (low:=r) (up:=iI up c over) (over:=c) (m:=c::m) b.2 e z a;exact{l,h,by rw[i,d]}
theorem KS{a:List Nat}{over:Nat}{m:List Nat}(nd:a.Nodup)(g:Ch (X7 up over a) over m):∀{p:Nat}{l:List Nat},Ch up p l->(∃z∈l,z∈a)->∃d,Ch (X7 up over a) p d/\Yf d=Yf m:=by
 intro p l h;induction h with
 |@top p e=>rintro⟨z,b,c⟩;simp at b;subst b;exact qW nd g _ c
 |@step p q l e k j=>
  rintro⟨z,b,c⟩;by_cases f:p∈a
  .exact qW nd g p f
  .rcases Tf.mp b with rfl|b
   .exact absurd c f
   .obtain⟨d,i,n⟩:=j ⟨z,b,c⟩;exact{p::d,.step (by rw[Jv f];exact e) i,by rw[qg i.ne,n]}
theorem tZ:∀{l:List Nat}{d:Nat->Option Nat}{over p q:Nat},l.Nodup->X7 d over l p=Ga q->d p=Ga q\/(∃r,l=p::r/\q=over)\/∃a b,l=a++q::p::b
 |[],_,_,_,_,_,h=>.inl h
 |c::r,d,over,p,q,f,h=>by
  rw[Dy]at f;have h:X7 (iI d c over) c r p=Ga q:=h;rcases tZ f.2 h with h|⟨g,rfl,rfl⟩|⟨a,b,rfl⟩
  .unfold iI at h;by_cases e:p=c
   .rw[GV e]at h;cases h;subst e;exact .inr (.inl ⟨r,Xb,Xb⟩)
   .rw[Gs e]at h;exact .inl h
  .exact .inr (.inr {[],g,1})
  .exact .inr (.inr {c::a,b,1})
theorem Ch.iP{c:Nat->Option Nat}:∀{a:List Nat}{p x y:Nat}{b l:List Nat},Ch c p l->l=a++x::y::b->c x=Ga y
 |[],p,x,y,b,_,.top _,e=>by simp at e
 |[],p,x,y,b,_,.step f h,e=>by simp only[EL,Db]at e;have(rfl,rfl):=e;have(r,d):=h.head;cases d;exact f
 |z::a,p,x,y,b,_,.top _,e=>by simp at e
 |z::a,p,x,y,b,_,.step f h,e=>by simp only[Dp,Db]at e;exact Ch.iP h e.2
variable{α:Type}
inductive Cn(ls:List (Nat×Nat×α)):Nat->Nat->Prop
 |refl (p:Nat):Cn ls p p
 |symm {p q:Nat}:Cn ls p q->Cn ls q p
 |trans {p q r:Nat}:Cn ls p q->Cn ls q r->Cn ls p r
 |link {p q:Nat} {r:α}:(p,q,r)∈ls->Cn ls p q
theorem Cn.mono{a b:List (Nat×Nat×α)}(h:∀x∈a,x∈b):∀{p q:Nat},Cn a p q->Cn b p q:=by
 intro p q c;induction c with
 |refl p=>exact .refl p
 |symm _ d=>exact .symm d
 |trans _ _ d e=>exact .trans d e
 |link m=>exact .link (h _ m)
theorem Cn.PK{a:List (Nat×Nat×α)}(h:m<=n)(c:Cn (a.take m) p q):Cn (a.take n) p q:=
 c.mono λx b=>by
  have:a.take m=(a.take n).take m:=by rw[Mc,Fz h]
  rw[this]at b;exact Dq b
structure hZ(S:List Nat)(ls:List (Nat×Nat×α))(Xt:Nat->Nat->Option Nat)(up:Nat->Option Nat):Prop where
 iP:∀p q,up p=Ga q->∃n,Xt p q=Ga n
 Qib:∀p q n,Xt p q=Ga n->∃r,ls[n]?=Ga (p,q,r)\/ls[n]?=Ga (q,p,r)
 all:∀(n p q:Nat)r,ls[n]?=Ga (p,q,r)->Xt p q=Ga n/\Xt q p=Ga n
 sep:∀(n p q:Nat)r,ls[n]?=Ga (p,q,r)->¬Cn (ls.take n) p q
 chain:∀p∈S,∃l,Ch up p l
 inS:∀p q,up p=Ga q->p∈S/\q∈S
theorem hZ.rh{a:List (Nat×Nat×α)}{Xt:Nat->Nat->Option Nat}(F:hZ S a Xt up)(h:Xt p q=Ga n):Xt q p=Ga n:=by
 obtain⟨r,h|h⟩:=F.Qib p q n h
 .exact(F.all _ _ _ _ h).2
 .exact(F.all _ _ _ _ h).1
inductive hY(Xt:Nat->Nat->Option Nat):Nat->List Nat->Nat->Prop
 |nil (p:Nat):hY Xt p [] p
 |cons {p q r n:Nat} {ns:List Nat}:Xt p q=Ga n->hY Xt q ns r->hY Xt p (n::ns) r
theorem hY.app{Xt:Nat->Nat->Option Nat}:∀{p q r:Nat}{a b:List Nat},hY Xt p a q->hY Xt q b r->hY Xt p (a++b) r
 |_,_,_,_,_,.nil _,k=>k
 |_,_,_,_,_,.cons e h,k=>.cons e (h.app k)
theorem hY.rev{Xt:Nat->Nat->Option Nat}(b:∀p q n,Xt p q=Ga n->Xt q p=Ga n):∀{p q:Nat}{a:List Nat},hY Xt p a q->hY Xt q a.reverse p
 |_,_,_,.nil _=>.nil _
 |_,_,_,.cons e h=>by rw[SE];exact(h.rev b).app (.cons (b _ _ _ e) (.nil _))
theorem hY.split{Xt:Nat->Nat->Option Nat}{n:Nat}{b:List Nat}:∀{a:List Nat}{p q:Nat}{l:List Nat},hY Xt p l q->l=a++n::b->∃x y,hY Xt p a x/\Xt x y=Ga n/\hY Xt y b q
 |a,p,_,_,.nil _,e=>by simp at e
 |[],p,q,_,.cons f h,e=>by simp only[EL,Db]at e;have(rfl,rfl):=e;exact{p,_,.nil p,f,h}
 |z::a,p,q,_,.cons f h,e=>by simp only[Dp,Db]at e;have(rfl,e):=e;have(x,y,c,d,g):=h.split e;exact{x,y,.cons f c,d,g}
theorem xK:∀{l:List Nat},l≠[]->∃m∈l,∀k∈l,k<=m
 |[x],_=>{x,by simp,λk a=>by simp at a;lia}
 |x::y::r,_=>by
  have(m,c,b):=xK (l:=y::r) (by simp);by_cases e:x<=m
  .refine{m,Gr _ c,λk a=>?_};rcases Tf.mp a with rfl|a
   .exact e
   .exact b k a
  .refine{x,Tc,λk a=>?_};rcases Tf.mp a with rfl|a
   .exact GJ _
   .have:=b k a;lia
section
variable{S:List Nat}{ls:List (Nat×Nat×α)}{Xt:Nat->Nat->Option Nat}{up:Nat->Option Nat}
theorem hZ.rT(F:hZ S ls Xt up){M:Nat}:∀{p q:Nat}{a:List Nat},hY Xt p a q->(∀k∈a,k<M)->Cn (ls.take M) p q
 |_,_,_,.nil _,_=>.refl _
 |p,_,_,.cons (n:=n) e h,c=>by
  refine .trans ?_ (F.rT h λk f=>c k (Gr _ f));have d:=c n Tc;obtain⟨r,b|b⟩:=F.Qib _ _ _ e
  .exact .link (r:=r) (Gc (i:=n) (by rw[RB,GV d];exact b))
  .exact .symm (.link (r:=r) (Gc (i:=n) (by rw[RB,GV d];exact b)))
theorem hZ.early(F:hZ S ls Xt up){a:List Nat}(h:hY Xt p a q)(nd:a.Nodup)(c:Cn (ls.take n) p q):∀k∈a,k<n:=by
 intro k g;have(M,A,f):=xK (l:=a) (by intro z;rw[z]at g;simp at g);by_cases i:M<n
 .exact Sj (f k g) i
 exfalso;have(b,d,rfl):=Sr A;have(x,y,u,v,w):=h.split rfl;rw[DQ]at nd;have(n1,n2,n3):=nd;rw[Dy]at n2;have l:∀k∈b,k<M:=λk g=>by have:=f k (Gu _ g);have:=n3 k g M Tc;lia
 have t:∀k∈d,k<M:=λk g=>by have:=f k (TL _ (Gr _ g));have:k≠M:=λz=>n2.1 (z▸g);lia
 have m:=F.rT u l;have o:=F.rT w t;have s:Cn (ls.take M) p q:=c.PK (by lia);have j:Cn (ls.take M) x y:=.trans (.symm m) (.trans s (.symm o));obtain⟨r,e|e⟩:=F.Qib _ _ _ v
 .exact F.sep _ _ _ _ e j
 .exact F.sep _ _ _ _ e (.symm j)
def num(Xt:Nat->Nat->Option Nat)(up:Nat->Option Nat)(x:Nat):Nat:=((up x).bind (Xt x)).getD 0
theorem hZ.mj(F:hZ S ls Xt up){y:Nat}(h:up x=Ga y):Xt x y=Ga (num Xt up x):=by have(n,a):=F.iP x y h;unfold num;rw[h];simp[a]
theorem hZ.YD(F:hZ S ls Xt up){y n o:Nat}(h:up x=Ga n)(k:up y=Ga o)(e:num Xt up x=num Xt up y):x=y:=by
 have j:=F.mj h;have q:=F.mj k;rw[e]at j;have(r,d):=F.Qib _ _ _ j;have(v,a):=F.Qib _ _ _ q;have b:x=o->n=y->x=y:=λt u=>by
  subst t u;exfalso;have(l,m):=F.chain x (F.inS _ _ h).1;have s:=m.nodup;cases m with
  |top f=>rw[h]at f;cases f
  |step f g=>
   rw[h]at f;cases f;cases g with
   |top c=>rw[k]at c;cases c
   |step c p=>rw[k]at c;cases c;have(w,i):=p.head;subst i;simp at s
 rcases d with d|d<;>rcases a with a|a<;>rw[d]at a<;>simp only[IY,Ek]at a
 .exact a.1
 .exact b a.1 a.2.1
 .exact b a.2.1 a.1
 .exact a.2.1
theorem hZ.pJ(F:hZ S ls Xt up){m:Nat}{s:List Nat}:∀{P:List Nat}{p:Nat}{l:List Nat},Ch up p l->l=P++m::s->hY Xt p (P.map (num Xt up)) m
 |[],p,_,h,e=>by have(r,a):=h.head;rw[e]at a;simp only[EL,Db]at a;rw[a.1];exact .nil _
 |z::P,p,_,.top _,e=>by simp at e
 |z::P,p,_,.step (q:=q) f h,e=>by simp only[Dp,Db]at e;have(rfl,e):=e;rw[Tp];exact .cons (F.mj f) (F.pJ h e)
theorem Ch.ub{P:List Nat}{s:List Nat}(h:Ch up p l)(e:l=P++m::s)(c:x∈P):∃y,up x=Ga y:=by
 have(a,b,rfl):=Sr c;cases b with
 |nil=>exact{m,h.iP (a:=a) (b:=s) (by rw[e];simp)}
 |cons y b=>exact{y,h.iP (a:=a) (b:=b++m::s) (by rw[e];simp)}
theorem Kh{f:Nat->Nat}:∀{l:List Nat},l.Nodup->(∀x∈l,∀y∈l,f x=f y->x=y)->(l.map f).Nodup
 |[],_,_=>by simp
 |x::r,c,h=>by rw[Dy]at c;rw[Tp,Dy];refine{λz=>?_,Kh c.2 λa g b i=>h a (Gr _ g) b (Gr _ i)};have(y,d,e):=Tw.mp z;exact c.1 (h y (Gr _ d) x Tc e▸d)
theorem vL{x y:Nat}:∀{l:List Nat},(x,y)∈l.zip (l.drop 1)->∃a b,l=a++x::y::b
 |[],h=>by simp at h
 |[z],h=>by simp at h
 |z::w::r,h=>by
  simp only[NG,Nz,Md,Tf,Ek]at h;rcases h with⟨rfl,rfl⟩|h
  .exact{[],r,1}
  .obtain⟨a,b,e⟩:=vL (l:=w::r) (by simpa using h);exact{z::a,b,by rw[e];rfl}
theorem hZ.way(F:hZ S ls Xt up){j f:Nat}{O R P Q s:List Nat}(u:Ch up j O)(v:Ch up f R)(l:O=P++m::s)(o:R=Q++m::s)(G:P=[]\/Q=[]\/P.getLast?≠Q.getLast?):
  ∀x y,(x,y)∈(P++m::Q.reverse).zip ((P++m::Q.reverse).drop 1)->∃k,Xt x y=Ga k/\∀n,Cn (ls.take n) j f->k<n:=by
 have dis:∀z∈P,z∉Q:=λz U V=>by
  have(r,g,rfl):=Sr U;have(w,D,rfl):=Sr V;have E:=u.suffix (a:=r) (z:=z) (b:=g++m::s) (by rw[l];simp);have N:=v.suffix (a:=w) (z:=z) (b:=D++m::s) (by rw[o];simp);have e:=E.uniq N;simp only[Db,true_and]at e;have e:=My e;subst e;rcases G with h|h|h
  .simp at h
  .simp at h
  .refine h ?_;rw[SF,SF];have:(z::g).getLast?=Ga ((z::g).getLast (by simp)):=Es (by simp);rw[this];rfl
 have J:P.Nodup:=by have:=u.nodup;rw[l,DQ]at this;exact this.1
 have K:Q.Nodup:=by have:=v.nodup;rw[o,DQ]at this;exact this.1
 have B:∀x∈P++Q.reverse,∃y,up x=Ga y:=λx i=>by
  rcases Gh.mp i with i|i
  .exact u.ub l i
  .exact v.ub o (SW.mp i)
 have X:(P++Q.reverse).Nodup:=by rw[DQ];refine{J,by rw[IM,List.pairwise_reverse];exact K.imp λh=>Ta h,λa g b r z=>?_};subst z;exact dis a g (SW.mp r)
 have L:((P++Q.reverse).map (num Xt up)).Nodup:=Kh X λx i y I e=>by have(w,g):=B x i;have(D,r):=B y I;exact F.YD g r e
 have M:hY Xt j ((P++Q.reverse).map (num Xt up)) f:=by rw[TY,List.map_reverse];exact(F.pJ u l).app ((F.pJ v o).rev λ_ _ _=>F.rh)
 intro x y H;have(a,b,e):=vL H;have p:∀z T,up z=Ga T->z∈P++Q.reverse->Xt x y=Ga (num Xt up z)->∃k,Xt x y=Ga k/\∀n,Cn (ls.take n) j f->k<n:=λz T _ C W=>{_,W,λn c=>F.early M L c _ (Tw.mpr ⟨z,C,Xb⟩)}
 have q:(∃z,z∈P/\x=z/\up z=Ga y)\/(∃z,z∈Q/\y=z/\up z=Ga x):=by
  rcases Dh a.length P.length with E|D
  .left;have i:P[a.length]?=Ga x:=by
    have:(P++m::Q.reverse)[a.length]?=(a++x::y::b)[a.length]?:=by rw[e]
    rw[Tt E,TR (GJ _)]at this;simpa using this
   exists x,Gc i,1;have g:P++[m]=a++x::y::(P++[m]).drop (a.length+2):=by
    have t:=congrArg (JM (P.length+1)) e;have w:(P++m::Q.reverse).take (P.length+1)=P++[m]:=by rw[show P++m::Q.reverse=(P++[m])++Q.reverse by simp,Bz (by simp)]
    rw[w]at t;have N:(a++x::y::b).take (P.length+1)=a++x::y::b.take (P.length+1 - a.length - 2):=by rw[List.take_append,List.take_of_length_le (by lia)];congr 1;obtain⟨d,r⟩:∃d,P.length+1 - a.length=d+2:={P.length+1 - a.length - 2,by lia};rw[r];simp
    rw[N]at t;rw[t];congr 3;rw[List.drop_append];simp
   exact u.iP (a:=a) (b:=(P++[m]).drop (a.length+2)++s) (by rw[l,show P++m::s=(P++[m])++s by simp,g];simp[Dk])
  .right;obtain⟨g,rfl⟩:∃g,a=P++g:=by exists a.drop P.length;have t:=congrArg (JM P.length) e;rw[Bz Xb,E4 D]at t;exact(Ni P.length a).symm.trans (by rw[<-t])
   rw[Dk]at e;have e:=List.append_cancel_left e;have r:=congrArg List.reverse e;rw[SE,List.reverse_reverse]at r;simp only[List.reverse_append,SE,Dk,Dp,EL]at r;have N:Q++m::s=b.reverse++y::x::(g.reverse++s):=by rw[show Q++m::s=(Q++[m])++s by simp,r];simp
   refine{y,?_,1,v.iP (a:=b.reverse) (b:=g.reverse++s) (by rw[o,N])};have w:b.reverse.length<Q.length:=by have:=congrArg E1 r;simp at this;simp;lia
   have I:Q[b.reverse.length]?=Ga y:=by
    have:(Q++m::s)[b.reverse.length]?=(b.reverse++y::x::(g.reverse++s))[b.reverse.length]?:=by rw[N]
    rw[Tt w,TR (GJ _)]at this;simpa using this
   exact Gc I
 rcases q with⟨z,C,rfl,A⟩|⟨z,C,rfl,A⟩
 .exact p x y A (Gu _ C) (F.mj A)
 .exact p y x A (TL _ (SW.mpr C)) (F.rh (F.mj A))
end
variable{W ρ:Type}[DecidableEq W]
structure ia(W ρ:Type) where
 S:List Nat
 zg:Nat->Nat
 mem:Nat->List Nat
 Xx:Nat->List Nat
 tab:W×List Nat->Option Nat
 zt:List (Nat×Nat×Option ρ)
 Xt:Nat->Nat->Option Nat
 up:Nat->Option Nat
noncomputable def Zv(wd:Nat->W)(pt:Nat->List Nat)(ld:Nat->Nat)(p:Nat):W×List Nat:=(wd p,(pt p).map ld)
inductive Cj(S:List Nat)(ld:Nat->Nat)(pend:List (Nat×Nat×Option ρ)):Nat->Nat->Prop
 |zg {p q:Nat}:p∈S->q∈S->ld p=ld q->Cj S ld pend p q
 |wait {p q:Nat} {r:Option ρ}:(p,q,r)∈pend->Cj S ld pend p q
 |symm {p q:Nat}:Cj S ld pend p q->Cj S ld pend q p
 |trans {p q r:Nat}:Cj S ld pend p q->Cj S ld pend q r->Cj S ld pend p r
theorem Cj.map{ld g:Nat->Nat}{f d:List (Nat×Nat×Option ρ)}(h:∀p∈S,∀q∈S,ld p=ld q->Cj S g d p q)(i:∀p q r,(p,q,r)∈f->Cj S g d p q):∀{p q:Nat},Cj S ld f p q->Cj S g d p q:=by
 intro p q c;induction c with
 |zg a b e=>exact h _ a _ b e
 |wait m=>exact i _ _ _ m
 |symm _ b=>exact .symm b
 |trans _ _ b e=>exact .trans b e
theorem Cj.nil{ld:Nat->Nat}(c:Cj (ρ:=ρ) S ld [] p q):ld p=ld q:=by
 induction c with
 |zg _ _ e=>exact e
 |wait m=>simp at m
 |symm _ a=>exact a.symm
 |trans _ _ a b=>exact a.trans b
def oz(F:Nat->Nat->Prop)(ps a:List Nat):Prop:=ps.length=a.length/\∀(i p q:Nat),ps[i]?=Ga p->a[i]?=Ga q->F p q
theorem nk{f:Nat->Nat}{a b:List Nat}:a.map f=b.map f↔oz (λp q=>f p=f q) a b:=by
 constructor
 .intro h;have c:=congrArg E1 h;simp at c;refine{c,λi p q d e=>?_};have:(a.map f)[i]?=(b.map f)[i]?:=by rw[h]
  simpa[d,e]using this
 .rintro⟨c,h⟩;refine L8 λi=>?_;rw[Ts,Ts];rcases Dh i a.length with hi|hi
  .have d:=Ge hi;have e:=Ge (show i<b.length by lia);rw[d,e,D0,D0,h i _ _ d e]
  .rw[Df hi,Df (by lia)]
structure Wx(wd:Nat->W)(pt:Nat->List Nat)(x:ia W ρ)(pend:List (Nat×Nat×Option ρ)):Prop where
 nd:x.S.Nodup
 pt_:∀p∈x.S,∀q∈pt p,q∈x.S
 ld:∀p∈x.S,x.zg p∈x.S
 idem:∀p∈x.S,x.zg (x.zg p)=x.zg p
 Qc0:∀l∈x.S,x.zg l=l->∀p,p∈x.mem l↔p∈x.S/\x.zg p=l
 Qnr:∀l∈x.S,x.zg l=l->(x.mem l).Nodup
 Qj2:∀l∈x.S,∀p∈x.Xx l,p∈x.S
 Qzz:∀p∈x.S,∀q∈pt p,p∈x.Xx (x.zg q)
 tabS:∀k u,x.tab k=Ga u->u∈x.S/\wd u=k.1/\(∀q∈k.2,q∈x.S)/\(pt u).map x.zg=k.2.map x.zg
 Qtd:∀p∈x.S,∃u,x.tab (Zv wd pt x.zg p)=Ga u/\Cj x.S x.zg pend u p
 pnd:∀a b r,(a,b,r)∈pend->a∈x.S/\b∈x.S/\(r=Gq->wd a=wd b/\(pt a).map x.zg=(pt b).map x.zg)
 fst:hZ x.S x.zt x.Xt x.up
 lnk:∀(n a b:Nat)r,x.zt[n]?=Ga (a,b,r)->a∈x.S/\b∈x.S/\(r=Gq->wd a=wd b/\oz (Cn (x.zt.take n)) (pt a) (pt b))
 conn:∀p∈x.S,∀q∈x.S,(x.zg p=x.zg q↔Cn x.zt p q)
 root:∀p q l m,p∈x.S->q∈x.S->Ch x.up p l->Ch x.up q m->(x.zg p=x.zg q↔Yf l=Yf m)
noncomputable def zm(a:Nat->W×List Nat):List Nat->(W×List Nat->Option Nat)->List (Nat×Nat×Option ρ)->(W×List Nat->Option Nat)×List (Nat×Nat×Option ρ)
 |[],t,f=>(t,f)
 |u::r,t,f=>match t (a u)with
  |some v=>zm a r t (if v=u then f else f++[(u,v,Gq)])
  |none=>zm a r (λk=>if k=a u then Ga u else t k) f
theorem Jr{a:Nat->W×List Nat}:∀{l:List Nat}{t:W×List Nat->Option Nat}{f:List (Nat×Nat×Option ρ)}{k:W×List Nat}{v:Nat},t k=Ga v->(zm a l t f).1 k=Ga v
 |[],_,_,_,_,h=>h
 |u::r,t,f,k,v,h=>by
  unfold zm;cases e:t (a u)with
  |some w=>exact Jr h
  |none=>
   refine Jr ?_;have:k≠a u:=λz=>by rw[z,e]at h;cases h
   simp only[Gs this];exact h
theorem scan_keep{a:Nat->W×List Nat}:∀{l:List Nat}{t:W×List Nat->Option Nat}{f:List (Nat×Nat×Option ρ)}{y},y∈f->y∈(zm a l t f).2
 |[],_,_,_,h=>h
 |u::r,t,f,y,h=>by
  unfold zm;cases e:t (a u)with
  |some w=>
   refine scan_keep ?_;split
   .exact h
   .exact Gu _ h
  |none=>exact scan_keep h
theorem pM{ky:Nat->W×List Nat}:∀{l:List Nat}{t:W×List Nat->Option Nat}{f:List (Nat×Nat×Option ρ)}{u:Nat},u∈l->∃v,(zm ky l t f).1 (ky u)=Ga v/\(v=u\/(u,v,Gq)∈(zm ky l t f).2)
 |[],_,_,_,h=>by simp at h
 |z::r,t,f,u,h=>by
  unfold zm;rcases Tf.mp h with rfl|h
  .cases e:t (ky u)with
   |some w=>
    exists w,Jr e;by_cases hw:w=u
    .exact .inl hw
    .right;refine scan_keep ?_;rw[Gs hw];simp
   |none=>exact{u,Jr (by simp),.inl Xb}
  .cases e:t (ky z)with
   |some w=>exact pM h
   |none=>exact pM h
theorem qM{a:Nat->W×List Nat}:∀{l:List Nat}{t:W×List Nat->Option Nat}{f:List (Nat×Nat×Option ρ)}{k:W×List Nat}{v:Nat},(zm a l t f).1 k=Ga v->t k=Ga v\/(v∈l/\k=a v)
 |[],_,_,_,_,h=>.inl h
 |u::r,t,f,k,v,h=>by
  unfold zm at h;cases e:t (a u)with
  |some w=>
   rw[e]at h;rcases qM h with h|⟨b,c⟩
   .exact .inl h
   .exact .inr {Gr _ b,c}
  |none=>
   rw[e]at h;rcases qM h with h|⟨b,c⟩
   .by_cases d:k=a u
    .simp only[GV d]at h;cases h;exact .inr ⟨Tc,d⟩
    .simp only[Gs d]at h;exact .inl h
   .exact .inr {Gr _ b,c}
theorem Ot{c:Nat->W×List Nat}{t:W×List Nat->Option Nat}{f:List (Nat×Nat×Option ρ)}{r:Option ρ}(h:(a,b,r)∈(zm c l t f).2):(a,b,r)∈f\/(r=Gq/\a∈l/\(zm c l t f).1 (c a)=Ga b):=by
 induction l generalizing t f with
 |nil=>exact .inl h
 |cons u l j=>
  unfold zm at h⊢;cases e:t (c u)with
  |some w=>
   rw[e]at h;rcases j h with h|⟨d,g,i⟩
   .split at h
    .exact .inl h
    .rcases Gh.mp h with h|h
     .exact .inl h
     .simp at h;have(rfl,rfl,rfl):=h;exact .inr {1,Tc,Jr e}
   .exact .inr {d,Gr _ g,i}
  |none=>
   rw[e]at h;rcases j h with h|⟨d,g,i⟩
   .exact .inl h
   .exact .inr {d,Gr _ g,i}
theorem scan_len{ky:Nat->W×List Nat}:∀{l:List Nat}{t:W×List Nat->Option Nat}{f:List (Nat×Nat×Option ρ)},(zm ky l t f).2.length<=f.length+l.length
 |[],_,_=>by simp[zm]
 |u::l,t,f=>by
  unfold zm;cases e:t (ky u)with
  |some w=>
   have:=scan_len (ky:=ky) (l:=l) (t:=t) (f:=if w=u then f else f++[(u,w,Gq)]);simp only[TB];split at this
   .rename_i h
    simp only[GV h];lia
   .rename_i h
    simp only[Gs h];rw[Gk,Gy]at this;lia
  |none=>have:=scan_len (ky:=ky) (l:=l) (t:=λk=>if k=ky u then Ga u else t k) (f:=f);simp only[TB];lia
noncomputable def Zi(x:ia W ρ)(a b:Nat):Nat->Nat:=λp=>if p∈x.mem a then b else x.zg p
noncomputable def U8(wd:Nat->W)(pt:Nat->List Nat)(x:ia W ρ)(a b:Nat):ia W ρ×List (Nat×Nat×Option ρ):=
 ({x with zg:=Zi x a b,mem:=(λp=>if p=b then x.mem b++x.mem a else x.mem p),Xx:=(λp=>if p=b then x.Xx b++x.Xx a else x.Xx p),tab:=(zm (ρ:=ρ) (Zv wd pt (Zi x a b)) (x.Xx a) x.tab []).1},(zm (Zv wd pt (Zi x a b)) (x.Xx a) x.tab []).2)
noncomputable def iy(Xt:Nat->Nat->Option Nat)(a b n:Nat):Nat->Nat->Option Nat:=λp q=>if(p=a/\q=b)\/(p=b/\q=a)then Ga n else Xt p q
noncomputable def Y1(wd:Nat->W)(pt:Nat->List Nat)(x:ia W ρ)(a b:Nat)(r:Option ρ)(lo hi:Nat)(c:List Nat):ia W ρ×List (Nat×Nat×Option ρ):=
 U8 wd pt {x with zt:=x.zt++[(a,b,r)],Xt:=iy x.Xt a b x.zt.length,up:=X7 x.up hi c} (x.zg lo) (x.zg hi)
section
variable{wd:Nat->W}{pt:Nat->List Nat}{x:ia W ρ}{pend:List (Nat×Nat×Option ρ)}
theorem Qz5{g:List (Nat×Nat×Option ρ)}{r:Option ρ}(c:Cn (g++[(a,b,r)]) p q):Cn g p q\/(Cn g p a/\Cn g b q)\/(Cn g p b/\Cn g a q):=by
 induction c with
 |refl p=>exact .inl (.refl p)
 |symm _ f=>
  rcases f with h|⟨d,e⟩|⟨d,e⟩
  .exact .inl (.symm h)
  .exact .inr (.inr {.symm e,.symm d})
  .exact .inr (.inl {.symm e,.symm d})
 |trans _ _ j l=>
  rcases j with h|⟨d,e⟩|⟨d,e⟩<;>rcases l with k|⟨i,f⟩|⟨i,f⟩
  .exact .inl (.trans h k)
  .exact .inr (.inl {.trans h i,f})
  .exact .inr (.inr {.trans h i,f})
  .exact .inr (.inl {d,.trans e k})
  .exact .inr (.inl ⟨d,f⟩)
  .exact .inl (.trans d f)
  .exact .inr (.inr {d,.trans e k})
  .exact .inl (.trans d f)
  .exact .inr (.inr ⟨d,f⟩)
 |link m=>
  rcases Gh.mp m with m|m
  .exact .inl (.link m)
  .simp at m;have(rfl,rfl,rfl):=m;exact .inr (.inl {.refl _,.refl _})
theorem Wx.KU(I:Wx wd pt x pend){g k:Nat}(b:g∈x.S)(a:x.zg g=g)(c:p∈x.S):Zi x g k p=if x.zg p=g then k else x.zg p:=by
 unfold Zi;by_cases h:x.zg p=g
 .rw[GV h,GV ((I.Qc0 g b a p).mpr ⟨c,h⟩)]
 .rw[Gs h,Gs λz=>h ((I.Qc0 g b a p).mp z).2]
end
variable{W ρ:Type}[DecidableEq W]
section
variable{wd:Nat->W}{pt:Nat->List Nat}{x:ia W ρ}{pend:List (Nat×Nat×Option ρ)}
theorem Wx.join(e:Wx wd pt x (pend++[(a,b,r)]))(ah:x.zg a≠x.zg b)(ad:(lo=a/\hi=b)\/(lo=b/\hi=a))(Q:Ch x.up lo cl):
  Wx wd pt (Y1 wd pt x a b r lo hi cl).1 (pend++(Y1 wd pt x a b r lo hi cl).2)/\(∀p∈x.S,(Y1 wd pt x a b r lo hi cl).1.zg p=if x.zg p=x.zg lo then x.zg hi else x.zg p):=by
 have(K,L,ai):=e.pnd a b r (by simp);have ac:lo∈x.S:=by rcases ad with⟨d,_⟩|⟨d,_⟩<;>rw[d]<;>assumption
 have aa:hi∈x.S:=by rcases ad with⟨_,d⟩|⟨_,d⟩<;>rw[d]<;>assumption
 have W:x.zg lo≠x.zg hi:=by
  rcases ad with⟨g,h⟩|⟨g,h⟩<;>rw[g,h]
  .exact ah
  .exact Ta ah
 have(lh,ae):=e.fst.chain hi aa;have gS:=e.ld lo ac;have gg:=e.idem lo ac;have kS:=e.ld hi aa;have kk:=e.idem hi aa;generalize hG:x.zg lo=f at*;generalize hK:x.zg hi=k at*;have ab:(x.zg a=f/\x.zg b=k)\/(x.zg a=k/\x.zg b=f):=by
  rcases ad with⟨g,h⟩|⟨g,h⟩
  .left;rw[<-g,<-h];exact⟨hG,hK⟩
  .right;rw[<-g,<-h];exact⟨hK,hG⟩
 have s:∀p∈x.S,Zi x f k p=if x.zg p=f then k else x.zg p:=λp j=>e.KU gS gg j;have eJ:Y1 wd pt x a b r lo hi cl=U8 wd pt {x with zt:=x.zt++[(a,b,r)],Xt:=iy x.Xt a b x.zt.length,up:=X7 x.up hi cl} f k:=by unfold Y1;rw[hG,hK]
 rw[eJ];have nC:¬Cn x.zt a b:=λc=>ah ((e.conn a K b L).mpr c);have V:∀p∈x.S,∀q∈x.S,x.zg p=x.zg q->Zi x f k p=Zi x f k q:=λp j q o l=>by rw[s p j,s q o,l]
 have LS:∀p∈x.S,Zi x f k p∈x.S:=λp j=>by
  rw[s p j];split
  .exact kS
  .exact e.ld p j
 have Lk:Zi x f k k=k:=by rw[s k kS,kk,Gs (Ta W)]
 have Li:∀p∈x.S,Zi x f k (Zi x f k p)=Zi x f k p:=λp j=>by
  by_cases d:x.zg p=f
  .rw[s p j,GV d,Lk]
  .rw[s p j,Gs d,s _ (e.ld p j),e.idem p j,Gs d]
 have Mp:∀p∈x.S,∀q∈x.S,(pt p).map x.zg=(pt q).map x.zg->(pt p).map (Zi x f k)=(pt q).map (Zi x f k):=λp j q o l=>by rw[nk]at l⊢;exact{l.1,λi u w D J=>V u (e.pt_ p j u (Gc D)) w (e.pt_ q o w (Gc J)) (l.2 i u w D J)}
 have TS:∀ky u,(zm (ρ:=ρ) (Zv wd pt (Zi x f k)) (x.Xx f) x.tab []).1 ky=Ga u->u∈x.S/\wd u=ky.1/\(∀q∈ky.2,q∈x.S)/\(pt u).map (Zi x f k)=ky.2.map (Zi x f k):=λky u d=>by
  rcases qM d with d|⟨g,h⟩
  .obtain⟨k1,k2,k3,k4⟩:=e.tabS ky u d;exists k1,k2,k3;rw[nk]at k4⊢;exact{k4.1,λi F w D J=>V F (e.pt_ u k1 F (Gc D)) w (k3 w (Gc J)) (k4.2 i F w D J)}
  .have G:=e.Qj2 f gS u g;subst h;exists G,1,λq o=>?_
   .obtain⟨F,S,rfl⟩:=Tw.mp o;exact LS F (e.pt_ u G F S)
   .show(pt u).map (Zi x f k)=((pt u).map (Zi x f k)).map (Zi x f k);rw[Dj];refine TX λq o=>?_;exact(Li q (e.pt_ u G q o)).symm
 have dis:∀z∈lh,z∉cl:=λz hz af=>by
  have(m1,Y,N):=ae.n7 hz;have(m2,Z,I):=Q.n7 af;have:Yf lh=Yf cl:=by rw[<-N,<-I,Y.uniq Z]
  exact W ((e.root lo hi cl lh ac aa Q ae).mpr this.symm|>λl=>by rw[hG,hK]at l;exact l)
 have hh:Ch (X7 x.up hi cl) hi lh:=ae.qi dis;have R:∀p∈x.S,∀B,Ch x.up p B->∃m,Ch (X7 x.up hi cl) p m/\(x.zg p=f->Yf m=Yf lh)/\(x.zg p≠f->Yf m=Yf B):=λp j B M=>by
  by_cases d:∃z∈B,z∈cl
  .obtain⟨m,g,h⟩:=KS Q.nodup hh M d;refine{m,g,λ_=>h,λv=>?_};exfalso;have(z,hz,af):=d;have(m1,Y,N):=M.n7 hz;have(m2,Z,I):=Q.n7 af;have:Yf B=Yf cl:=by rw[<-N,<-I,Y.uniq Z]
   exact v (by rw[<-hG];exact(e.root p lo B cl j ac M Q).mpr this)
  .have g:Ch (X7 x.up hi cl) p B:=M.qi λz hz af=>d ⟨z,hz,af⟩;refine{B,g,λl=>?_,λ_=>rfl};exfalso;have:=(e.root p lo B cl j ac M Q).mp (by rw[hG];exact l);have m1:Yf B∈B:=by have:=M.ne;unfold Yf;rw[LD,Es this];exact Bn this
   have m2:Yf cl∈cl:=by have:=Q.ne;unfold Yf;rw[LD,Es this];exact Bn this
   exact d {_,m1,by rw[this];exact m2}
 have C1:∀p∈x.S,∀q∈x.S,(Zi x f k p=Zi x f k q↔Cn (x.zt++[(a,b,r)]) p q):=λp j q o=>by
  have mono:∀{u w:Nat},Cn x.zt u w->Cn (x.zt++[(a,b,r)]) u w:=λc=>c.mono λy hy=>Gu _ hy;have X:Cn (x.zt++[(a,b,r)]) a b:=.link (r:=r) (by simp);have G:∀u∈x.S,∀w∈x.S,x.zg u=f->x.zg w=k->Cn (x.zt++[(a,b,r)]) u w:=λu D w J N I=>by
   rcases ab with⟨g,h⟩|⟨g,h⟩
   .exact .trans (mono ((e.conn u D a K).mp (N.trans g.symm))) (.trans X (mono ((e.conn b L w J).mp (h.trans I.symm))))
   .exact .trans (mono ((e.conn u D b L).mp (N.trans h.symm))) (.trans (.symm X) (mono ((e.conn a K w J).mp (g.trans I.symm))))
  constructor
  .intro l;rw[s p j,s q o]at l;by_cases g:x.zg p=f<;>by_cases h:x.zg q=f
   .exact mono ((e.conn p j q o).mp (g.trans h.symm))
   .rw[GV g,Gs h]at l;exact G p j q o g l.symm
   .rw[Gs g,GV h]at l;exact .symm (G q o p j h l)
   .rw[Gs g,Gs h]at l;exact mono ((e.conn p j q o).mp l)
  .intro c;have F:Zi x f k a=Zi x f k b:=by
    rw[s a K,s b L];rcases ab with⟨g,h⟩|⟨g,h⟩
    .rw[GV g,Gs (by rw[h];exact Ta W),h]
    .rw[GV h,Gs (by rw[g];exact Ta W),g]
   rcases Qz5 c with c|⟨Y,Z⟩|⟨Y,Z⟩
   .exact V p j q o ((e.conn p j q o).mpr c)
   .exact(V p j a K ((e.conn p j a K).mpr Y)).trans (F.trans (V b L q o ((e.conn b L q o).mpr Z)))
   .exact(V p j b L ((e.conn p j b L).mpr Y)).trans (F.symm.trans (V a K q o ((e.conn a K q o).mpr Z)))
 have tk:∀{n:Nat},n<=x.zt.length->(x.zt++[(a,b,r)]).take n=x.zt.take n:=λd=>E4 d;have gl:∀{n:Nat}{y},(x.zt++[(a,b,r)])[n]?=Ga y->(n<x.zt.length/\x.zt[n]?=Ga y)\/(n=x.zt.length/\y=(a,b,r)):=λ{n y}d=>by
  rcases Dh n x.zt.length with v|v
  .rw[Tt v]at d;exact .inl ⟨v,d⟩
  .rw[TR v]at d;have:n - x.zt.length=0:=by have:=(Gg.mp d).1;simp at this;lia
   rw[this]at d;simp at d;exact .inr {by lia,d.symm}
 have aj:∀p q,X7 x.up hi cl p=Ga q->x.up p=Ga q\/(p=lo/\q=hi)\/x.up q=Ga p:=λp q d=>by
  rcases tZ Q.nodup d with d|⟨A,l,I⟩|⟨H,O,l⟩
  .exact .inl d
  .obtain⟨G,F⟩:=Q.head;rw[l]at F;cases F;exact .inr (.inl ⟨Xb,I⟩)
  .exact .inr (.inr (Q.iP l))
 refine{{e.nd,e.pt_,LS,Li,λm T l p=>?_,λm T l=>?_,λm T p j=>?_,λp j q o=>?_,TS,λp j=>?_,λH O A d=>?_,{λp q d=>?_,λp q n d=>?_,λn p q A d=>?_,λn p q A d=>?_,λp j=>?_,λp q d=>?_},λn H O A d=>?_,C1,λp q m U j o g h=>?_},λp j=>s p j}
 ·
  have l:Zi x f k m=m:=l;have lg:x.zg m≠f:=λz=>by rw[s m T,GV z]at l;rw[<-l,kk]at z;exact W z.symm
  have ll:x.zg m=m:=by rw[s m T,Gs lg]at l;exact l
  show p∈(if m=k then x.mem k++x.mem f else x.mem m)↔p∈x.S/\Zi x f k p=m;by_cases C:m=k
  .rw[GV C,Gh,e.Qc0 k kS kk,e.Qc0 f gS gg];constructor
   .rintro(⟨g,h⟩|⟨g,h⟩)
    .exact{g,by rw[s p g,h,Gs (Ta W),C]}
    .exact{g,by rw[s p g,GV h,C]}
   .rintro⟨g,h⟩;rw[s p g]at h;by_cases P:x.zg p=f
    .exact .inr ⟨g,P⟩
    .rw[Gs P]at h;exact .inl {g,h.trans C}
  .rw[Gs C,e.Qc0 m T ll];constructor
   .rintro⟨g,h⟩;exact{g,by rw[s p g,Gs (by rw[h,<-ll];exact lg),h]}
   .rintro⟨g,h⟩;rw[s p g]at h;by_cases P:x.zg p=f
    .rw[GV P]at h;exact absurd h.symm C
    .rw[Gs P]at h;exact⟨g,h⟩
 .have l:Zi x f k m=m:=l;have lg:x.zg m≠f:=λz=>by rw[s m T,GV z]at l;rw[<-l,kk]at z;exact W z.symm
  have ll:x.zg m=m:=by rw[s m T,Gs lg]at l;exact l
  show(if m=k then x.mem k++x.mem f else x.mem m).Nodup;by_cases C:m=k
  .rw[GV C,DQ];refine{e.Qnr k kS kk,e.Qnr f gS gg,λu D w J z=>?_};subst z;have g:=((e.Qc0 k kS kk u).mp D).2;have h:=((e.Qc0 f gS gg u).mp J).2;exact W (h.symm.trans g)
  .rw[Gs C];exact e.Qnr m T ll
 .have j:p∈(if m=k then x.Xx k++x.Xx f else x.Xx m):=j;by_cases C:m=k
  .rw[GV C]at j;rcases Gh.mp j with d|d
   .exact e.Qj2 k kS p d
   .exact e.Qj2 f gS p d
  .rw[Gs C]at j;exact e.Qj2 m T p j
 .show p∈(if Zi x f k q=k then x.Xx k++x.Xx f else x.Xx (Zi x f k q));have E:=e.Qzz p j q o;have F:=e.pt_ p j q o;by_cases d:x.zg q=f
  .rw[s q F,GV d,GV rfl];rw[d]at E;exact TL _ E
  .rw[s q F,Gs d];by_cases C:x.zg q=k
   .rw[GV C];rw[C]at E;exact Gu _ E
   .rw[Gs C];exact E
 ·
  show∃u,(zm (ρ:=ρ) (Zv wd pt (Zi x f k)) (x.Xx f) x.tab []).1 (Zv wd pt (Zi x f k) p)=Ga u/\Cj x.S (Zi x f k) (pend++(zm (Zv wd pt (Zi x f k)) (x.Xx f) x.tab []).2) u p;by_cases d:∃q∈pt p,x.zg q=f
  .obtain⟨q,o,l⟩:=d;have D:=e.Qzz p j q o;rw[l]at D;have(w,g,h):=pM (ρ:=ρ) (ky:=Zv wd pt (Zi x f k)) (t:=x.tab) (f:=[]) D;exists w,g;rcases h with rfl|h
   .exact .zg j j rfl
   .exact .symm (.wait (r:=Gq) (TL _ h))
  .obtain⟨u,g,h⟩:=e.Qtd p j;have F:Zv wd pt (Zi x f k) p=Zv wd pt x.zg p:=by unfold Zv;refine RN rfl (TX λq o=>?_);rw[s q (e.pt_ p j q o),Gs λz=>d ⟨q,o,z⟩]
   refine{u,by rw[F];exact Jr g,h.map (λp j q o l=>.zg j o (V p j q o l)) λp q A U=>?_};rcases Gh.mp U with U|U
   .exact .wait (Gu _ U)
   .simp at U;have(rfl,rfl,rfl):=U;exact .zg K L ((C1 _ K _ L).mpr (.link (r:=A) (by simp)))
 ·
  rcases Gh.mp d with d|d
  .obtain⟨g,h,P⟩:=e.pnd H O A (Gu _ d);exact{g,h,λl=>{(P l).1,Mp H g O h (P l).2}}
  .rcases Ot (show(H,O,A)∈(zm (Zv wd pt (Zi x f k)) (x.Xx f) x.tab []).2 from d)with d|⟨g,h,P⟩
   .simp at d
   .have F:=e.Qj2 f gS H h;have(k1,k2,k3,k4):=TS _ _ P;refine{F,k1,λ_=>{k2.symm,?_}};show(pt H).map (Zi x f k)=(pt O).map (Zi x f k);rw[k4];show _=((pt H).map (Zi x f k)).map (Zi x f k);rw[Dj];exact TX λq o=>(Li q (e.pt_ H F q o)).symm
 ·
  show∃n,iy x.Xt a b x.zt.length p q=Ga n;unfold iy;by_cases v:(p=a/\q=b)\/(p=b/\q=a)
  .exact{_,GV v}
  .rw[Gs v];rcases aj p q d with d|⟨N,I⟩|d
   .exact e.fst.iP p q d
   .exfalso;apply v;rcases ad with⟨g,h⟩|⟨g,h⟩
    .exact .inl {N.trans g,I.trans h}
    .exact .inr {N.trans g,I.trans h}
   .obtain⟨n,v⟩:=e.fst.iP q p d;exact{n,e.fst.rh v}
 .have d:iy x.Xt a b x.zt.length p q=Ga n:=d;unfold iy at d;show∃A,(x.zt++[(a,b,r)])[n]?=Ga (p,q,A)\/(x.zt++[(a,b,r)])[n]?=Ga (q,p,A);by_cases v:(p=a/\q=b)\/(p=b/\q=a)
  .rw[GV v]at d;cases d;exists r;rcases v with⟨rfl,rfl⟩|⟨rfl,rfl⟩
   .left;simp
   .right;simp
  .rw[Gs v]at d;obtain⟨A,d|d⟩:=e.fst.Qib p q n d
   .exact{A,.inl (by rw[Tt (Gg.mp d).1];exact d)}
   .exact{A,.inr (by rw[Tt (Gg.mp d).1];exact d)}
 .show iy x.Xt a b x.zt.length p q=Ga n/\iy x.Xt a b x.zt.length q p=Ga n;rcases gl d with⟨v,X⟩|⟨v,d⟩
  .have no:¬((p=a/\q=b)\/(p=b/\q=a)):=by
    rintro(⟨rfl,rfl⟩|⟨rfl,rfl⟩)
    .exact nC (.link (Gc X))
    .exact nC (.symm (.link (Gc X)))
   have ag:¬((q=a/\p=b)\/(q=b/\p=a)):=λz=>no (z.elim (λ⟨F,G⟩=>.inr ⟨G,F⟩) λ⟨F,G⟩=>.inl ⟨G,F⟩);unfold iy;rw[Gs no,Gs ag];exact e.fst.all n p q A X
  .simp only[Ek]at d;have(rfl,rfl,rfl):=d;subst v;unfold iy;exact{GV (.inl ⟨Xb,Xb⟩),GV (.inr ⟨Xb,Xb⟩)}
 .show¬Cn ((x.zt++[(a,b,r)]).take n) p q;rcases gl d with⟨v,d⟩|⟨v,d⟩
  .rw[tk (by lia)];exact e.fst.sep n p q A d
  .simp only[Ek]at d;have(rfl,rfl,rfl):=d;rw[tk (by lia),v,Tz];exact nC
 .obtain⟨B,M⟩:=e.fst.chain p j;have(m,g,_):=R p j B M;exact⟨m,g⟩
 .rcases aj p q d with d|⟨N,I⟩|d
  .exact e.fst.inS p q d
  .rw[N,I];exact⟨ac,aa⟩
  .exact(e.fst.inS q p d).symm
 .show H∈x.S/\O∈x.S/\(A=Gq->wd H=wd O/\oz (Cn ((x.zt++[(a,b,r)]).take n)) (pt H) (pt O));rcases gl d with⟨v,d⟩|⟨v,d⟩
  .rw[tk (by lia)];exact e.lnk n H O A d
  .simp only[Ek]at d;have(rfl,rfl,rfl):=d;rw[tk (by lia),v,Tz];refine{K,L,λl=>{(ai l).1,?_}};have t:=nk.mp (ai l).2;exact{t.1,λi u w D J=>(e.conn u (e.pt_ _ K u (Gc D)) w (e.pt_ _ L w (Gc J))).mp (t.2 i u w D J)}
 .show Zi x f k p=Zi x f k q↔Yf m=Yf U;have(B,M):=e.fst.chain p j;have(G,F):=e.fst.chain q o;have(l',p1,p2,p3):=R p j B M;have(m',q1,q2,q3):=R q o G F;have el:=Ch.uniq (show Ch (X7 x.up hi cl) p m from g) p1;have em:=Ch.uniq (show Ch (X7 x.up hi cl) q U from h) q1;subst el em;have rp:=e.root p hi B lh j aa M ae;have X:=e.root q hi G lh o aa F ae;rw[hK]at rp X;rw[s p j,s q o];by_cases E:x.zg p=f<;>by_cases S:x.zg q=f
  .rw[GV E,GV S,p2 E,q2 S];exact{λ_=>rfl,λ_=>rfl}
  .rw[GV E,Gs S,p2 E,q3 S];exact{λl=>(X.mp l.symm).symm,λl=>(X.mpr l.symm).symm}
  .rw[Gs E,GV S,p3 E,q2 S];exact rp
  .rw[Gs E,Gs S,p3 E,q3 S];exact e.root p q B G j o M F
end
variable{W ρ:Type}[DecidableEq W]
section
variable{wd:Nat->W}{pt:Nat->List Nat}{x:ia W ρ}{pend pend':List (Nat×Nat×Option ρ)}
theorem Wx.xE(I:Wx wd pt x pend)(f:∀p q r,(p,q,r)∈pend->Cj x.S x.zg pend' p q)(g:∀a b r,(a,b,r)∈pend'->a∈x.S/\b∈x.S/\(r=Gq->wd a=wd b/\(pt a).map x.zg=(pt b).map x.zg)):Wx wd pt x pend':=
 {I.nd,I.pt_,I.ld,I.idem,I.Qc0,I.Qnr,I.Qj2,I.Qzz,I.tabS,λp d=>by have(u,e,c):=I.Qtd p d;exact{u,e,c.map (λp d q b e=>.zg d b e) f},g,I.fst,I.lnk,I.conn,I.root}
theorem Wx.drop{r:Option ρ}(I:Wx wd pt x (pend++[(a,b,r)]))(e:x.zg a=x.zg b):Wx wd pt x pend:=by
 have(f,h,_):=I.pnd a b r (by simp);refine I.xE (λp q c m=>?_) λd g c m=>I.pnd d g c (Gu _ m);rcases Gh.mp m with m|m
 .exact .wait m
 .simp at m;have(rfl,rfl,rfl):=m;exact .zg f h e
theorem Wx.cong(I:Wx wd pt x [])(c:p∈x.S)(d:q∈x.S)(e:Zv wd pt x.zg p=Zv wd pt x.zg q):x.zg p=x.zg q:=by have(u,a,b):=I.Qtd p c;have(v,f,g):=I.Qtd q d;rw[e,f]at a;cases a;exact b.nil.symm.trans g.nil
structure Ec(wd:Nat->W)(pt:Nat->List Nat)(S:List Nat)(E:Nat->Nat->Prop):Prop where
 refl:∀p,E p p
 symm:∀p q,E p q->E q p
 trans:∀p q r,E p q->E q r->E p r
 cong:∀p∈S,∀q∈S,wd p=wd q->oz E (pt p) (pt q)->E p q
def ig(E:Nat->Nat->Prop)(x:ia W ρ)(pend:List (Nat×Nat×Option ρ)):Prop:=(∀p∈x.S,∀q∈x.S,x.zg p=x.zg q->E p q)/\∀a b r,(a,b,r)∈pend->E a b
theorem ig.join{E:Nat->Nat->Prop}{a b:Nat}{r:Option ρ}(H:ig E x (pend++[(a,b,r)]))(X:Ec wd pt x.S E)(I:Wx wd pt x (pend++[(a,b,r)]))(F:x.zg a≠x.zg b){d hi:Nat}{l:List Nat}(g:(d=a/\hi=b)\/(d=b/\hi=a))(O:Ch x.up d l):
  ig E (Y1 wd pt x a b r d hi l).1 (pend++(Y1 wd pt x a b r d hi l).2):=by
 have(J,L):=I.join F g O;have(P,Q,_):=I.pnd a b r (by simp);have n:E a b:=H.2 a b r (by simp);have G:d∈x.S:=by rcases g with⟨h,_⟩|⟨h,_⟩<;>rw[h]<;>assumption
 have D:hi∈x.S:=by rcases g with⟨_,h⟩|⟨_,h⟩<;>rw[h]<;>assumption
 have C:E d hi:=by
  rcases g with⟨c,f⟩|⟨c,f⟩<;>rw[c,f]
  .exact n
  .exact X.symm _ _ n
 have M:∀u∈x.S,∀v∈x.S,x.zg u=x.zg d->x.zg v=x.zg hi->E u v:=λu w v y A B=>X.trans _ _ _ (H.1 u w d G A) (X.trans _ _ _ C (H.1 hi D v y B.symm));have K:∀p∈x.S,∀q∈x.S,(Y1 wd pt x a b r d hi l).1.zg p=(Y1 wd pt x a b r d hi l).1.zg q->E p q:=λp o q s e=>by
  rw[L p o,L q s]at e;by_cases c:x.zg p=x.zg d<;>by_cases f:x.zg q=x.zg d
  .exact H.1 p o q s (c.trans f.symm)
  .rw[GV c,Gs f]at e;exact M p o q s c e.symm
  .rw[Gs c,GV f]at e;exact X.symm _ _ (M q s p o f e)
  .rw[Gs c,Gs f]at e;exact H.1 p o q s e
 refine{K,λj k z m=>?_};rcases Gh.mp m with h|h
 .exact H.2 j k z (Gu _ h)
 .obtain⟨c,f,N⟩:=J.pnd j k z m;have rn:z=Gq:=by
   rcases Ot (show(j,k,z)∈(zm _ _ _ []).2 from h)with h|⟨c,_⟩
   .simp at h
   .exact c
  have(A,B):=N rn;have t:=nk.mp B;exact X.cong j c k f A {t.1,λi u v w y=>K u (I.pt_ j c u (Gc w)) v (I.pt_ k f v (Gc y)) (t.2 i u v w y)}
theorem UF{r:Option ρ}{d e:Nat}{c:Option ρ}(h:(d,e,c)∈(Y1 wd pt x a b r lo hi cl).2):c=Gq:=by
 rcases Ot (show(d,e,c)∈(zm _ _ _ []).2 from h)with h|⟨f,_⟩
 .simp at h
 .exact f
noncomputable def cls(x:ia W ρ):Nat:=x.S.countP λp=>decide (x.zg p=p)
noncomputable def Ja(x:ia W ρ):Nat:=(x.S.map λp=>if x.zg p=p then(x.Xx p).length else 0).sum
theorem Ah{a:Type}{p q:a->Bool}:∀{l:List a},(∀x∈l,p x=Gi->q x=Gi)->l.countP p<=l.countP q
 |[],_=>by simp
 |x::r,h=>by
  have d:=Ah (l:=r) (λy c=>h y (Gr _ c));have b:=h x Tc;rw[EV,EV];cases e:p x with
  |true=>rw[b e];simp;exact d
  |false=>simp;ext
theorem uF{d:Type}{p q:d->Bool}:∀{l:List d},(∀x∈l,p x=Gi->q x=Gi)->(∃x∈l,q x=Gi/\p x=Gx)->l.countP p<l.countP q
 |[],_,h=>by have(x,a,_):=h;simp at a
 |x::r,h,⟨y,a,b,c⟩=>by
  rw[EV,EV];rcases Tf.mp a with rfl|a
  .have:=Ah (l:=r) (λy a=>h y (Gr _ a));rw[b,c];simp;lia
  .have g:=uF (l:=r) (λy a=>h y (Gr _ a)) ⟨y,a,b,c⟩;have f:=h x Tc;cases e:p x with
   |true=>rw[f e];simp;exact g
   |false=>simp;lia
theorem Qtx{f a:Nat->Nat}:∀{S:List Nat},(∀p∈S,f p=a p)->(S.map f).sum=(S.map a).sum:=λh=>by rw[TX h]
theorem uf{f c:Nat->Nat}{g k:Nat}(i:g≠k):∀{S:List Nat},S.Nodup->g∈S->k∈S->c g+c k=f g+f k->(∀p∈S,p≠g->p≠k->c p=f p)->(S.map c).sum=(S.map f).sum
 |[],_,h,_,_,_=>by simp at h
 |x::r,b,w,A,e,h=>by
  rw[Dy]at b;have n:∀{u v:Nat}{S:List Nat},S.Nodup->v∈S->u∉S->(∀p∈S,p≠u->p≠v->c p=f p)->(S.map c).sum+f v=(S.map f).sum+c v:=by
   intro u v S;induction S with
   |nil=>intro _ h;simp at h
   |cons z s B=>
    intro b m d t;rw[Dy]at b;simp only[Tf,not_or]at d;simp only[Tp,LK];rcases Tf.mp m with rfl|m
    .have:(s.map c).sum=(s.map f).sum:=Qtx λp a=>t p (Gr _ a) (λz=>d.2 (z▸a)) (λz=>b.1 (z▸a));lia
    .have:=B b.2 m d.2 λp a=>t p (Gr _ a);have C:=t z Tc (Ta d.1) (λy=>b.1 (y▸m));lia
  simp only[Tp,LK];by_cases l:x=g
  .subst l;have j:k∈r:=(Tf.mp A).resolve_left (Ta i);have:=n (u:=x) b.2 j b.1 λp a o q=>h p (Gr _ a) o q;lia
  .by_cases m:x=k
   .subst m;have d:g∈r:=(Tf.mp w).resolve_left i;have:=n (u:=x) b.2 d b.1 λp a o q=>h p (Gr _ a) q o;lia
   .have d:g∈r:=(Tf.mp w).resolve_left (Ta l);have j:k∈r:=(Tf.mp A).resolve_left (Ta m);have:=uf i b.2 d j e λp a=>h p (Gr _ a);have:=h x Tc l m;lia
theorem Iv{f:Nat->Nat}:∀{S:List Nat}{p:Nat},p∈S->f p<=(S.map f).sum
 |x::r,p,h=>by
  simp only[Tp,LK];rcases Tf.mp h with rfl|h
  .lia
  .have:=Iv (f:=f) h;lia
theorem Wx.less{r:Option ρ}(I:Wx wd pt x (pend++[(a,b,r)]))(i:x.zg a≠x.zg b)(d:(lo=a/\hi=b)\/(lo=b/\hi=a))(v:Ch x.up lo cl):
  cls (Y1 wd pt x a b r lo hi cl).1<cls x/\Ja (Y1 wd pt x a b r lo hi cl).1=Ja x/\(Y1 wd pt x a b r lo hi cl).2.length<=Ja x/\(Y1 wd pt x a b r lo hi cl).1.zt.length=x.zt.length+1:=by
 have(J,L):=I.join i d v;have(w,y,_):=I.pnd a b r (by simp);have n:lo∈x.S:=by rcases d with⟨h,_⟩|⟨h,_⟩<;>rw[h]<;>assumption
 have m:hi∈x.S:=by rcases d with⟨_,h⟩|⟨_,h⟩<;>rw[h]<;>assumption
 have c:x.zg lo≠x.zg hi:=by
  rcases d with⟨j,g⟩|⟨j,g⟩<;>rw[j,g]
  .exact i
  .exact Ta i
 have l:=I.ld lo n;have q:=I.idem lo n;have t:=I.ld hi m;have s:=I.idem hi m;have f:∀p∈x.S,(Y1 wd pt x a b r lo hi cl).1.zg p=p->x.zg p=p/\p≠x.zg lo:=λp k e=>by
  rw[L p k]at e;by_cases h:x.zg p=x.zg lo
  .rw[GV h]at e;rw[<-e,s]at h;exact absurd h.symm c
  .rw[Gs h]at e;exact{e,λz=>h (by rw[e];exact z)}
 refine{uF (λp k e=>Ti (f p k (Du e)).1) {x.zg lo,l,Ti q,Td λz=>(f _ l z).2 Xb},?_,?_,by simp[Y1,U8]}
 .refine uf c I.nd l t ?_ λp k j g=>?_
  .have o:¬(Y1 wd pt x a b r lo hi cl).1.zg (x.zg lo)=x.zg lo:=λz=>(f _ l z).2 rfl;have u:(Y1 wd pt x a b r lo hi cl).1.zg (x.zg hi)=x.zg hi:=by rw[L _ t,s,Gs (Ta c)]
   rw[Gs o,GV u,GV q,GV s];have:(Y1 wd pt x a b r lo hi cl).1.Xx (x.zg hi)=x.Xx (x.zg hi)++x.Xx (x.zg lo):=by simp[Y1,U8]
   rw[this,Gk];lia
  .have:(Y1 wd pt x a b r lo hi cl).1.Xx p=x.Xx p:=by simp[Y1,U8,g]
   rw[this];by_cases e:x.zg p=p
   .have o:(Y1 wd pt x a b r lo hi cl).1.zg p=p:=by rw[L p k,Gs (by rw[e];exact j),e]
    rw[GV e,GV o]
   .have o:¬(Y1 wd pt x a b r lo hi cl).1.zg p=p:=λz=>e (f p k z).1;rw[Gs e,Gs o]
 .have j:=scan_len (ρ:=ρ) (ky:=Zv wd pt (Zi {x with zt:=x.zt++[(a,b,r)],Xt:=iy x.Xt a b x.zt.length,up:=X7 x.up hi cl} (x.zg lo) (x.zg hi))) (l:=x.Xx (x.zg lo)) (t:=x.tab) (f:=[]);have g:=Iv (f:=λp=>if x.zg p=p then(x.Xx p).length else 0) l;simp only[q,GV]at g;refine DA j (by simpa[Ja]using g)
end
variable{W ρ:Type}[DecidableEq W]
noncomputable def Xo(pt:Nat->List Nat)(S:List Nat)(q:Nat):List Nat:=S.flatMap λp=>DW ((pt p).count q) p
noncomputable def jq(wd:Nat->W)(pt:Nat->List Nat)(S:List Nat)(k:W×List Nat):Option Nat:=S.find? λp=>decide (Zv wd pt id p=k)
noncomputable def fresh(wd:Nat->W)(pt:Nat->List Nat)(S:List Nat):ia W ρ:={S,id,λp=>[p],Xo pt S,jq wd pt S,[],λ_ _=>Gq,λ_=>Gq}
theorem PF{α:Type}(c:Cn (α:=α) [] p q):p=q:=by
 induction c with
 |refl _=>rfl
 |symm _ a=>exact a.symm
 |trans _ _ a b=>exact a.trans b
 |link m=>simp at m
theorem Ky{b:Nat->W}{a:Nat->List Nat}(nd:S.Nodup)(j:∀p∈S,∀q∈a p,q∈S)(inj:∀p∈S,∀q∈S,b p=b q->a p=a q->p=q):Wx (ρ:=ρ) b a (fresh b a S) [] where
 nd:=nd
 pt_:=j
 ld:=λp h=>h
 idem:=λ_ _=>rfl
 Qc0:=λl r _ p=>by show p∈[l]↔p∈S/\p=l;simp only[Tb];exact{λe=>{e▸r,e},λe=>e.2}
 Qnr:=λl _ _=>by simp[fresh]
 Qj2:=λl _ p g=>by have(u,n,h):=EC.mp g;rw[RC]at h;rw[h.2];exact n
 Qzz:=λp g q i=>EC.mpr {p,g,RC.mpr {by have:=List.count_pos_iff.mpr i;show(a p).count q≠0;lia,1}}
 tabS:=λk u h=>by
  have h:S.find? (λp=>decide (Zv b a id p=k))=Ga u:=h;have d:=Sx h;have f:Zv b a id u=k:=Du (by simpa using Fy h);subst f;exists d,1,λq i=>?_
  .simp only[Zv,Fq]at i;exact j u d q i
  .simp[Zv,fresh]
 Qtd:=λp g=>by
  show∃u,S.find? (λq=>decide (Zv b a id q=Zv b a id p))=Ga u/\_;cases e:S.find? (λq=>decide (Zv b a id q=Zv b a id p))with
  |none=>have:=RD.mp e p g;simp at this
  |some u=>have d:=Sx e;have f:Zv b a id u=Zv b a id p:=Du (by simpa using Fy e);simp only[Zv,Fq,Ek]at f;exact{u,1,.zg d g (inj u d p g f.1 f.2)}
 pnd:=λ_ _ _ h=>by simp at h
 fst:={λ_ _ h=>by simp[fresh]at h,λ_ _ _ h=>by simp[fresh]at h,λ_ _ _ _ h=>by simp[fresh]at h,λ_ _ _ _ h=>by simp[fresh]at h,λp _=>{[p],.top Xb},λ_ _ h=>by simp[fresh]at h}
 lnk:=λ_ _ _ _ h=>by simp[fresh]at h
 conn:=λp _ q _=>{λ(e:p=q)=>by subst e;exact .refl _,λc=>PF c}
 root:=λp q l m _ _ d f=>by have n:l=[p]:=d.uniq (.top Xb);have o:m=[q]:=f.uniq (.top Xb);subst n o;simp[Yf,fresh]
theorem VJ(a:Nat->List Nat)(S:List Nat)(p q:Nat):Xo a (S++[p]) q=Xo a S q++DW ((a p).count q) p:=by simp[Xo]
theorem YV(b:Nat->W)(a:Nat->List Nat)(c:∀q∈S,Zv b a id q≠Zv b a id p)(k:W×List Nat):jq b a (S++[p]) k=if k=Zv b a id p then Ga p else jq b a S k:=by
 unfold jq;rw[List.find?_append];by_cases h:k=Zv b a id p
 .rw[GV h];have:S.find? (λp=>decide (Zv b a id p=k))=Gq:=RD.mpr λq d=>by have:=c q d;simp[h,this]
  rw[this];simp[h]
 .rw[Gs h];have:[p].find? (λp=>decide (Zv b a id p=k))=Gq:=by simp[Ta h]
  rw[this,Option.or_none]
end Nt
namespace Sb
open PySem PySem.Spec PyProof.Rows L2 Nt
variable{p:Nat}{S:List Nat}{f:Nat->V}{b:Gd}
def ki(p:Nat):Wi:=.inl (p:Int)
noncomputable def dS(S:List Nat)(f:Nat->V):List (Wi×V):=S.map λp=>(ki p,f p)
theorem Ip{q:Nat}(h:ki p=ki q):p=q:=by unfold ki at h;injection h with h;lia
theorem YZ(p:Nat):kV (ki p)=jv p:=rfl
theorem j6(h:p∈S):Xq (dS S f) (ki p)=Ga (f p):=by
 induction S with
 |nil=>simp at h
 |cons q r b=>
  by_cases e:q=p
  .subst e;exact Wd (p:=(ki q,f q)) rfl
  .have a:¬(ki q=ki p):=λz=>e (Ip z);show Xq ((ki q,f q)::dS r f) (ki p)=_;rw[Xz (p:=(ki q,f q)) a];exact b ((Tf.mp h).resolve_left λz=>e z.symm)
theorem qT(h:p∉S):Xq (dS S f) (ki p)=Gq:=by
 induction S with
 |nil=>exact qc
 |cons q r b=>simp only[Tf,not_or]at h;have a:¬(ki q=ki p):=λz=>h.1 (Ip z).symm;show Xq ((ki q,f q)::dS r f) (ki p)=_;rw[Xz (p:=(ki q,f q)) a];exact b h.2
theorem AO:(Xq (dS S f) (ki p)).isSome=decide (p∈S):=by
 by_cases h:p∈S
 .rw[j6 h,Ti h];rfl
 .rw[qT h,Td h];rfl
theorem V8(S:List Nat)(f:Nat->V):(dS S f).length=S.length:=by simp[dS]
theorem oK{v:V}(h:p∈S):V2 (dS S f) (ki p) v=dS S (λq=>if q=p then v else f q):=by
 unfold V2;have a:((dS S f).any λb=>decide (b.1=ki p))=Gi:=by rw[Jx,j6 h];rfl
 rw[GV a];unfold dS;rw[Dj];refine TX λq _=>?_;show(if ki q=ki p then(ki q,v)else(ki q,f q))=(ki q,if q=p then v else f q);by_cases e:q=p
 .subst e;rw[GV Xb,GV rfl]
 .rw[Gs (λz=>e (Ip z)),Gs e]
theorem jY{v:V}(h:p∉S):V2 (dS S f) (ki p) v=dS (S++[p]) (λq=>if q=p then v else f q):=by rw[Qvt _ (qT h)];unfold dS;rw[TY,Tp,Ly];show _=_++[(ki p,if p=p then v else f p)];rw[GV rfl];congr 1;refine TX λq a=>?_;show _=(ki q,if q=p then v else f q);rw[Gs (λz:q=p=>h (z▸a))]
theorem Vp{g:Nat->V}(h:∀p∈S,f p=g p):dS S f=dS S g:=TX λp a=>by rw[h p a]
inductive Ie where
 |told (n:Nat)
 |asked
def kP(H:Hp)(v:V):Option Ie->Prop
 |none=>v=.non
 |some (.told n)=>∃c,v=.ref c/\H c=Ga (.tup [.str "told",jv n])
 |some .asked=>∃c,v=.ref c/\H c=Ga (.tup [.str "asked"])
theorem kP.Qv{H d:Hp}(e:Q7 H d){v:V}:∀{r:Option Ie},kP H v r->kP d v r
 |none,h=>h
 |some (.told n),⟨c,a,b⟩=>{c,a,e _ _ b}
 |some .asked,⟨c,a,b⟩=>{c,a,e _ _ b}
abbrev Lk:=Nat×Nat×Option Ie
inductive On(H:Hp)(v:V)(l:Lk):Prop
 |mk (c:_) (r:_) (h0:v=.ref c) (h1:H c=Ga (.tup [jv l.1,jv l.2.1,r])) (h2:kP H r l.2.2):On H v l
theorem On.Qv{H a:Hp}(e:Q7 H a){v:V}{l:Lk}(h:On H v l):On a v l:=by have(c,r,b,d,f):=h;exact{c,r,b,e _ _ d,f.Qv e}
abbrev Nn:=ia TQ Ie
def Yr(fs:List Fm)(p:Nat):TQ:=(fs.getD p (Lp,[])).1
def Zw(fs:List Fm)(p:Nat):List Nat:=(fs.getD p (Lp,[])).2
theorem kK{a:List Fm}(h:p<a.length):a[p]?=Ga (Yr a p,Zw a p):=by unfold Yr Zw;rw[DL,Ge h];rfl
structure Na where
 f:Gd
 l:Gd
 m:Gd
 u:Gd
 t:Gd
 k:Gd
 a:Gd
 v:Gd
 ml:Nat->Gd
 ul:Nat->Gd
noncomputable def Xs(A:Na):List (TQ×V):=[("forms",.ref A.f),("leads",.ref A.l),("members",.ref A.m),("users",.ref A.u),("table",.ref A.t),("links",.ref A.k),("link_at",.ref A.a),("above",.ref A.v)]
def ov:Option Nat->V
 |none=>.non
 |some p=>jv p
structure Ap(A:Na)(S:List Nat):Prop where
 lm:A.l≠A.m
 lu:A.l≠A.u
 lv:A.l≠A.v
 mu:A.m≠A.u
 mv:A.m≠A.v
 uv:A.u≠A.v
 kf:A.k≠A.f
 mm:∀p∈S,∀q∈S,A.ml p=A.ml q->p=q
 uu:∀p∈S,∀q∈S,A.ul p=A.ul q->p=q
 mul:∀p∈S,∀q∈S,A.ml p≠A.ul q
 mkf:∀p∈S,A.ml p≠A.k/\A.ml p≠A.f
 ukf:∀p∈S,A.ul p≠A.k/\A.ul p≠A.f
structure Yn(P:Gn)(w:Tg)(C:Gd)(H:Hp)(n:Gd)(A:Na)(fs:List Fm)(tb:Nat)(x:Nn):Prop where
 ob:∃dx,H n=Ga (.ins C dx (Xs A))
 fo:∃ws,H A.f=Ga (.lst ws)/\Dg (Oj H) ws fs
 le:H A.l=Ga (.dK (dS x.S λp=>jv (x.zg p)))
 me:H A.m=Ga (.dK (dS x.S λp=>.ref (A.ml p)))
 us:H A.u=Ga (.dK (dS x.S λp=>.ref (A.ul p)))
 ta:∃zw,DH P w H A.t zw/\zw.length<=tb/\∀k:Fm,Yt zw (Xp k)=(x.tab k).map jv
 li:∃ls,H A.k=Ga (.lst ls)/\Dg (On H) ls x.zt
 at_:∃zw,H A.a=Ga (.dT zw)/\zw.length<=2*x.zt.length/\∀i j:Nat,Xq zw [ki i,ki j]=(x.Xt i j).map jv
 ab:H A.v=Ga (.dK (dS x.S λp=>ov (x.up p)))
 ml:∀p∈x.S,H (A.ml p)=Ga (.lst ((x.mem p).map jv))
 ul:∀p∈x.S,H (A.ul p)=Ga (.lst ((x.Xx p).map jv))
 ap:Ap A x.S
def hV(A:Na)(S:List Nat)(b:Gd):Prop:=b=A.l\/b=A.m\/b=A.u\/b=A.t\/b=A.k\/b=A.a\/b=A.v\/∃p∈S,b=A.ml p\/b=A.ul p
structure Ov(A:Na)(S:List Nat)(H H':Hp):Prop where
 keep:∀b o,H b=Ga o->¬hV A S b->H' b=Ga o
 there:∀b,H' b=Gq->H b=Gq
theorem Ov.trans{A:Na}{H a c:Hp}(x:Ov A S H a)(y:Ov A S a c):Ov A S H c:={λb o e h=>y.keep b o (x.keep b o e h) h,λb h=>x.there b (y.there b h)}
theorem Ov.of{A:Na}{H a:Hp}(g:Q9 H a):Ov A S H a:={λb o e _=>g b o e,λb h=>g.free h}
theorem Ov.zj{A:Na}{S:List Nat}{H:Hp}{b:Gd}{o:HO}(h:hV A S b):Ov A S H (zj H b o):=⟨λc u e a=>by rw[Qh (show c≠b fromλz=>a (by rw[z];exact h))];exact e,λc a=>by
 by_cases e:c=b
 .subst e;rw[Qb]at a;cases a
 .rw[Qh e]at a;exact a⟩
section
variable{P:Gn}{w:Tg}{C:Gd}{H H':Hp}{n:Gd}{A:Na}{fs:List Fm}{tb:Nat}{x:Nn}
theorem Yn.own(X:Yn P w C H n A fs tb x)(h:hV A x.S b):(∃a,H b=Ga (.dK a))\/(∃a,H b=Ga (.dT a))\/(∃o,H b=Ga (.ext o))\/∃d,H b=Ga (.lst d):=by
 have(a,D,_):=X.ta;have(f,L,_):=X.li;have(e,T,_):=X.at_;rcases h with rfl|rfl|rfl|rfl|rfl|rfl|rfl|⟨p,c,rfl|rfl⟩
 .exact .inl {_,X.le}
 .exact .inl {_,X.me}
 .exact .inl {_,X.us}
 .exact .inr (.inr (.inl {_,D.at_}))
 .exact .inr (.inr (.inr {_,L}))
 .exact .inr (.inl {_,T})
 .exact .inl {_,X.ab}
 .exact .inr (.inr (.inr {_,X.ml p c}))
 .exact .inr (.inr (.inr {_,X.ul p c}))
theorem Yn.sv(X:Yn P w C H n A fs tb x){a:List V}(h:H b=Ga (.tup a)):¬hV A x.S b:=λz=>by rcases X.own z with⟨_,e⟩|⟨_,e⟩|⟨_,e⟩|⟨_,e⟩<;>rw[h]at e<;>cases e
theorem Yn.OW(X:Yn P w C H n A fs tb x)(h:H b=Gq):¬hV A x.S b:=λz=>by rcases X.own z with⟨_,e⟩|⟨_,e⟩|⟨_,e⟩|⟨_,e⟩<;>rw[h]at e<;>cases e
theorem Yn.same(g:Q9 H H')(X:Yn P w C H n A fs tb x):Yn P w C H' n A fs tb x:=by have(j,s):=X.ob;have(t,k,l):=X.fo;have(b,D,f,i):=X.ta;have(r,o,q):=X.li;have(m,d,e):=X.at_;have c:=Q7.of g;exact{{j,g _ _ s},{t,g _ _ k,Qr l λ_ _ h=>h.Qv c},g _ _ X.le,g _ _ X.me,g _ _ X.us,{b,{g _ _ D.at_,Zp c D.keys},f,i},{r,g _ _ o,Qr q λ_ _ h=>h.Qv c},{m,g _ _ d,e},g _ _ X.ab,λp a=>g _ _ (X.ml p a),λp a=>g _ _ (X.ul p a),X.ap}
theorem Yn.keep(X:Yn P w C H n A fs tb x)(a:∀b o,H b=Ga o->(hV A x.S b\/b=A.f\/b=n)->H' b=Ga o)(d:Q7 H H'):Yn P w C H' n A fs tb x:=by
 have(j,s):=X.ob;have(t,k,l):=X.fo;have(c,D,g,i):=X.ta;have(r,o,q):=X.li;have(m,e,f):=X.at_;refine⟨{j,a _ _ s (.inr (.inr Xb))},{t,a _ _ k (.inr (.inl Xb)),Qr l λ_ _ h=>h.Qv d},a _ _ X.le (.inl (.inl Xb)),a _ _ X.me (.inl (.inr (.inl Xb))),a _ _ X.us (.inl (.inr (.inr (.inl Xb)))),{c,{a _ _ D.at_ (.inl (.inr (.inr (.inr (.inl Xb))))),Zp d D.keys},g,i},
  {r,a _ _ o (.inl (.inr (.inr (.inr (.inr (.inl Xb)))))),Qr q λ_ _ h=>h.Qv d},{m,a _ _ e (.inl (.inr (.inr (.inr (.inr (.inr (.inl Xb))))))),f},a _ _ X.ab (.inl (.inr (.inr (.inr (.inr (.inr (.inr (.inl Xb)))))))),λp b=>?_,λp b=>?_,X.ap⟩
 .exact a _ _ (X.ml p b) (.inl (.inr (.inr (.inr (.inr (.inr (.inr (.inr {p,b,.inl Xb}))))))))
 .exact a _ _ (X.ul p b) (.inl (.inr (.inr (.inr (.inr (.inr (.inr (.inr {p,b,.inr Xb}))))))))
theorem Yn.mono{a:Nat}(h:tb<=a)(X:Yn P w C H n A fs tb x):Yn P w C H n A fs a x:=by have(b,D,d,c):=X.ta;exact{X.ob,X.fo,X.le,X.me,X.us,{b,D,by ext,c},X.li,X.at_,X.ab,X.ml,X.ul,X.ap}
end
end Sb
namespace L2
open PySem PySem.Spec PyProof.Rows
variable{X:Cx}{σ:St}{H:Hp}
inductive AG(P:Gn)(w:Tg)(x:V)(vs:List V)(H:Hp)(Q:VK):Prop
 |mk (d:_) (b:_) (dv:_) (zw:_) (k:_) (h0:x=.ref d) (h1:vs=[.ref b,dv]) (h2:DH P w H d zw) (h3:iu H b k) (h4:zw.length<TH) (h5:(∀v,Yt zw k=Ga v->Q v H)) (h6:(Yt zw k=Gq->Q dv (zj H d (Uv P w d (zw++[(k,b,dv)]))))):AG P w x vs H Q
def XM(P:Gn)(w:Tg):V->List V->Hp->VK->Prop:=λx a H Q=>AG P w x a H Q
theorem Qnn(a:X.A.units+64<EY):iO X "dict.setdefault" (XM X.prog X.w):=by
 intro o s Y H x W v V Q I R P h;have(d,b,i,a,k,rfl,rfl,D,G,U,M,N):=h;cases(show v=Tk d from R);have(S,t,rfl,O,r):=vals2 P;cases(show S=Tk b from O);have(z,m,j,c,l):=jU I D.at_ D.keys;have L:a.length=j.length:=GQ c;refine MZ F.slot_dict_setdefault l.typeIs F.entry_dict_setdefault (F.args_dict_setdefault_3 _ _ _) (Vs (V3 X.prog X.w) d b m t) {by first|(show X.A.units+1+10<EY;lia)|(show X.A.units+1+1+10<EY;lia),k,j,G.is I,l,by lia,λp K=>?_,λJ T g hs=>?_}
 .have e:=c.val k;rw[K]at e;cases q:Yt a k with
  |none=>rw[q]at e;exact(show False from e).elim
  |some y=>rw[q]at e;exact{y,H,I.tok _,e,M y q}
 .have e:=c.val k;rw[J]at e;cases q:Yt a k with
  |some y=>rw[q]at e;exact(show False from e).elim
  |none=>have(ob,w,u,n,A,B,C,_,E):=g;have f:KX (a++[(k,b,i)]) (j++[(k,b,t)]):=E2 c ⟨Xb,Xb,r⟩;refine{i,_,R7 (ob:=Uv X.prog X.w d (a++[(k,b,i)])) I (by rw[D.at_];exact DJ) hs ⟨ob,n⟩ (qo {by rw[Gk,Gy];lia,m,_,f,ob,w,u,n,A,B,C,E}),r,N q}
section
variable{X:Cx}{o e:D4}{es:List D4}{to:TE}{t:TA}{name:TQ}{apos cpos:M3}{id:String}{r:V->List V->Hp->VK->Prop}
theorem uZ{b:List (Gd×S8)}{s:Gz}{d:Gd}{c:List KE}(I:zv X b σ H s)(e:H d=Ga (Uv X.prog X.w d c)):
  s.TypeIs (.ref d) "dict"/\∀a,Tk d=.ref a->∃h,s.heap.get? a=Ga h/\h.dict=Gq:=by
 have(z,y,n,r,o,j,i,f,g,k,l,m):=kr I e;exact{{o,f,g.1},λa e=>by cases e;exact{o,f,g.2.1}}
def zi(P:Gn)(w:Tg)(r:V->List V->Hp->VK->Prop)(to:TE)(t:TA):TE:=λσ H Q=>to σ H λx H1=>(∃d zw,x=.ref d/\H1 d=Ga (Uv P w d zw))/\t σ H1 λxs H2=>r x xs H2 Q
theorem rC(slot:Slot "dict" name id)(i:typeOf (.builtin id)=pure (.type "method_descriptor"))(z:iO X id r)(A:PE X o to)(y:PA X (e::es) t)
  (c:attributeBase o name X.env (eval o X.env)=eval o X.env:=by rfl)
  (g:((Sf cpos (T4 (e::es) X.env)).all (λx=>!x.1)&&(backToKw cpos (keywordEach [] X.env)).all (λx=>x.1.isSome)
   &&decide ((e::es).length+([]:List RO).length+(if([]:List RO).isEmpty then 0 else 1)<30))=Gi:=by rfl)
  (f:(apos.endLine==cpos.line)=Gi:=by rfl)(hs:T4 (e::es) X.env=(Gx,eval e X.env)::T4 es X.env:=by rfl)(b:(Sf cpos (T4 es X.env)).any (·.1)=Gx:=by rfl):
  PE X (.Call (.Attribute o name apos) (e::es) [] cpos) (zi X.prog X.w r to t):=by
 intro a s j H Q I h;refine MX c g f rfl (Xg (A a s j H _ I h) λv G⟨x,m,k,E,ty,C⟩=>?_);have(d,B,rfl,q):=ty;cases(show v=Tk d from E);have(u,w):=uZ k q;exists "dict",id,SX,slot,i,u,w;have l:=y cpos a G j m _ k C;rw[hs]at l⊢;refine Lc (by show(Gx||(Sf cpos (T4 es X.env)).any (·.1))=Gx;rw[b]<;>rfl) (Nq ?_);exact Xg l λK J⟨L,n,p,F,D⟩=>z a J j n (.ref d) L _ K Q p rfl F D
end
theorem rG{c:TT}{f:TS}{D:Ends}(d:Nat->St->Hp->Prop)(g:∃m,d m σ H)
  (hs:∀m σ H,d m σ H->c σ H λb H1=>if b=Gi then f {D with nx:=λa H'=>∃e,e<m/\d e a H',ct:=λa H'=>∃e,e<m/\d e a H',bk:=D.nx} σ H1 else D.nx σ H1)
  (mono:∀σ H Q e,(∀b H1,Q b H1->e b H1)->c σ H Q->c σ H e):uw c f D σ H:=by
 refine{d,g,λm σ H p=>mono σ H _ _ (λb H1 q=>?_) (hs m σ H p)};cases b with
 |true=>exact{_,λa H' h=>h,q}
 |false=>exact q
theorem zv.turns{a:List (Gd×S8)}{h:List (Option V)}{s:Gz}{h':Heap}{t':Nat}{fp:List Gd}(I:zv X a h H s)(k:∀b o,b∉fp->s.heap.get? b=Ga o->h'.get? b=Ga o)(g:∀b∈fp,ix X a H b):
  zv X a h H {s with heap:=h',toks:=t'}:=by
 have f:∀b u,H b=Ga u->b∉fp:=λb u e z=>by rw[(g b z).1]at e;cases e
 refine I.step (g':=s.gens) (d':=s.drawn) (ch:=fp) (λb t=>?_) (λb o _ _ d e _=>k b o d e) (λb o _ _ d e _=>{o.slots,k b o d e}) (λ_ _ _ _ n=>n)
  (λb o d e=>{o,k b o d e}) (λ_ _ e=>e) (λ_ _ _ e=>e) (λb i e=>{#[],by rw[e];simp}) (λm w=>?_) (λb u e=>?_) I.bare
 .obtain⟨r,i,v,j,l,p⟩:=g b t;exact⟨j,i,l,p⟩
 .obtain⟨o,j,i,l,r⟩:=w;exact{o,j,i,k _ o (λz=>(g _ z).2.1 Xb) l,r}
 .refine(I.Yc b u e).jy (λc v d q=>k c v ?_ q) (λ_ q=>q) λ_ _ q=>q;rcases d with z|z
  .rw[z];exact f b u e
  .exact f c _ z
def mo(K:Gf)(a:Gd):It:=
 {λi H=>∃xs x,Uw K H a xs/\xs[i]?=Ga x,λi H v H'=>∃c x,v=.ref c/\H c=Gq/\(∀xs,Uw K H a xs->xs[i]?=Ga x)/\H'=zj H c (.tup [.int (i:Int),x]),λi H=>∃xs,Uw K H a xs/\xs.length<=i}
theorem ZT{P:Gn}{ae:Tg}{K:Gf}{V:List D4}{k:Nat}{ad:M3}(a e d:Gd)(N:e≠d):jf P ae K (.Tuple V k ad) (mo K a) [e,d] e (λi h=>(∃l,IsEnum h e d i l)/\h.IsListIter d a i) where
 mem:=by simp
 obj:=λi h g b c=>by
  have((l,f),o,E,C,F):=g;rcases Tf.mp c with rfl|c
  .exact{_,f,λI z=>nomatch z}
  .have:b=d:=by simpa using c
   subst this;exact{o,E,λI z=>by rw[F]at z;cases z}
 keep:=λi h h' g k=>by have((l,f),m):=g;exact{{l,k e (by simp) _ f},m.at λo x=>k d (by simp) o x}
 item:=by
  intro X B hw A C i G s Q n R j r g D;subst B hw A;have((l,f),m):=g;have(xs,x,t,v):=D;have(ac,H,p,hz):=j.list t;have(u,hu,ru):=H.get v;refine wpAny_pyNext_enum_item f m p.isList (x:=u) (by simpa using hu) N λh' E aa L ag hk=>{0,?_};refine wpAny_letOwnedTupleGo_enum E λJ Y F=>?_;have O:e<s.heap.objs.size:=Tn f;have Z:d<s.heap.objs.size:=by have(_,x,_):=m;exact Tn x
  have af:J.get? s.heap.objs.size=Ga {cls:=.type "tuple",data:=.seq #[.int i s.toks,u]}:=(F.2 _ (DB O)).trans L;have ab:n s.heap.objs.size=Gq:=j.Yc.fresh (GJ _);have S:zv X G Q (zj n s.heap.objs.size (.tup [.int (i:Int),x])) {s with heap:=s.heap.push {cls:=.type "tuple",data:=.seq #[.int i s.toks,u]},toks:=s.toks}:=
   j.laid (a:=s.heap.objs.size) (o:=.tup [.int (i:Int),x]) (t':=s.toks) (λ_ _ q=>Gp _ q) (GJ _) {Yy,[.int i s.toks,u],.cons {40} (.cons ru .nil),_,To _ Xb,10}
  have I:∀b∈[e,d],ix X G (zj n s.heap.objs.size (.tup [.int (i:Int),x])) b:=λb c=>by
   have M:b<s.heap.objs.size:=by
    rcases Tf.mp c with rfl|c
    .exact O
    .have:b=d:=by simpa using c
     subst this;exact Z
   refine{?_,(r b c).2};rw[Qh (T2 M)];exact(r b c).1
  have T:=S.turns (h':=J) (t':=s.toks+1) (fp:=[e,d]) (λb o c w=>?_) I
  .refine{.ref s.heap.objs.size,_,T,1,{_,x,1,ab,λU M=>by rw[j.rP M t];exact v,1},{{u,by simpa using Y},aa.at λo y=>(F.2 d N.symm).trans y},λb c=>(I b c).1}
  .have M:b≠e:=λz=>c (by simp[z]);have W:b≠d:=λz=>c (by simp[z]);refine(F.2 b M).trans ?_;rcases Heap.get?_push_cases (show(s.heap.push {cls:=.type "tuple",data:=.seq #[.int i s.toks,u]}).get? b=Ga o from w)with⟨rfl,rfl⟩|U
   .exact L
   .exact hk b o M W U
 done:=by intro X B hw A C i G s Q n R j r g D;subst B hw A;have((l,f),m):=g;have(xs,t,I):=D;have(ac,H,p,hz):=j.list t;have F:=H.length;refine wpAny_pyNext_enum_end (j.ok.hd C) f m p.isList (El (by rw[Tq];lia)) λh' v=>{1,?_};exact j.turns (t':=s.toks) (fp:=[e,d]) (λb o c w=>v b o (λz=>c (by simp[z])) w) r
 self:=λ_ _ _ _ _ g h=>by have((l,f),_):=g;exact RV f h
inductive Az(K:Gf)(R:It->Hp->Prop)(vs:List V)(H1:Hp):Prop
 |mk (a:_) (xs:_) (h0:vs=[.ref a]) (h1:Uw K H1 a xs) (h2:R (mo K a) H1):Az K R vs H1
def Q5i(K:Gf)(ta:TA):TI:=λσ H R=>ta σ H λa H1=>Az K R a H1
theorem Ax{g:List D4}{k:Nat}{l:M3}{a:D4}{w:TA}{p j:M3}(B:Gl X "enumerate")(D:X.mg "enumerate"=Gq)(A:PA X [a] w)(hs:T4 [a] X.env=[(Gx,eval a X.env)]:=by rfl):PI X (.Tuple g k l) (.Call (.Name "enumerate" p) [a] [] j) (Q5i X.K w):=by
 intro f s x H R I h;refine JV (Uy I B D boot_enumerate (ED (Xg (A j f s x H _ I h) λP d⟨Q,t,m,L,K⟩=>?_) hs Xb));have(b,S,e,E,q):=K;subst e;have(u,rfl,M):=vals1 L;cases(show u=Tk b from M);have(G,O,J,N):=m.list E;refine call_enumerate_list J.isList λz v r F C=>?_;have y:zv X f x t {d with heap:=z,toks:=d.toks}:=m.kept λb o e=>C b o e;refine RV v {d.heap.objs.size+1,[d.heap.objs.size+1,d.heap.objs.size],2,t,1,y,ZT b (d.heap.objs.size+1) d.heap.objs.size (Bo _),{{_,v},r},λc n=>?_,q};have i:d.heap.objs.size<=c:=by
  rcases Tf.mp n with e|n
  .rw[e];exact LW _
  .have:c=d.heap.objs.size:=by simpa using n
   rw[this];exact GJ _
 exact m.jk i (m.Yc.fresh i)
theorem An{K:Gf}{a:Gd}{xs:List V}{g:TG}{k:TS}{D:Ends}(b:Nat->St->Hp->Prop)(l:b 0 σ H)
  (o:∀i σ H,i<=xs.length->b i σ H->Uw K H a xs)
  (hs:∀i x c σ H,xs[i]?=Ga x->b i σ H->H c=Gq->g (.ref c) σ (zj H c (.tup [.int (i:Int),x])) λh H2=>k {D with nx:=b (i+1),ct:=b (i+1),bk:=D.nx} h H2)
  (n:∀σ H,b xs.length σ H->D.nx σ H):
  ∃W:Nat->Nat->St->Hp->Prop,(∃m,W 0 m σ H)/\∀i m σ H,W i m σ H->((mo K a).stop i H/\D.nx σ H)\/((mo K a).go i H/\∃N:St->Hp->Prop,(∀f d,N f d->∃e,e<m/\W (i+1) e f d)/\∀x d,(mo K a).yld i H x d->g x σ d λh H2=>k {D with nx:=N,ct:=N,bk:=D.nx} h H2):=by
 exists λi m σ H=>m=xs.length - i/\i<=xs.length/\b i σ H,{0,Tu _,l};rintro i m σ H ⟨rfl,hi,pv⟩;have q:=o i σ H hi pv;by_cases j:i<xs.length
 .refine .inr {{xs,xs[i],q,by simp[j]},b (i+1),λf d r=>{xs.length - (i+1),by ext,1,j,r},λv d y=>?_};have(c,x,rfl,e,p,rfl):=y;exact hs i x c σ H (p xs q) pv e
 .have e:i=xs.length:=by ext
  subst e;exact .inl {{xs,q,GJ _},n σ H pv}
end L2
namespace K06
open PySem L2 Sb Nt
variable{f C:Gd}{fd:Do}
structure Jj(K:Gf)(mg:TQ->Option Gj)(C:Gd):Prop where
 cl:ic K C
 Qe8:Xf K C "forms"
 Vz:Xf K C "leads"
 members:Xf K C "members"
 Qf2:Xf K C "users"
 table:Xf K C "table"
 zt:Xf K C "links"
 Qde:Xf K C "link_at"
 above:Xf K C "above"
 mgC:mg "Net"=Ga (.ref C)
theorem Jz(A:Na):(Xs A).lookup ("forms":TQ)=Ga (.ref A.f):=by rfl
theorem Xd(A:Na):(Xs A).lookup ("leads":TQ)=Ga (.ref A.l):=by rfl
theorem V1(A:Na):(Xs A).lookup ("members":TQ)=Ga (.ref A.m):=by rfl
theorem Rv(A:Na):(Xs A).lookup ("users":TQ)=Ga (.ref A.u):=by rfl
theorem wA(A:Na):(Xs A).lookup ("table":TQ)=Ga (.ref A.t):=by rfl
theorem J1(A:Na):(Xs A).lookup ("links":TQ)=Ga (.ref A.k):=by rfl
theorem qC(A:Na):(Xs A).lookup ("link_at":TQ)=Ga (.ref A.a):=by rfl
theorem nD(A:Na):(Xs A).lookup ("above":TQ)=Ga (.ref A.v):=by rfl
theorem qU(A:Na):(Xs A).lookup ("take_in":TQ)=Gq:=by rfl
theorem pU(A:Na):(Xs A).lookup ("key_of":TQ)=Gq:=by rfl
theorem qO(A:Na):(Xs A).lookup ("equal":TQ)=Gq:=by rfl
theorem ym(A:Na):(Xs A).lookup ("merge":TQ)=Gq:=by rfl
theorem Qik(A:Na):(Xs A).lookup ("merge_link":TQ)=Gq:=by rfl
theorem vR(A:Na):(Xs A).lookup ("hang":TQ)=Gq:=by rfl
theorem Ae(A:Na):(Xs A).lookup ("give_over":TQ)=Gq:=by rfl
theorem oZ(A:Na):(Xs A).lookup ("way":TQ)=Gq:=by rfl
theorem A0(A:Na):(Xs A).lookup ("way_up":TQ)=Gq:=by rfl
theorem yf(A:Na):(Xs A).lookup ("rows":TQ)=Gq:=by rfl
theorem X5{H:Hp}{a:Gd}{S:List Nat}{f:Nat->V}{p:Nat}(h:H a=Ga (.dK (dS S f)))(b:p∈S):Vu H a (jv p) (Ga (f p)):=by have:=Vu.k (k:=ki p) h;rw[j6 b,YZ]at this;exact this
theorem nO{i j:Nat}:decide (jv i=jv j)=decide (i=j):=by
 by_cases h:i=j
 .subst h;simp
 .rw[Td h,Td λz=>h (K6 z)]
inductive yU(P:Gn)(w:Tg)(C:Gd)(vs:List V)(H:Hp)(Q:VK):Prop
 |mk (n:Gd) (A:Na) (fs:List Fm) (tb:Nat) (x:Nn) (p:Nat) (q:Nat) (h0:vs=[.ref n,jv p,jv q]) (h1:Yn P w C H n A fs tb x) (h2:p∈x.S) (h3:q∈x.S) (h4:Q (.bl (decide (x.zg p=x.zg q))) H):yU P w C vs H Q
def oi(P:Gn)(w:Tg)(C:Gd):Sp:=λa H Q _=>yU P w C a H Q
inductive zQ(P:Gn)(w:Tg)(C:Gd)(vs:List V)(H:Hp)(Q:VK):Prop
 |mk (n:Gd) (A:Na) (fs:List Fm) (tb:Nat) (x:Nn) (p:Nat) (h0:vs=[.ref n,jv p]) (h1:Yn P w C H n A fs tb x) (h2:p<fs.length) (h3:(∀q∈Zw fs p,q∈x.S)) (h4:(Zw fs p).length<=1000000) (h5:∀(c:Gd)(H':Hp),Q9 H H'->H c=Gq->Oj H' (.ref c) (Zv (Yr fs) (Zw fs) x.zg p)->Q (.ref c) H'):zQ P w C vs H Q
def m9(P:Gn)(w:Tg)(C:Gd):Sp:=λa H Q _=>zQ P w C a H Q
inductive wc(P:Gn)(w:Tg)(C:Gd)(vs:List V)(H:Hp)(Q:VK):Prop
 |mk (n:Gd) (A:Na) (fs:List Fm) (tb:Nat) (x:Nn) (lo:Nat) (hi:Nat) (cl:List Nat) (h0:vs=[.ref n,jv lo,jv hi]) (h1:Yn P w C H n A fs tb x) (h2:Ch x.up lo cl) (h3:(∀p∈cl,p∈x.S)) (h4:x.S.length<=1000000) (h5:∀(H':Hp),Yn P w C H' n A fs tb {x with up:=X7 x.up hi cl}->(∀b o,H b=Ga o->b≠A.v->H' b=Ga o)->(∀b,H' b=Gq->H b=Gq)->Q .non H'):wc P w C vs H Q
def rg(P:Gn)(w:Tg)(C:Gd):Sp:=λa H Q _=>wc P w C a H Q
inductive wy(P:Gn)(w:Tg)(C:Gd)(vs:List V)(H:Hp)(Q:VK):Prop
 |mk (n:Gd) (A:Na) (fs:List Fm) (tb:Nat) (x:Nn) (p:Nat) (l:List Nat) (h0:vs=[.ref n,jv p]) (h1:Yn P w C H n A fs tb x) (h2:Ch x.up p l) (h3:(∀q∈l,q∈x.S)) (h4:l.length<=1000000) (h5:∀(r:Gd)(H':Hp),Q9 H H'->H r=Gq->H' r=Ga (.lst (l.map jv))->Q (.ref r) H'):wy P w C vs H Q
def tj(P:Gn)(w:Tg)(C:Gd):Sp:=λa H Q _=>wy P w C a H Q
section
variable{P:Gn}{w:Tg}{K:Gf}{mg:TQ->Option Gj}{base:Heap}
theorem Pu:Q8 ["self","one","other"] ["self","one","other"] (Qo rJ):=by eq_refl
theorem Qs5(F:Wg K "equal" "Net.equal" rJ f fd)(T:Jj K mg C):Q3 P w K mg base Ya 1 f fd ["self","one","other"] (oi P w C):=by
 refine F.ok Pu (λo H Q E h=>?_) (λe A a s H o Q E l h=>?_)
 .obtain⟨n,A,i,m,x,p,q,rfl,_⟩:=h;rfl
 have(n,A,i,m,x,p,q,rfl,X,j,k,g):=h;have c:=Jw l;exists _,Qg (Qt (Vh Xu (Ye c (Qx {0} rfl) {1} (λ_ _=>rfl)) (Ye c (Qx {0} rfl) {2} (λ_ _=>rfl)) (Qu _)));have(b,d):=X.ob;exists 0,n,C,b,30,d,T.cl,T.Vz,Xd _,0,A.l,0,X5 X.le j,0,n,C,b,30,d,T.cl,T.Vz,Xd _,0,A.l,0,X5 X.le k,1;rw[nO];exact g
theorem oj:Q8 ["self","place","form"] ["self","place"] (Qo jX):=by eq_refl
theorem Ak:(["part","self"]:List TQ).Nodup:=by decide+kernel
theorem YW(F:Wg K "key_of" "Net.key_of" jX f fd)(h:Jj K mg C)(M:Ra mg):Q3 P w K mg base Ya 1 f fd ["self","place"] (m9 P w C):=by
 refine F.ok oj (λvs o O N d=>?_) (λac e ad s o vs O N Y d=>?_)
 .obtain⟨n,e,a,tb,x,p,rfl,_⟩:=d;rfl
 have(n,e,a,tb,x,p,rfl,X,B,W,hl,T):=d;have Z:=Jw Y;have nd:=oj.nd;exists _,Qc (Qz 2 nd (Qn Zd (Qx {0} rfl) {1}))
  (Qg (Qt (Ze (Qa (Qn Qs {2} Qi) (Qa (X0 Uh rfl M.tuple Di (Qa
   (Ug (te:=mf (nQ K (Ul 1) "leads") (Ul 0)) (own:=["part"]) (fv:=[(0,"self")]) rfl (S:=(by eq_refl:Wb (Qo jX) _)) (.cons rfl (DX Xb) rfl .nil) (Jd (Qn Qs {2} Qi))
    (λ_ _ _ _ _=>Yz (i:=0) Ak rfl (DX Xb) (Sq Xb)) (λ_ _ _ _ _=>Wk) (λ_ _ _ _ _=>Ye Z (Qx {1} rfl) {0} (λ_ _=>rfl))) Qd)) Qd)))))
 subst_vars;have(t,H):=X.ob;have(J,S,u):=X.fo;have hw:p<J.length:=by rw[GQ u];exact B
 have(y,E,c,j,R,v,z):=Qy u (Ge hw);and_intros;rw[kK B]at E;cases E;have Q:Oh [V.str (Yr a p),V.ref j] (1:Int)=Ga (.ref j):=Xv;exists 0,n,C,t,30,H,h.cl,h.Qe8,Jz _,0,e.f,J,301,Qk S,Zk (Ge hw);rw[R];refine{0,c,201,Qj v,Ol _ _,0,c,201,Qj v,Q,j,1,{_,Qj z},λab D=>?_};have s3:=Qf D (.lst []);refine Ib (K:=K) (a:=j) (xs:=(Zw a p).map jv) (small (by rw[Gv];lia)) (λi l m g=>(∃L,m=[L,Ga (.ref n)])/\Q9 o g/\l=((Zw a p).take i).map λq=>jv (x.zg q))
  {{40},s3,by simp} (λi l m g _ d=>Qj (d.2.1 _ _ z)) ?_ ?_
 .rintro i y l m g hi aa ⟨⟨L,rfl⟩,b,rfl⟩ k;rw[Ts]at hi;cases eq:(Zw a p)[i]? with
  |none=>rw[eq]at hi;cases hi
  |some q=>
   rw[eq]at hi;cases hi;exists 0,n,C,t,30,b _ _ H,h.cl,h.Vz,Xd _,0,e.l,0,X5 (b _ _ X.le) (W q (Gc eq)),k,{40},λA G r=>?_
   .rw[Qh (Qe r D)];exact b _ _ r
   .rw[TF,eq,TY];rfl
 .rintro l m g aa ⟨_,b,rfl⟩ k;rw[Gv,Tz]at k;refine{ab,0,.inl {Qk k,λG U=>?_}};have s4:=Qf U (.tup ((Zw a p).map λq=>jv (x.zg q)));refine{Yy,λr A=>?_};have I:=Qf A (.tup [.str (Yr a p),.ref G]);refine T r _ ((b.trans s4).trans I) (b.free (s4.free A)) {r,G,1,Qb,?_};rw[I _ _ Qb];simp only[Zv,Dj];rfl
theorem uj:Q8 ["self","place","found","stop"] ["self","place"] (Qo jT):=by eq_refl
theorem ot{o:Option Nat}:decide (ov o=V.non)= !o.isSome:=by
 cases o with
 |none=>rfl
 |some p=>rfl
theorem AA{a:Nat->Option Nat}{p:Nat}{l:List Nat}(h:Ch a p l){i:Nat}(hi:i<l.length):a l[i]=l[i+1]?:=by
 induction h generalizing i with
 |@top p e=>
  have:i=0:=by simpa using hi
  subst this;simpa using e
 |@step p q l e k c=>
  cases i with
  |zero=>have(r,b):=k.head;subst b;simpa using e
  |succ j=>simp only[TB]at hi;simpa using c (i:=j) (by lia)
theorem P9(F:Wg K "way_up" "Net.way_up" jT f fd)(q:Jj K mg C):Q3 P w K mg base Ya 1 f fd ["self","place"] (tj P w C):=by
 refine F.ok uj (λU d o y e=>?_) (λaa j ac s d U o y N e=>?_)
 .obtain⟨n,j,G,S,x,p,a,rfl,_⟩:=e;rfl
 have(n,j,G,S,x,p,a,rfl,X,r,M,ab,H):=e;have O:=Jw N;have k:=uj.nd;show∃t,W0 ?my _ t/\_;let Y:Xk ?my jT 3:={_,Qg (Qt {2})}
 let W:Xk ?my jT 2:=⟨_,Qc (Ww Tj (Qp lW {3} U7 (Qu _))
   (Qc (Zl (X6 Te Tx TC Z4 {2} (Qa {3} Qd)))
   (Qg (Qz 3 k (Ye O (Qx {0} rfl) {3} (λ_ _=>rfl)))))) Y.2⟩
 let V:Xk ?my jT 1:={_,Qc (Qz 3 k {1}) W.2}
 exists _,Qc (Qz 2 k (Zt Qd)) V.2;have(z,Q):=X.ob;refine{Tu _,λc h=>{0,?_}};have s0:=Qf h (.lst []);have(l',E):=r.head;have I:a[0]?=Ga p:=by rw[E];rfl
 let R:Nat->St->Hp->Prop:=λu l m=>jA λi=>jQ (u=a.length+1 - i) (i<=a.length) (l=[Ga (.ref n),Ga (jv p),Ga (.ref c),Ga (ov a[i]?)]) (m=zj d c (.lst ((a.take i).map jv)))
 refine rG R
  {_,(0),1,Tu _,by rw[I];rfl,by simp} ?_ (λl d o Z J=>λe=>by have(T,b,v,A,B,D):=e;exact{T,b,v,A,B,J _ _ D})
 rintro u l m ⟨i,rfl,hi,rfl,rfl⟩;exists 4010;rw[ot];rcases Dh i a.length with g|L
 .have b:a[i]?=Ga a[i]:=Ge g;have A:a[i]∈a:=Fi g;rw[b];refine Yp ?_;exists 0,.inl {13,Qk Qb},0,c,301,Qb,(by rw[Gv,Dc,TJ];ext);have v:Q9 d (zj (zj d c (.lst ((a.take i).map jv))) c (.lst ((a.take i).map jv++[jv a[i]]))):=by rw[Vq];exact Qf h _
  exists 0,n,C,z,30,v _ _ Q,q.cl,q.above,nD _,0,j.v,0,X5 (v _ _ X.ab) (M _ A),_,by ext,i+1,1,g,?_
  .rw[AA r g];rfl
  .rw[Vq,TF,b,TY];rfl
 .have b:a[i]?=Gq:=Df L;have v:i=a.length:=by ext
  subst v;rw[b];refine Q4 ?_;rw[Tz];exact{0,H c _ (Qf h _) h Qb}
theorem xX:Q8 ["self","low","high","over","place","old_over"] ["self","low","high"] (Qo lb):=by eq_refl
theorem OI(F:Wg K "hang" "Net.hang" lb f fd)(y:Jj K mg C):Q3 P w K mg base Ya 1 f fd ["self","low","high"] (rg P w C):=by
 refine F.ok xX (λvs i M ab d=>?_) (λaf b ai s i vs M ab hr d=>?_)
 .obtain⟨n,b,fs,tb,x,T,hi,D,rfl,_⟩:=d;rfl
 have(n,b,fs,tb,x,T,hi,D,rfl,X,G,ad,ah,ac):=d;have Q:=Jw hr;have j:=xX.nd;show∃t,W0 ?my _ t/\_;let w3:Xk ?my lb 2:=⟨_,Qg (Ww Tj (Qp lW {4} U7 (Qu _))
   (Qc (Qz 5 j (Ye Q (Qx {0} rfl) {4} (λ_ _=>rfl)))
   (Qc (Vt Q (Qx {0} rfl) {4} {3} rfl)
   (Qc (Qz 3 j {4})
   (Qg (Qz 4 j {5}))))))⟩
 let w2:Xk ?my lb 1:={_,Qc (Qz 4 j {1}) w3.2}
 exists _,Qc (Qz 3 j {2}) w2.2;have(r,I):=X.ob;have(ag,N):=G.head;exists 400;have W:n≠b.v:=Zu I X.ab (by intro z;cases z);let ae:Nat->St->Hp->Prop:=λU J L=>iC λ(u:Nat->Option Nat)(over:Nat)(X8:List Nat)(Y:Option V)=>ir (U=X8.length) (∀q∈X8,u q=x.up q) (∀c g,X8=c::g->Ch x.up c X8) (X8.Nodup) (∀q∈X8,q∈x.S) (X7 u over X8=X7 x.up hi D) (J=[Ga (.ref n),Ga (jv T),Ga (jv hi),Ga (jv over),Ga (ov X8.head?),Y]) (L=zj i b.v (.dK (dS x.S λp=>ov (u p))))
 refine rG ae
  {_,x.up,hi,D,Gq,1,λ_ _=>rfl,λc g a=>?_,G.nodup,ad,1,?_,?_} ?_ (λJ i M B A=>λd=>by have(v,h,E,k,l,m):=d;exact{v,h,E,k,l,A _ _ m})
 .rw[N]at a;cases a;exact G
 .rw[N];rfl
 .funext o
  by_cases e:o=b.v
  .subst e;rw[Qb];exact X.ab
  .rw[Qh e]
 rintro U J L ⟨u,over,X8,Y,rfl,R,S,nd2,O,H,rfl,rfl⟩;exists 4010;rw[ot];cases X8 with
 |nil=>
  refine Q4 ?_;have a:X7 u over []=u:=rfl;rw[a]at H;refine ac _ ?_ (λo k h e=>by rw[Qh e];exact h) (λo e=>?_)
  .rw[<-H];have l:Q7 i (zj i b.v (.dK (dS x.S λp=>ov (u p)))):=Z2 λxs a=>by rw[X.ab]at a;cases a
   subst_vars;have(ws,A,f2):=X.fo;have(aa,k,d2,d3):=X.ta;have(ls,B,l2):=X.li;have(kv,m,Z):=X.at_;and_intros;refine⟨{r,by rw[Qh W];exact I},{ws,by rw[Qh (Zu A X.ab (by intro z;cases z))];exact A,Qr f2 λ_ _ d=>d.Qv l},by rw[Qh X.ap.lv];exact X.le,by rw[Qh X.ap.mv];exact X.me,by rw[Qh X.ap.uv];exact X.us,
    {aa,{by rw[Qh (Zu k.at_ X.ab (by intro z;cases z))];exact k.at_,Zp l k.keys},d2,d3},{ls,by rw[Qh (Zu B X.ab (by intro z;cases z))];exact B,Qr l2 λ_ _ d=>d.Qv l},{kv,by rw[Qh (Zu m X.ab (by intro z;cases z))];exact m,Z},Qb,
    λp h=>by rw[Qh (Zu (X.ml p h) X.ab (by intro z;cases z))];exact X.ml p h,λp h=>by rw[Qh (Zu (X.ul p h) X.ab (by intro z;cases z))];exact X.ul p h,X.ap⟩
  .by_cases a:o=b.v
   .subst a;rw[Qb]at e;cases e
   .rw[Qh a]at e;exact e
 |cons c g=>
  refine Yp ?_;have k:=O c (by simp);have m:(zj i b.v (.dK (dS x.S λp=>ov (u p)))) n=Ga (.ins C r (Xs b)):=by rw[Qh W];exact I
  have A:u c=g.head?:=by rw[R c (by simp)];have:=AA (S c g Xb) (i:=0) (by simp);simp only[List.getElem_cons_zero]at this;rw[this];cases g<;>rfl
  rw[Dy]at nd2;have l:=Oi.k (k:=ki c) (v:=jv over) (@Qb i b.v (.dK (dS x.S λp=>ov (u p)))) (by rw[V8,TJ];ext);rw[Vq,oK k]at l;exists 0,n,C,r,30,m,y.cl,y.above,nD _,0,b.v,0,X5 Qb k,00,n,C,r,30,m,y.cl,y.above,nD _,0,b.v,0,l,00,g.length,by simp,iI u c over,c,g,Ga (ov (u c)),1,λq h=>?_,λB Z E=>?_,nd2.2,λq h=>O q (by simp[h]),H,?_
  .unfold iI;rw[Gs (λz:q=c=>nd2.1 (z▸h))];exact R q (by simp[h])
  .have:=S c g rfl;subst E;exact this.suffix (a:=[c]) rfl
  .rw[A];rfl
  .congr 2;refine Vp λq _=>?_;unfold iI;by_cases a:q=c
   .rw[GV a,GV a];rfl
   .rw[Gs a,Gs a]
end
end K06
namespace Sb
open PySem PySem.Spec PyProof.Rows L2 Nt
theorem Ys{H:Hp}{a b:Gd}{o u:HO}(h:H a=Ga o)(k:H b=Ga u)(d:∀z:o=u,False):a≠b:=λz=>by subst z;rw[h]at k;exact d (T3 k)
section
variable{P:Gn}{w:Tg}{C:Gd}{H:Hp}{n:Gd}{A:Na}{fs:List Fm}{tb:Nat}{x:Nn}
theorem Yn.Qz3(X:Yn P w C H n A fs tb x)(ld:Nat->Nat):Yn P w C (zj H A.l (.dK (dS x.S λp=>jv (ld p)))) n A fs tb {x with zg:=ld}:=by
 have(q,j):=X.ob;have(y,g,r):=X.fo;have(c,D,l,m):=X.ta;have(v,i,t):=X.li;have(s,f,k):=X.at_;have d:Q7 H (zj H A.l (.dK (dS x.S λp=>jv (ld p)))):=Z2 λz e=>by rw[X.le]at e;cases e
 have u:∀{b o},H b=Ga o->b≠A.l->(zj H A.l (.dK (dS x.S λp=>jv (ld p)))) b=Ga o:=λe h=>by rw[Qh h];exact e
 exact⟨{q,u j (Ys j X.le nofun)},{y,u g (Ys g X.le nofun),Qr r λ_ _ h=>h.Qv d},Qb,u X.me (Ta X.ap.lm),u X.us (Ta X.ap.lu),{c,{u D.at_ (Ys D.at_ X.le nofun),Zp d D.keys},l,m},
  {v,u i (Ys i X.le nofun),Qr t λ_ _ h=>h.Qv d},{s,u f (Ys f X.le nofun),k},u X.ab (Ta X.ap.lv),λp a=>u (X.ml p a) (Ys (X.ml p a) X.le nofun),λp a=>u (X.ul p a) (Ys (X.ul p a) X.le nofun),X.ap⟩
theorem Yn.ZG(X:Yn P w C H n A fs tb x){k:Nat}(a:k∈x.S)(l:List Nat):Yn P w C (zj H (A.ml k) (.lst (l.map jv))) n A fs tb {x with mem:=λp=>if p=k then l else x.mem p}:=by
 have(s,i):=X.ob;have(G,t,v):=X.fo;have(d,D,q,r):=X.ta;have(F,B,E):=X.li;have(y,g,j):=X.at_;have m:=X.ml k a;have f:Q7 H (zj H (A.ml k) (.lst (l.map jv))):=Z2 λI e=>by rw[m]at e;cases e
 have u:∀{b o},H b=Ga o->b≠A.ml k->(zj H (A.ml k) (.lst (l.map jv))) b=Ga o:=λe h=>by rw[Qh h];exact e
 refine⟨{s,u i (Ys i m nofun)},{G,u t (Ta (X.ap.mkf k a).2),Qr v λ_ _ h=>h.Qv f},u X.le (Ys X.le m nofun),u X.me (Ys X.me m nofun),u X.us (Ys X.us m nofun),{d,{u D.at_ (Ys D.at_ m nofun),Zp f D.keys},q,r},
  {F,u B (Ta (X.ap.mkf k a).1),Qr E λ_ _ h=>h.Qv f},{y,u g (Ys g m nofun),j},u X.ab (Ys X.ab m nofun),λp c=>?_,λp c=>u (X.ul p c) (Ta (X.ap.mul k a p c)),X.ap⟩
 by_cases e:p=k
 .subst e;show _=Ga (HO.lst ((if p=p then l else x.mem p).map jv));rw[Qb,GV rfl]
 .show _=Ga (HO.lst ((if p=k then l else x.mem p).map jv));rw[Gs e];exact u (X.ml p c) (λz=>e (X.ap.mm p c k a z))
theorem Yn.Kp(X:Yn P w C H n A fs tb x){k:Nat}(a:k∈x.S)(l:List Nat):Yn P w C (zj H (A.ul k) (.lst (l.map jv))) n A fs tb {x with Xx:=λp=>if p=k then l else x.Xx p}:=by
 have(s,i):=X.ob;have(G,t,v):=X.fo;have(d,D,q,r):=X.ta;have(F,B,E):=X.li;have(y,g,j):=X.at_;have m:=X.ul k a;have f:Q7 H (zj H (A.ul k) (.lst (l.map jv))):=Z2 λI e=>by rw[m]at e;cases e
 have u:∀{b o},H b=Ga o->b≠A.ul k->(zj H (A.ul k) (.lst (l.map jv))) b=Ga o:=λe h=>by rw[Qh h];exact e
 refine⟨{s,u i (Ys i m nofun)},{G,u t (Ta (X.ap.ukf k a).2),Qr v λ_ _ h=>h.Qv f},u X.le (Ys X.le m nofun),u X.me (Ys X.me m nofun),u X.us (Ys X.us m nofun),{d,{u D.at_ (Ys D.at_ m nofun),Zp f D.keys},q,r},
  {F,u B (Ta (X.ap.ukf k a).1),Qr E λ_ _ h=>h.Qv f},{y,u g (Ys g m nofun),j},u X.ab (Ys X.ab m nofun),λp c=>u (X.ml p c) (X.ap.mul p c k a),λp c=>?_,X.ap⟩
 by_cases e:p=k
 .subst e;show _=Ga (HO.lst ((if p=p then l else x.Xx p).map jv));rw[Qb,GV rfl]
 .show _=Ga (HO.lst ((if p=k then l else x.Xx p).map jv));rw[Gs e];exact u (X.ul p c) (λz=>e (X.ap.uu p c k a z))
theorem Yn.Ki(X:Yn P w C H n A fs tb x){c kvs':List KE}(D:DH P w H A.t c)(t:kvs'.length<=tb+1)(l:Jg H kvs'){t':Fm->Option Nat}(ht:∀k:Fm,Yt kvs' (Xp k)=(t' k).map jv):Yn P w C (zj H A.t (Uv P w A.t kvs')) n A fs (tb+1) {x with tab:=t'}:=by
 have(r,j):=X.ob;have(B,g,s):=X.fo;have(z,i,y):=X.li;have(v,f,q):=X.at_;have m:=D.at_;have d:Q7 H (zj H A.t (Uv P w A.t kvs')):=Z2 λE e=>by rw[m]at e;cases e
 have u:∀{b o},H b=Ga o->b≠A.t->(zj H A.t (Uv P w A.t kvs')) b=Ga o:=λe h=>by rw[Qh h];exact e
 exact⟨{r,u j (Ys j m nofun)},{B,u g (Ys g m nofun),Qr s λ_ _ h=>h.Qv d},u X.le (Ys X.le m nofun),u X.me (Ys X.me m nofun),u X.us (Ys X.us m nofun),{kvs',{Qb,Zp d l},t,ht},
  {z,u i (Ys i m nofun),Qr y λ_ _ h=>h.Qv d},{v,u f (Ys f m nofun),q},u X.ab (Ys X.ab m nofun),λp a=>u (X.ml p a) (Ys (X.ml p a) m nofun),λp a=>u (X.ul p a) (Ys (X.ul p a) m nofun),X.ap⟩
theorem Yn.P3(X:Yn P w C H n A fs tb x){kv2:List (List Wi×V)}{ls':List V}{lks:List Lk}{lat':Nat->Nat->Option Nat}(v:kv2.length<=2*lks.length)(y:∀i j:Nat,Xq kv2 [ki i,ki j]=(lat' i j).map jv)(z:Dg (On H) ls' lks):
  Yn P w C (zj (zj H A.a (.dT kv2)) A.k (.lst ls')) n A fs tb {x with zt:=lks,Xt:=lat'}:=by
 have(r,g):=X.ob;have(B,l,s):=X.fo;have(f,D,m,q):=X.ta;have(I,c,G):=X.li;have(F,a,E):=X.at_;have k:Q7 H (zj (zj H A.a (.dT kv2)) A.k (.lst ls')):=λb J e=>by rw[Qh (Ys e c nofun),Qh (Ys e a nofun)];exact e
 have u:∀{b o},H b=Ga o->b≠A.k->b≠A.a->(zj (zj H A.a (.dT kv2)) A.k (.lst ls')) b=Ga o:=λe h t=>by rw[Qh h,Qh t];exact e
 refine⟨{r,u g (Ys g c nofun) (Ys g a nofun)},{B,u l (Ta X.ap.kf) (Ys l a nofun),Qr s λ_ _ h=>h.Qv k},u X.le (Ys X.le c nofun) (Ys X.le a nofun),u X.me (Ys X.me c nofun) (Ys X.me a nofun),u X.us (Ys X.us c nofun) (Ys X.us a nofun),
  {f,{u D.at_ (Ys D.at_ c nofun) (Ys D.at_ a nofun),Zp k D.keys},m,q},{ls',Qb,Qr z λ_ _ h=>h.Qv k},{kv2,?_,v,y},u X.ab (Ys X.ab c nofun) (Ys X.ab a nofun),λp d=>u (X.ml p d) (X.ap.mkf p d).1 (Ys (X.ml p d) a nofun),λp d=>u (X.ul p d) (X.ap.ukf p d).1 (Ys (X.ul p d) a nofun),X.ap⟩
 rw[Qh (Ys a c nofun),Qb]
end
end Sb
namespace K06
open PySem L2 Sb Nt
structure iM(fs:List Fm)(S:List Nat):Prop where
 str:∀p,DM (Yr fs p)=Gi
 lt:∀p∈S,p<fs.length
 pts:∀p∈S,∀q∈Zw fs p,q∈S
 few:∀p,(Zw fs p).length<=100000
inductive vG(P:Gn)(w:Tg)(C:Gd)(vs:List V)(H:Hp)(Q:VK):Prop
 |mk (n:Gd) (A:Na) (fs:List Fm) (tb:Nat) (x:Nn) (g:Nat) (k:Nat) (h0:vs=[.ref n,jv g,jv k]) (h1:Yn P w C H n A fs tb x) (h2:iM fs x.S) (h3:g∈x.S) (h4:k∈x.S) (h5:g≠k) (h6:(∀p∈x.mem g,p∈x.S)) (h7:(∀p∈x.Xx g,p∈x.S)) (h8:x.S.length<=100000) (h9:(x.mem k).length+(x.mem g).length<=100000) (h10:(x.Xx k).length+(x.Xx g).length<=100000) (h11:tb+(x.Xx g).length<=1000000) (h12:∀(r:Gd)(es:List V)(H':Hp),Yn P w C H' n A fs (tb+(x.Xx g).length) (U8 (Yr fs) (Zw fs) x g k).1->Ov A x.S H H'->H r=Gq->H' r=Ga (.lst es)->Dg (On H') es (U8 (Yr fs) (Zw fs) x g k).2->Q (.ref r) H'):vG P w C vs H Q
def qh(P:Gn)(w:Tg)(C:Gd):Sp:=λa H Q _=>vG P w C a H Q
section
variable{P:Gn}{w:Tg}{K:Gf}{mg:TQ->Option Gj}{base:Heap}
theorem xy:Q8 ["self","gone","kept","place","found","user","twin"] ["self","gone","kept"] (Qo Vb):=by eq_refl
theorem UO{ky:Nat->TQ×List Nat}{l:List Nat}{t:TQ×List Nat->Option Nat}{i u:Nat}(h:l[i]?=Ga u):zm (ρ:=Ie) ky (l.take (i+1)) t []=(match(zm (ρ:=Ie) ky (l.take i) t []).1 (ky u)with
  |some v=>((zm (ρ:=Ie) ky (l.take i) t []).1,if v=u then(zm (ρ:=Ie) ky (l.take i) t []).2 else(zm (ρ:=Ie) ky (l.take i) t []).2++[(u,v,Gq)])
  |none=>((λk=>if k=ky u then Ga u else(zm (ρ:=Ie) ky (l.take i) t []).1 k),(zm (ρ:=Ie) ky (l.take i) t []).2)):=by
 have b:∀(a:List Nat)(t:TQ×List Nat->Option Nat)(f:List (Nat×Nat×Option Ie)),zm (ρ:=Ie) ky (a++[u]) t f=(match(zm (ρ:=Ie) ky a t f).1 (ky u)with
  |some v=>((zm (ρ:=Ie) ky a t f).1,if v=u then(zm (ρ:=Ie) ky a t f).2 else(zm (ρ:=Ie) ky a t f).2++[(u,v,Gq)])
  |none=>((λk=>if k=ky u then Ga u else(zm (ρ:=Ie) ky a t f).1 k),(zm (ρ:=Ie) ky a t f).2)):=by
  intro a;induction a with
  |nil=>intro t f;simp only[EL,zm];all_goals (cases t (ky u)<;>rfl)
  |cons z a c=>
   intro t f;simp only[Dp,zm];cases t (ky z)with
   |some v=>exact c _ _
   |none=>exact c _ _
 rw[TF,h];exact b _ _ _
theorem QM{f fK h:Gd}{fd ak:Do}(F:Wg K "give_over" "Net.give_over" Vb f fd)(g:Jj K mg h)(mK:Yq K h "key_of" fK)(GK:Q3 P w K mg base Ya 1 fK ak ["self","place"] (m9 P w h))(bK:zk K ak ["self","place"] []):
  Q3 P w K mg base Ya 2 f fd ["self","gone","kept"] (qh P w h):=by
 refine F.ok xy (λQ D G A H=>?_) (λT d Y s D Q G A hr H=>?_)
 .obtain⟨n,d,b,tb,x,a,k,rfl,_⟩:=H;rfl
 have(n,d,b,tb,x,a,k,rfl,X,ab,B,C,ax,mS,uS,hS,W,aK,aJ,q):=H;have R:=Jw hr;have aB:=hr.units;have az:Yl 1 _:=hr.mono (by ext);have nd:=xy.nd;show∃t,W0 ?my _ t/\_;let w6:Xk ?my Vb 5:={_,Qg (Qt {4})}
 let w5:Xk ?my Vb 4:=⟨_,Qc (Yb Tj rfl (Yh (Ye R (Qx {0} rfl) {1} (λ_ _=>rfl))) (Z5 5 nd)
   (Qc (Qz 6 nd (rC Ll Lm (Qnn aB) (Qx {0} rfl) (Qa (Zn {0} g.cl mK GK az bK .nil Q5 (Qa {5} Qd)) (Qa {5} Qd))))
   (Qg (Zb (Qp Wh {6} {5} (Qu _))
    (Qg (Zl (X6 Te Tx TC Z4 {4} (Qa (Ze (Qa {5} (Qa {6} (Qa U7 Qd)))) Qd)))) Qw)))) w6.2⟩
 let w4:Xk ?my Vb 3:={_,Qc (Qz 4 nd (Zt Qd)) w5.2}
 let w3:Xk ?my Vb 2:={_,Qc (Zl (X6 Te LL LM rH (Ye R (Qx {0} rfl) {2} (λ_ _=>rfl)) (Qa (Ye R (Qx {0} rfl) {1} (λ_ _=>rfl)) Qd))) w4.2}
 let w2:Xk ?my Vb 1:={_,Qc (Zl (X6 Te LL LM rH (Ye R (Qx {0} rfl) {2} (λ_ _=>rfl)) (Qa (Ye R (Qx {0} rfl) {1} (λ_ _=>rfl)) Qd))) w3.2}
 exists _,Qc (Yb Tj rfl (Yh (Ye R (Qx {0} rfl) {1} (λ_ _=>rfl))) (Z5 3 nd)
   (Qg (Vt R (Qx {0} rfl) {3} {2} rfl))) w2.2
 have(dx,o1):=X.ob;have nl:n≠d.l:=Ys o1 X.le nofun;let aG:Nat->St->Hp->Prop:=λi J L=>nK (∃x3,J=[Ga (.ref n),Ga (jv a),Ga (jv k),x3,Gq,Gq,Gq]) (L=zj D d.l (.dK (dS x.S λp=>jv (if p∈(x.mem a).take i then k else x.zg p))))
 refine⟨_,Xb,n,h,dx,_,_,Xb,o1,g.cl,g.members,V1 _,_,Xb,d.m,_,Xb,X5 X.me B,d.ml a,Xb,{_,Qk (X.ml a B)},Yw (K:=K) (a:=d.ml a) (xs:=(x.mem a).map jv)
  aG
  {{40},?_} (by rintro i J L _ ⟨_,e⟩;rw[e];exact Qk (by rw[Qh (Ys (X.ml a B) X.le nofun)];exact X.ml a B)) ?_ ?_⟩
 .funext E
  by_cases j:E=d.l
  .subst j;rw[Qb,X.le];simp
  .rw[Qh j]
 .rintro i y J L hi ⟨⟨x3,rfl⟩,rfl⟩;rw[Ts]at hi;cases eq:(x.mem a)[i]? with
  |none=>rw[eq]at hi;cases hi
  |some p=>
   rw[eq]at hi;cases hi;have Q:=mS p (Gc eq);have G:(zj D d.l (.dK (dS x.S λp=>jv (if p∈(x.mem a).take i then k else x.zg p)))) n=Ga (.ins h dx (Xs d)):=by rw[Qh nl];exact o1
   have A:=Oi.k (k:=ki p) (v:=jv k) (@Qb D d.l (.dK (dS x.S λp=>jv (if p∈(x.mem a).take i then k else x.zg p)))) (by rw[V8,TJ];ext);rw[Vq,oK Q]at A;exists 00,n,h,dx,30,G,g.cl,g.Vz,Xd _,0,d.l,0,A,{40};congr 2;refine Vp λl _=>?_;rw[TF,eq];by_cases e:l=p
   .subst e;rw[GV Xb,GV (by simp)]
   .rw[Gs e];by_cases W:l∈(x.mem a).take i
    .rw[GV W,GV (Gu _ W)]
    .rw[Gs W,Gs (by simp[W,e])]
 rintro J L ⟨⟨x3,rfl⟩,rfl⟩;rw[Gv,Tz];have M:=X.Qz3 (Zi x a k);have eL:(dS x.S λp=>jv (if p∈x.mem a then k else x.zg p))=dS x.S λp=>jv (Zi x a k p):=rfl;rw[eL];have F1:Ov d x.S D (zj D d.l (.dK (dS x.S λp=>jv (Zi x a k p)))):=Ov.zj (.inl Xb);generalize zj D d.l (.dK (dS x.S λp=>jv (Zi x a k p)))=H1 at M F1⊢;have(ah,an):=M.ob;exists 0,n,h,ah,30,an,g.cl,g.members,V1 _,0,d.m,0,X5 M.me C,.inl {13,Qk (M.ml k C)},0,n,h,ah,30,an,g.cl,g.members,V1 _,0,d.m,0,X5 M.me B,d.ml k,d.ml a,301,M.ml k C,M.ml a B,small (by rw[Gv,Gv];show(x.mem k).length+(x.mem a).length<=_;ext);have N:=M.ZG C (x.mem k++x.mem a);have F2:Ov d x.S H1 (zj H1 (d.ml k) (.lst ((x.mem k++x.mem a).map jv))):=Ov.zj (.inr (.inr (.inr (.inr (.inr (.inr (.inr {k,C,.inl Xb})))))));have e2:((x.mem k).map jv++(x.mem a).map jv)=(x.mem k++x.mem a).map jv:=(TY ..).symm;rw[e2];generalize zj H1 (d.ml k) (.lst ((x.mem k++x.mem a).map jv))=L at N F2⊢;have(ai,ao):=N.ob;exists 0,n,h,ai,30,ao,g.cl,g.Qf2,Rv _,0,d.u,0,X5 N.us C,.inl {13,Qk (N.ul k C)},0,n,h,ai,30,ao,g.cl,g.Qf2,Rv _,0,d.u,0,X5 N.us B,d.ul k,d.ul a,301,N.ul k C,N.ul a B,small (by rw[Gv,Gv];show(x.Xx k).length+(x.Xx a).length<=_;ext);have X3:=N.Kp C (x.Xx k++x.Xx a);have F3:Ov d x.S L (zj L (d.ul k) (.lst ((x.Xx k++x.Xx a).map jv))):=Ov.zj (.inr (.inr (.inr (.inr (.inr (.inr (.inr {k,C,.inr Xb})))))));have e3:((x.Xx k).map jv++(x.Xx a).map jv)=(x.Xx k++x.Xx a).map jv:=(TY ..).symm;rw[e3];generalize zj L (d.ul k) (.lst ((x.Xx k++x.Xx a).map jv))=H3 at X3 F3⊢;have af:=(F1.trans F2).trans F3;refine{Tu _,λl al=>?_};have s4:=Qf al (.lst []);have X4:=X3.same s4;have(au,aF):=X4.ob;have O:D l=Gq:=af.there l al;have av:(λp=>if p=k then x.Xx k++x.Xx a else x.Xx p) a=x.Xx a:=Gs ax;have ug:∀{m:Hp}{t':Fm->Option Nat}{aD:Nat},Yn P w h m n d b aD {x with zg:=Zi x a k,mem:=(λp=>if p=k then x.mem k++x.mem a else x.mem p),Xx:=(λp=>if p=k then x.Xx k++x.Xx a else x.Xx p),tab:=t'}->m (d.ul a)=Ga (.lst ((x.Xx a).map jv)):=λo=>by have:=o.ul a B;rw[this];show Ga (HO.lst (((λp=>if p=k then x.Xx k++x.Xx a else x.Xx p) a).map jv))=_;rw[av]
 let aH:Nat->St->Hp->Prop:=λi J m=>kL λ(x5 x6:Option V)(r:List V)=>jn (J=[Ga (.ref n),Ga (jv a),Ga (jv k),x3,Ga (.ref l),x5,x6]) (Yn P w h m n d b (tb+i) {x with zg:=Zi x a k,mem:=(λp=>if p=k then x.mem k++x.mem a else x.mem p),Xx:=(λp=>if p=k then x.Xx k++x.Xx a else x.Xx p),tab:=(zm (ρ:=Ie) (Zv (Yr b) (Zw b) (Zi x a k)) ((x.Xx a).take i) x.tab []).1}) (Ov d x.S D m) (m l=Ga (.lst r)) (Dg (On m) r (zm (ρ:=Ie) (Zv (Yr b) (Zw b) (Zi x a k)) ((x.Xx a).take i) x.tab []).2)
 refine⟨_,Xb,n,h,au,_,_,Xb,aF,g.cl,g.Qf2,Rv _,_,Xb,d.u,_,Xb,X5 X4.us B,d.ul a,Xb,{_,Qk (ug X4)},Yw (K:=K) (a:=d.ul a) (xs:=(x.Xx a).map jv)
  aH
  {2,[],1,?_,af.trans (Ov.of s4),Qb,.nil} (by rintro i J m _ ⟨_,_,_,_,o,_⟩;exact Qk (ug o)) ?_ ?_⟩
 .exact X4
 .rintro i y J m hi ⟨x5,x6,r,rfl,o,U,I,S⟩;rw[Ts]at hi;cases eq:(x.Xx a)[i]? with
  |none=>rw[eq]at hi;cases hi
  |some u=>
   rw[eq]at hi;cases hi;have aq:=uS u (Gc eq);have il:i<(x.Xx a).length:=(Gg.mp eq).1;have(aj,ap):=o.ob;have(aC,ar,d2,d3):=o.ta;have aL:r.length<=i:=by rw[GQ S];have:=scan_len (ρ:=Ie) (ky:=Zv (Yr b) (Zw b) (Zi x a k)) (l:=(x.Xx a).take i) (t:=x.tab) (f:=[]);rw[Dc]at this;simp at this;ext
   refine{0,n,h,aj,30,ap,g.cl,g.table,wA _,{d.t,aC,1,ar.at_},0,n,aj,0,ap,pU _,0,n,d,b,2,u,1,o,ab.lt u aq,λq hq=>ab.pts u aq q hq,by have:=ab.few u;ext,λc H6 A c6 aw=>{0,?_}};have Y6:=o.same A;have(aa,D6,aI,ag):=Y6.ta;have kc:=aw.key (ab.str u);have kk:Yt aa (Xp (Zv (Yr b) (Zw b) (Zi x a k) u))=((zm (ρ:=Ie) (Zv (Yr b) (Zw b) (Zi x a k)) ((x.Xx a).take i) x.tab []).1 (Zv (Yr b) (Zw b) (Zi x a k) u)).map jv:=ag (Zv (Yr b) (Zw b) (Zi x a k) u);have Q:=UO (ky:=Zv (Yr b) (Zw b) (Zi x a k)) (t:=x.tab) eq;have rO:¬hV d x.S l:=λz=>by rcases X.own z with⟨_,e⟩|⟨_,e⟩|⟨_,e⟩|⟨_,e⟩<;>rw[O]at e<;>cases e
   refine{d.t,c,jv u,aa,01,D6,kc,by rw[TJ];ext,λv Y=>?_,λhn=>?_}
   ·
    rw[kk]at Y;cases ev:(zm (ρ:=Ie) (Zv (Yr b) (Zw b) (Zi x a k)) ((x.Xx a).take i) x.tab []).1 (Zv (Yr b) (Zw b) (Zi x a k) u)with
    |none=>rw[ev]at Y;cases Y
    |some T=>
     rw[ev]at Y;cases Y;rw[ev]at Q;exists 40010;rw[nO];by_cases ac:T=u
     .rw[Ti ac];refine Q4 {2,r,1,?_,U.trans (Ov.of A),A _ _ I,?_}
      .rw[Q];exact Y6.mono (by ext)
      .rw[Q];simp only[GV ac];exact Qr S λ_ _ H=>H.Qv (Q7.of A)
     .rw[Td ac];refine Yp ?_;refine{0,.inl {13,Qk (A _ _ I)},00,Vm,λG ad=>?_};have s7:=Qf ad (.tup [jv u,jv T,.non]);exists l,r,.ref G,11,s7 _ _ (A _ _ I),(by rw[TJ];ext);have Z:=A.trans s7;have Y7:=o.same Z;have aA:=Z _ _ I;have ae:Q7 m (zj (zj H6 G (.tup [jv u,jv T,.non])) l (.lst (r++[.ref G]))):=λE xs e=>by rw[Qh (Ys e I nofun)];exact Z _ _ e
      have aE:(zj (zj H6 G (.tup [jv u,jv T,.non])) l (.lst (r++[.ref G]))) G=Ga (.tup [jv u,jv T,.non]):=by rw[Qh (λz=>by rw[z,A _ _ I]at ad;cases ad),Qb]
      have Y8:Yn P w h (zj (zj H6 G (.tup [jv u,jv T,.non])) l (.lst (r++[.ref G]))) n d b (tb+i) _:=Y7.keep (λE am e j=>by
       rw[Qh λz=>?_]
       .exact e
       .subst z;rcases j with j|j|j
        .exact rO j
        .obtain⟨ws,f1,_⟩:=X.fo;rw[j,f1]at O;cases O
        .rw[j,o1]at O;cases O) (Z2 λxs e=>by rw[aA]at e;cases e)
      exists 20,?_,{λE am e j=>?_,λE j=>?_},Qb
      .rw[Q];exact Y8.mono (by ext)
      .rw[Qh (Qe e O)];exact Z _ _ (U.keep E am e j)
      .by_cases e:E=l
       .subst e;exact O
       .rw[Qh e]at j;exact U.there E (Z.free j)
      .rw[Q];simp only[Gs ac];exact Zq (Qr S λ_ _ H=>H.Qv ae) (.cons {G,.non,1,aE,1} .nil)
   ·
    rw[kk]at hn;have ev:(zm (ρ:=Ie) (Zv (Yr b) (Zw b) (Zi x a k)) ((x.Xx a).take i) x.tab []).1 (Zv (Yr b) (Zw b) (Zi x a k) u)=Gq:=by
     cases ev:(zm (ρ:=Ie) (Zv (Yr b) (Zw b) (Zi x a k)) ((x.Xx a).take i) x.tab []).1 (Zv (Yr b) (Zw b) (Zi x a k) u)with
     |none=>rfl
     |some T=>rw[ev]at hn;cases hn
    rw[ev]at Q;exists 40010;rw[nO,Ti rfl];have ay:Yt aa (Xp (Zv (Yr b) (Zw b) (Zi x a k) u))=Gq:=by rw[kk];exact hn
    have Y8:=Y6.Ki (kvs':=aa++[(Xp (Zv (Yr b) (Zw b) (Zi x a k) u),c,jv u)]) D6 (by rw[Gk,Gy];ext) (λp G=>by
     rcases Gh.mp G with G|G
     .exact D6.keys p G
     .rw[Tb]at G;subst G;exact kc) (t':=λZ=>if Z=Zv (Yr b) (Zw b) (Zi x a k) u then Ga u else(zm (ρ:=Ie) (Zv (Yr b) (Zw b) (Zi x a k)) ((x.Xx a).take i) x.tab []).1 Z) (λZ=>by
     rw[qw _ _ _ _ _ ay];by_cases e:Z=Zv (Yr b) (Zw b) (Zi x a k) u
     .rw[GV (by rw[e]),GV e];rfl
     .rw[Gs (λz=>e (J9 z)),Gs e];exact ag Z)
    have rt:l≠d.t:=λz=>rO (by rw[z];exact .inr (.inr (.inr (.inl Xb))));have ae:Q7 m (zj H6 d.t (Uv P w d.t (aa++[(Xp (Zv (Yr b) (Zw b) (Zi x a k) u),c,jv u)]))):=λE xs e=>by rw[Qh (Ys (A _ _ e) D6.at_ nofun)];exact A _ _ e
    refine Q4 {2,r,1,?_,U.trans ((Ov.of A).trans (Ov.zj (.inr (.inr (.inr (.inl Xb)))))),?_,?_}
    .rw[Q];exact Y8
    .rw[Qh rt];exact A _ _ I
    .rw[Q];exact Qr S λ_ _ H=>H.Qv ae
 .rintro J m ⟨x5,x6,r,rfl,o,U,I,S⟩;rw[Gv,Tz]at o S;exact{0,q l r m o U O I S}
end
end K06
namespace Nt
theorem Xy{l S:List Nat}(nd:l.Nodup)(h:∀p∈l,p∈S):l.length<=S.length:=by
 induction l generalizing S with
 |nil=>simp
 |cons a r e=>rw[Dy]at nd;have b:=h a (by simp);have:=e (S:=S.erase a) nd.2 λp c=>(Fs (show p≠a fromλz=>nd.1 (by rw[<-z];exact c))).mpr (h p (by simp[c]));rw[LN b]at this;have d:=L9 b;simp only[TB];ext
theorem zh{f:Nat->Nat}{g k:Nat}(a:g≠k):∀{S:List Nat},g∈S->k∈S->f g+f k<=(S.map f).sum
 |[],h,_=>by simp at h
 |x::r,d,e=>by
  simp only[Tp,LK];by_cases b:x=g
  .subst b;have:=Iv (f:=f) ((Tf.mp e).resolve_left (Ta a));lia
  .by_cases c:x=k
   .subst c;have:=Iv (f:=f) ((Tf.mp d).resolve_left a);lia
   .have:=zh (f:=f) a ((Tf.mp d).resolve_left (Ta b)) ((Tf.mp e).resolve_left (Ta c));lia
theorem hZ.chS{f:Type}{S:List Nat}{d:List (Nat×Nat×f)}{Xt:Nat->Nat->Option Nat}{c:Nat->Option Nat}(F:hZ S d Xt c):∀{p:Nat}{l:List Nat},Ch c p l->p∈S->∀q∈l,q∈S
 |_,_,.top _,b,q,a=>by simp at a;subst a;exact b
 |_,_,.step e h,b,q,a=>by
  rcases Tf.mp a with rfl|a
  .exact b
  .exact F.chS h (F.inS _ _ e).2 q a
theorem vZ{W a:Type}(x:ia W a):cls x<=x.S.length:=List.countP_le_length
end Nt
namespace K06
open PySem L2 Sb Nt
variable{C:Gd}{fd:Do}
inductive y8(P:Gn)(w:Tg)(C:Gd)(vs:List V)(H:Hp)(Q:VK):Prop
 |mk (n:Gd) (A:Na) (fs:List Fm) (tb:Nat) (x:Nn) (c:Gd) (a:Nat) (b:Nat) (r:Option Ie) (pend:List Lk) (h0:vs=[.ref n,.ref c]) (h1:Yn P w C H n A fs tb x) (h2:iM fs x.S) (h3:On H (.ref c) (a,b,r)) (h4:Wx (Yr fs) (Zw fs) x (pend++[(a,b,r)])) (h5:x.zg a≠x.zg b) (h6:x.S.length<=10000) (h7:Ja x<=10000) (h8:x.zt.length<=100000) (h9:tb+Ja x<=1000000) (h10:∀(lo hi:Nat)(cl:List Nat)(l:Gd)(es:List V)(H':Hp),((lo=a/\hi=b)\/(lo=b/\hi=a))->Ch x.up lo cl->Yn P w C H' n A fs (tb+Ja x) (Y1 (Yr fs) (Zw fs) x a b r lo hi cl).1->Ov A x.S H H'->H l=Gq->H' l=Ga (.lst es)->
  Dg (On H') es (Y1 (Yr fs) (Zw fs) x a b r lo hi cl).2->Q (.ref l) H'):y8 P w C vs H Q
def xG(P:Gn)(w:Tg)(C:Gd):Sp:=λa H Q _=>y8 P w C a H Q
section
variable{P:Gn}{w:Tg}{K:Gf}{mg:TQ->Option Gj}{base:Heap}
theorem wF:Q8 ["self","link","one","other"] ["self","link"] (Qo Xw):=by eq_refl
theorem ZR{H:Hp}{a b:Gd}{o u:HO}(h:a≠b):zj (zj H a o) b u=zj (zj H b u) a o:=by
 funext c
 by_cases d:c=b
 .subst d;rw[Qb,Qh (Ta h),Qb]
 .rw[Qh d];by_cases e:c=a
  .subst e;rw[Qb,Qb]
  .rw[Qh e,Qh e,Qh d]
theorem Rh(x y:V)(a:List V):Oh (x::y::a) (1:Int)=Ga y:=Zk (xs:=x::y::a) (j:=1) rfl
theorem jt(x y z:V)(a:List V):Oh (x::y::z::a) (2:Int)=Ga z:=Zk (xs:=x::y::z::a) (j:=2) rfl
theorem UD{f fH fG:Gd}{aq ap:Do}(F:Wg K "merge_link" "Net.merge_link" Xw f fd)(e:Jj K mg C)(S:Ra mg)(mH:Yq K C "hang" fH)(GH:Q3 P w K mg base Ya 1 fH aq ["self","low","high"] (rg P w C))(bH:zk K aq ["self","low","high"] [])
  (mG:Yq K C "give_over" fG)(GG:Q3 P w K mg base Ya 2 fG ap ["self","gone","kept"] (qh P w C))(bG:zk K ap ["self","gone","kept"] []):
  Q3 P w K mg base Ya 3 f fd ["self","link"] (xG P w C):=by
 refine F.ok wF (λD y an ac l=>?_) (λI d Z s y D an ac hr l=>?_)
 .obtain⟨n,d,fs,R,x,c,a,b,ak,aM,rfl,_⟩:=l;rfl
 have(n,d,fs,R,x,c,a,b,ak,aM,rfl,X,aH,hc,h,ay,hS,hT,hL,aQ,q):=l;have m:=Jw hr;have az:Yl 1 _:=hr.mono (by lia);have aA:Yl 2 _:=hr.mono (by lia);have nd:=wF.nd;show∃t,W0 ?my _ t/\_;let w8:Xk ?my Xw 7:={_,Qg (Qt (Zn {0} e.cl mG GG aA bG .nil Q5 (Qa (Ye m (Qx {0} rfl) {3} (λ_ _=>rfl)) (Qa (Ye m (Qx {0} rfl) {2} (λ_ _=>rfl)) Qd))))}
 let w7:Xk ?my Xw 6:={_,Qc (Zl (Zn {0} e.cl mH GH az bH .nil Q5 (Qa {3} (Qa {2} Qd)))) w8.2}
 let w6:Xk ?my Xw 5:=⟨_,Qc (Zb (Qp jV (Qm Zo rfl S.len GX (Qa (Ye m (Qx {0} rfl) (Ye m (Qx {0} rfl) {2} (λ_ _=>rfl)) (λ_ _=>rfl)) Qd)) (Qm Zo rfl S.len GX (Qa (Ye m (Qx {0} rfl) (Ye m (Qx {0} rfl) {3} (λ_ _=>rfl)) (λ_ _=>rfl)) Qd)) (Qu _))
   (Qc (Zl (Zn {0} e.cl mH GH az bH .nil Q5 (Qa {2} (Qa {3} Qd))))
    (Qg (Qt (Zn {0} e.cl mG GG aA bG .nil Q5 (Qa (Ye m (Qx {0} rfl) {2} (λ_ _=>rfl)) (Qa (Ye m (Qx {0} rfl) {3} (λ_ _=>rfl)) Qd)))))) Qw) w7.2⟩
 let w5:Xk ?my Xw 4:={_,Qc (Zl (X6 Te Tx TC Z4 (Qx {0} rfl) (Qa {1} Qd))) w6.2}
 let w4:Xk ?my Xw 3:={_,Qc (Vt m (Qx {0} rfl) (Ze (Qa {3} (Qa {2} Qd))) (Qm Zo rfl S.len GX (Qa (Qx {0} rfl) Qd)) rfl) w5.2}
 let w3:Xk ?my Xw 2:={_,Qc (Vt m (Qx {0} rfl) (Ze (Qa {2} (Qa {3} Qd))) (Qm Zo rfl S.len GX (Qa (Qx {0} rfl) Qd)) rfl) w4.2}
 let w2:Xk ?my Xw 1:={_,Qc (Qz 3 nd (Qn Qs {1} Qi)) w3.2}
 exists _,Qc (Qz 2 nd (Qn Qs {1} Qi)) w2.2;subst_vars;have(B,Q):=X.ob;have(c',rv,ec,ar,aP):=id hc;and_intros;cases ec;subst_vars;have(o,l1,l2):=X.li;have(kv,U,a2,a3):=X.at_;have ll:o.length=x.zt.length:=GQ l2;have(W,Y,_):=h.pnd a b ak (by simp);and_intros;have lv:(V.int (o.length:Int))=jv x.zt.length:=by rw[ll];rfl
 exists 0,c,201,Qj ar,Ol _ _,0,c,201,Qj ar,Rh _ _ _;exists 0,n,C,B,30,Q,e.cl,e.zt,J1 _,d.k,o,1,.inl (Qk l1);rw[lv];refine{0,n,C,B,30,Q,e.cl,e.Qde,qC _,00,Yy,λG af=>?_};have s1:=Qf af (.tup [jv a,jv b]);exists d.a,0,Oi.t (k:=[ki a,ki b]) (s1 _ _ U) Qb (by rw[TJ];lia);have aN:G≠d.a:=λz=>by rw[z,U]at af;cases af
 have nA:n≠d.a:=Ys Q U nofun;have kA:d.k≠d.a:=Ys l1 U nofun;generalize av:V2 kv [ki a,ki b] (jv x.zt.length)=N;have o2:(zj (zj y G (.tup [jv a,jv b])) d.a (.dT N)) n=Ga (.ins C B (Xs d)):=by rw[Qh nA];exact s1 _ _ Q
 have aJ:(zj (zj y G (.tup [jv a,jv b])) d.a (.dT N)) d.k=Ga (.lst o):=by rw[Qh kA];exact s1 _ _ l1
 exists 0,n,C,B,30,o2,e.cl,e.zt,J1 _,d.k,o,1,.inl (Qk aJ);rw[lv];refine{0,n,C,B,30,o2,e.cl,e.Qde,qC _,00,Yy,λL M=>?_};have s2:=Qf M (.tup [jv b,jv a]);have ao:L≠d.a:=λz=>by rw[z,Qb]at M;cases M
 have aR:N.length<=2*x.zt.length+1:=by rw[<-av];have:=Va kv [ki a,ki b] (jv x.zt.length);lia
 exists d.a,0,Oi.t (k:=[ki b,ki a]) (s2 _ _ Qb) Qb (by rw[TJ];lia);generalize aw:V2 N [ki b,ki a] (jv x.zt.length)=kv2;have aK:kv2.length<=2*(x.zt.length+1):=by rw[<-aw];have:=Va N [ki b,ki a] (jv x.zt.length);lia
 rw[ZR (a:=d.a) (b:=L) (Ta ao),Vq];have aI:(zj y G (.tup [jv a,jv b])) L=Gq:=by rw[Qh ao]at M;exact M
 have E:Q9 y (zj (zj y G (.tup [jv a,jv b])) L (.tup [jv b,jv a])):=s1.trans (Qf aI _);generalize aO:zj (zj y G (.tup [jv a,jv b])) L (.tup [jv b,jv a])=T at E;have o3:(zj T d.a (.dT kv2)) n=Ga (.ins C B (Xs d)):=by rw[Qh nA];exact E _ _ Q
 have l3:(zj T d.a (.dT kv2)) d.k=Ga (.lst o):=by rw[Qh kA];exact E _ _ l1
 exists 0,n,C,B,30,o3,e.cl,e.zt,J1 _,.inl {13,Qk l3},0,d.k,o,01,l3,(by rw[TJ];lia);have Xa:=X.same E;have u:=Xa.P3 (kv2:=kv2) (ls':=o++[.ref c]) (lks:=x.zt++[(a,b,ak)]) (lat':=iy x.Xt a b x.zt.length) (by rw[Gk,Gy];exact aK) (λi j=>by
  rw[<-aw,qu,<-av,qu,a3];unfold iy;by_cases A:(i=a/\j=b)\/(i=b/\j=a)
  .rw[GV A];rcases A with⟨rfl,rfl⟩|⟨rfl,rfl⟩
   .rw[GV rfl];split<;>rfl
   .rw[GV rfl];rfl
  .rw[Gs A,Gs (λz=>A (by simp only[Db,BO]at z;exact .inr {Ip z.1,Ip z.2})),Gs (λz=>A (by simp only[Db,BO]at z;exact .inl {Ip z.1,Ip z.2}))])
  (Zq (Qr l2 λ_ _ l=>l.Qv (Q7.of E)) (.cons (hc.Qv (Q7.of E)) .nil))
 have Fb:Ov d x.S y (zj (zj T d.a (.dT kv2)) d.k (.lst (o++[.ref c]))):=((Ov.of E).trans (Ov.zj (.inr (.inr (.inr (.inr (.inr (.inl Xb)))))))).trans (Ov.zj (.inr (.inr (.inr (.inr (.inl Xb))))));generalize zj (zj T d.a (.dT kv2)) d.k (.lst (o++[.ref c]))=Hb at u Fb;have(H,J):=u.ob;have aB:=h.ld a W;have aC:=h.ld b Y;have go:∀g hi,((g=a/\hi=b)\/(g=b/\hi=a))->rg P w C [.ref n,jv g,jv hi] Hb (λ_ r=>∃k,r n=Ga (.ins C k (Xs d))/\r d.l=Ga (.dK (dS x.S λp=>jv (x.zg p)))/\qh P w C [.ref n,jv (x.zg g),jv (x.zg hi)] r an ac) ac:=by
  intro g hi aa;have ab:g∈x.S:=by rcases aa with⟨l,_⟩|⟨l,_⟩<;>rw[l]<;>assumption
  have au:hi∈x.S:=by rcases aa with⟨_,l⟩|⟨_,l⟩<;>rw[l]<;>assumption
  have ax:x.zg g≠x.zg hi:=by
   rcases aa with⟨A,h2⟩|⟨A,h2⟩<;>rw[A,h2]
   .exact ay
   .exact Ta ay
  have I:=h.ld g ab;have Z:=h.idem g ab;have kS:=h.ld hi au;have kk:=h.idem hi au;have(cl,ag):=h.fst.chain g ab;refine{n,d,fs,R,_,g,hi,cl,1,u,ag,h.fst.chS ag ab,by show x.S.length<=_;lia,λr X1 k1 t1=>?_};have(k,v):=X1.ob;have F1:Ov d x.S Hb r:={λb aL aG hb=>k1 b aL aG (λz=>hb (z▸.inr (.inr (.inr (.inr (.inr (.inr (.inl Xb)))))))),t1};have aT:=Xy (h.Qnr _ I Z) λp D=>((h.Qc0 _ I Z p).mp D).1;have aU:=Xy (h.Qnr _ kS kk) λp D=>((h.Qc0 _ kS kk p).mp D).1;have am:=zh (f:=λp=>if x.zg p=p then(x.Xx p).length else 0) ax I kS;rw[GV Z,GV kk]at am;have am:(x.Xx (x.zg g)).length+(x.Xx (x.zg hi)).length<=Ja x:=am;refine{k,v,X1.le,n,d,fs,R,_,x.zg g,x.zg hi,1,X1,aH,I,kS,ax,λp D=>((h.Qc0 _ I Z p).mp D).1,λp D=>h.Qj2 _ I p D,by show x.S.length<=_;lia,?_,?_,?_,λai es H' aD FY lY rY pY=>?_}
  .show(x.mem (x.zg hi)).length+(x.mem (x.zg g)).length<=_;lia
  .show(x.Xx (x.zg hi)).length+(x.Xx (x.zg g)).length<=_;lia
  .show R+(x.Xx (x.zg g)).length<=_;lia
  .refine q g hi cl ai es H' aa ag (Yn.mono ?_ aD) ((Fb.trans F1).trans FY) (Fb.there ai (t1 ai lY)) rY pY;show R+(x.Xx (x.zg g)).length<=_;lia
 have aE:=go a b (.inl ⟨Xb,Xb⟩);have aF:=go b a (.inr ⟨Xb,Xb⟩);exists 0,n,C,H,30,J,e.cl,e.members,V1 _,0,n,C,H,30,J,e.cl,e.Vz,Xd _,0,d.l,0,X5 u.le W,d.m,0,X5 u.me aB,30,.inl (Qk (u.ml _ aB)),0,n,C,H,30,J,e.cl,e.members,V1 _,0,n,C,H,30,J,e.cl,e.Vz,Xd _,0,d.l,0,X5 u.le Y,d.m,0,X5 u.me aC,30,.inl (Qk (u.ml _ aC)),3010;refine Uu (λ_=>?_) (λ_=>?_)
 .subst_vars;have(n',A',ae,al,x',aj,ah,ad,e1,e2,e3,e4,e5,e6):=aE;and_intros;refine{0,n,H,0,J,vR _,00,n',A',ae,al,x',aj,ah,ad,e1,e2,e3,e4,e5,λr y1 y2 y3=>?_};have(k,v,O,g1):=e6 r y1 y2 y3;exact{0,n,k,0,v,Ae _,0,n,C,k,30,v,e.cl,e.Vz,Xd _,0,d.l,0,X5 O W,0,n,C,k,30,v,e.cl,e.Vz,Xd _,0,d.l,0,X5 O Y,g1}
 .subst_vars;have(n',A',ae,al,x',aj,ah,ad,e1,e2,e3,e4,e5,e6):=aF;and_intros;refine{0,n,H,0,J,vR _,00,n',A',ae,al,x',aj,ah,ad,e1,e2,e3,e4,e5,λr y1 y2 y3=>?_};have(k,v,O,g1):=e6 r y1 y2 y3;exact{0,n,k,0,v,Ae _,0,n,C,k,30,v,e.cl,e.Vz,Xd _,0,d.l,0,X5 O Y,0,n,C,k,30,v,e.cl,e.Vz,Xd _,0,d.l,0,X5 O W,g1}
structure iq(fs:List Fm)(x x':Nn)(a b:Nat)(r:Option Ie)(pend:List Lk):Prop where
 inv:Wx (Yr fs) (Zw fs) x' pend
 S:x'.S=x.S
 Ja:Ja x'=Ja x
 eq:Cj x.S x'.zg pend a b
 mono:∀p∈x.S,∀q∈x.S,x.zg p=x.zg q->x'.zg p=x'.zg q
 snd:∀E,Ec (Yr fs) (Zw fs) x.S E->ig E x [(a,b,r)]->ig E x' pend
 rsn:∀y∈x'.zt,y∈x.zt\/y=(a,b,r)\/y.2.2=Gq
 pnd:∀y∈pend,y=(a,b,r)\/y.2.2=Gq
 less:cls x'+x'.zt.length<=cls x+x.zt.length
 more:x.zt.length<=x'.zt.length
inductive zS(P:Gn)(w:Tg)(C:Gd)(vs:List V)(H:Hp)(Q:VK):Prop
 |mk (n:Gd) (A:Na) (fs:List Fm) (tb:Nat) (x:Nn) (a:Nat) (b:Nat) (rv:V) (r:Option Ie) (h0:vs=[.ref n,jv a,jv b,rv]) (h1:Yn P w C H n A fs tb x) (h2:iM fs x.S) (h3:kP H rv r) (h4:r≠Gq) (h5:a∈x.S) (h6:b∈x.S) (h7:Wx (Yr fs) (Zw fs) x []) (h8:x.S.length<=10000) (h9:Ja x<=10000) (h10:cls x+x.zt.length<=10000) (h11:tb+cls x*Ja x<=900000) (h12:∀(x':Nn)(H':Hp),Yn P w C H' n A fs (tb+(x'.zt.length - x.zt.length)*Ja x) x'->iq fs x x' a b r []->Ov A x.S H H'->Q .non H'):zS P w C vs H Q
def pF(P:Gn)(w:Tg)(C:Gd):Sp:=λa H Q _=>zS P w C a H Q
theorem iq.start{c:List Fm}{x:Nn}{a b:Nat}{r:Option Ie}(I:Wx (Yr c) (Zw c) x [])(g:r≠Gq)(d:a∈x.S)(f:b∈x.S):iq c x x a b r [(a,b,r)]:=
 {I.xE (λ_ _ _ h=>by simp at h) λi j k h=>by simp at h;have(rfl,rfl,rfl):=h;exact{d,f,λe=>absurd e g},11,.wait (r:=r) (by simp),λ_ _ _ _ e=>e,λE _ h=>h,λy h=>.inl h,λy h=>by simp at h;exact .inl h,GJ _,GJ _}
theorem iq.drop{k:List Fm}{x d:Nn}{a b f g:Nat}{r l:Option Ie}{c:List Lk}(M:iq k x d a b r (c++[(f,g,l)]))(e:d.zg f=d.zg g):iq k x d a b r c:=by
 have(i,j,_):=M.inv.pnd f g l (by simp);rw[M.S]at i j;refine{M.inv.drop e,M.S,M.Ja,M.eq.map (λp n q o e=>.zg n o e) (λp q w m=>?_),M.mono,λE X h=>{(M.snd E X h).1,λu v s m=>(M.snd E X h).2 u v s (Gu _ m)},M.rsn,λy t=>M.pnd y (Gu _ t),M.less,M.more};rcases Gh.mp m with m|m
 .exact .wait m
 .simp at m;have(rfl,rfl,rfl):=m;exact .zg i j e
theorem iq.join{g:List Fm}{x c:Nn}{a b d f:Nat}{r l:Option Ie}{n:List Lk}(M:iq g x c a b r (n++[(d,f,l)]))(t:c.zg d≠c.zg f){k hi:Nat}{o:List Nat}(j:(k=d/\hi=f)\/(k=f/\hi=d))(B:Ch c.up k o):
  iq g x (Y1 (Yr g) (Zw g) c d f l k hi o).1 a b r (n++(Y1 (Yr g) (Zw g) c d f l k hi o).2):=by
 have(D,F,_):=M.inv.pnd d f l (by simp);have(J,L):=M.inv.join t j B;have(I,G,K,N):=M.inv.less t j B;have C:∀p∈c.S,∀q∈c.S,c.zg p=c.zg q->(Y1 (Yr g) (Zw g) c d f l k hi o).1.zg p=(Y1 (Yr g) (Zw g) c d f l k hi o).1.zg q:=λp w q z e=>by rw[L p w,L q z,e]
 have A:(Y1 (Yr g) (Zw g) c d f l k hi o).1.zg d=(Y1 (Yr g) (Zw g) c d f l k hi o).1.zg f:=by
  rw[L d D,L f F];rcases j with⟨rfl,rfl⟩|⟨rfl,rfl⟩
  .rw[GV rfl];split<;>rfl
  .rw[GV rfl];split<;>rfl
 exists J,M.S,G.trans M.Ja,M.eq.map (λp w q z e=>.zg w z (C p (M.S▸w) q (M.S▸z) e)) (λp q H m=>?_),λp w q z e=>C p (M.S▸w) q (M.S▸z) (M.mono p w q z e),λE X h=>ig.join (M.snd E X h) (by rw[M.S];exact X) M.inv t j B,λy i=>?_,λy i=>?_,?_
 .rcases Gh.mp m with m|m
  .exact .wait (Gu _ m)
  .simp at m;have(rfl,rfl,rfl):=m;exact .zg (M.S▸D) (M.S▸F) A
 .have i:y∈c.zt++[(d,f,l)]:=i;rcases Gh.mp i with i|i
  .exact M.rsn y i
  .rw[Tb]at i;subst i;exact .inr (M.pnd _ (by simp))
 .rcases Gh.mp i with i|i
  .exact M.pnd y (Gu _ i)
  .obtain⟨u,v,s⟩:=y;exact .inr (UF i)
 .have:=M.less;lia
 .have:=M.more;lia
theorem uV:Q8 ["self","one","other","reason","waiting","link"] ["self","one","other","reason"] (Qo ri):=by eq_refl
theorem Qc3{c d:Type}{F:c->d->Prop}{a:List c}{b:List d}(p:Dg F a b)(l:a≠[]):∃x y,a[a.length - 1]?=Ga x/\b=b.dropLast++[y]/\F x y/\Dg F a.dropLast b.dropLast:=by
 induction p with
 |nil=>exact absurd rfl l
 |cons h t j=>
  cases t with
  |nil=>exact{301,h,.nil}
  |cons k t=>
   have(x,y,e,f,g,i):=j nofun;exists x,y,?_,?_,g
   .simpa using e
   .simp only[MJ,Dp];rw[<-f]
   .simp only[MJ];exact .cons h i
theorem Pn{aj fE fM:Gd}{ak al:Do}(F:Wg K "merge" "Net.merge" ri aj fd)(ag:Jj K mg C)(mE:Yq K C "equal" fE)(GE:Q3 P w K mg base Ya 1 fE ak ["self","one","other"] (oi P w C))(bE:zk K ak ["self","one","other"] [])
  (mM:Yq K C "merge_link" fM)(GM:Q3 P w K mg base Ya 3 fM al ["self","link"] (xG P w C))(bM:zk K al ["self","link"] []):
  Q3 P w K mg base Ya 4 aj fd ["self","one","other","reason"] (pF P w C):=by
 refine F.ok uV (λe H af b o=>?_) (λh m p s H e af b hr o=>?_)
 .obtain⟨n,m,j,tb,x,a,J,Y,ab,rfl,_⟩:=o;rfl
 have(n,m,j,tb,x,a,J,Y,ab,rfl,X,ay,aF,aE,aS,bS,av,hS,hT,aK,aO,q):=o;have aC:Yl 1 _:=hr.mono (by lia);have aD:Yl 3 _:=hr.mono (by lia);have nd:=uV.nd;exists _,Qc (Qz 4 nd (Zt (Qa (Ze (Qa {1} (Qa {2} (Qa {3} Qd)))) Qd)))
  (Qg (Ww Tj (Da {4} (λ_=>rfl))
   (Qc (Qz 5 nd (O0 Te Et Eu O3 {4}))
   (Qg (Zb (Yk (Z1 (Zn {0} ag.cl mE GE aC bE .nil Q5 (Qa (Qn Qs {5} Qi) (Qa (Qn Qs {5} Qi) Qd)))))
    (Qg (Zl (X6 Te LL LM rH {4} (Qa (Zn {0} ag.cl mM GM aD bM .nil Q5 (Qa {5} Qd)) Qd)))) Qw)))))
 have(dx,o1):=X.ob;refine{000,Vm,λc U=>?_};have s1:=Qf U (.tup [jv a,jv J,Y]);refine{Wz,λg ap=>?_};have s2:=Qf ap (.lst [.ref c]);have ac:=s1.trans s2;have u:H g=Gq:=s1.free ap;have wO:¬hV m x.S g:=X.OW u;have wf:g≠m.f:=λz=>by have(f,f1,_):=X.fo;rw[z,f1]at u;cases u
 have wn:g≠n:=λz=>by rw[z,o1]at u;cases u
 dsimp only[Ui];let aG:Nat->St->Hp->Prop:=λar ae l=>iC λ(x5:Option V)(f:List V)(d:Nn)(t:List Lk)=>ir (ar=cls d*(Ja x+1)+t.length) (ae=[Ga (.ref n),Ga (jv a),Ga (jv J),Ga Y,Ga (.ref g),x5]) (l g=Ga (.lst f)) (Dg (On l) f t) (Yn P w C l n m j (tb+(d.zt.length - x.zt.length)*Ja x) d) (iq j x d a J ab t) (Ov m x.S H l) (t.length<=1+(cls x - cls d)*Ja x)
 refine rG aG
  {_,Gq,[.ref c],x,[(a,J,ab)],11,Qb,.cons {c,Y,1,s2 _ _ Qb,aF.Qv (Q7.of ac)} .nil,(X.same ac).mono (by lia),iq.start av aE aS bS,Ov.of ac,by simp} ?_ (λae H af e b=>λo=>by have(au,e1,k,S,e3):=o;exact{au,e1,k,S,b _ _ e3})
 rintro ar ae l ⟨x5,f,d,t,rfl,rfl,w2,p2,ah,i,F2,pl⟩;exists 03,.inl {f,Qk w2,1};have aR:=GQ p2;have aJ:=vZ x;cases hw:f with
 |nil=>refine Q4 ?_;subst hw;cases p2;exact q d l ah i F2
 |cons z zs=>
  refine Yp ?_;have aB:f≠[]:=by rw[hw];simp
  have(au,(p,r,v),e1,S,e3,e4):=Qc3 p2 aB;have ao:t.length=t.dropLast.length+1:=by rw[S];simp
  have(L,aH,rfl,am,az):=e3;exists 0,.inl {13,Qk w2},g,f,01,w2,e1;have Z:Q7 l (zj l g (.lst f.dropLast)):=Z2 λxs e=>by rw[w2]at e;cases e
  have y:=i.S;have A:Yn P w C (zj l g (.lst f.dropLast)) n m j (tb+(d.zt.length - x.zt.length)*Ja x) d:=ah.keep (λh E e b=>by
   rw[Qh λz=>?_]
   .exact e
   .subst z;rcases b with b|b|b
    .rw[y]at b;exact wO b
    .exact wf b
    .exact wn b) Z
  have Q:Ov m x.S H (zj l g (.lst f.dropLast)):=⟨λh E e b=>by rw[Qh (Qe e u)];exact F2.keep h E e b,λh b=>by
   by_cases e:h=g
   .subst e;exact u
   .rw[Qh e]at b;exact F2.there h b⟩
  have O:(zj l g (.lst f.dropLast)) g=Ga (.lst f.dropLast):=Qb;have M:Dg (On (zj l g (.lst f.dropLast))) f.dropLast t.dropLast:=Qr e4 λ_ _ o=>o.Qv Z;have l3:On (zj l g (.lst f.dropLast)) (.ref L) (p,r,v):=On.Qv Z ⟨L,aH,Xb,am,az⟩;have aa:=Z _ _ am;generalize zj l g (.lst f.dropLast)=H3 at A Q O M l3 aa;rw[S]at i;generalize t.dropLast=N at i M ao;have(aw,ax,_):=i.inv.pnd p r v (by simp);have(ai,o3):=A.ob;exists 0,n,ai,0,o3,qO _,0,L,201,Qj aa,Ol _ _,0,L,201,Qj aa,Rh _ _ _,n,m,j,_,d,p,r,1,A,aw,ax,0;by_cases D:d.zg p=d.zg r
  .rw[Ti D];refine Q4 {_,?_,_,f.dropLast,d,N,11,O,M,A,i.drop D,Q,by lia};lia
  .rw[Td D];refine Yp ?_;have aA:d.zt.length - x.zt.length<=cls x:=by have:=i.less;lia
   have aN:(d.zt.length - x.zt.length)*Ja x<=cls x*Ja x:=SG _ aA;have B:=i.Ja;have aQ:f.dropLast.length=N.length:=GQ M;have aL:N.length+Ja x<=1000000:=by have:(cls x - cls d)*Ja x<=cls x*Ja x:=SG _ (Nat.sub_le _ _);lia
   refine{0,.inl {13,Qk O},0,n,ai,0,o3,Qik _,0,n,m,j,_,d,L,p,r,v,N,1,A,by rw[y];exact ay,l3,i.inv,D,by rw[y];exact hS,by rw[B];exact hT,by have:=i.less;lia,by rw[B];lia,λW hi R aq T I an U Y4 G hl r4 p4=>?_};rw[y]at G;have w4:I g=Ga (.lst f.dropLast):=G.keep _ _ O wO;have aM:aq≠g:=λz=>by rw[z,O]at hl;cases hl
   have(j1,j2,j3,j4):=i.inv.less D an U;have aP:T.length<=Ja x:=by rw[GQ p4,<-B];exact j3
   exists g,aq,f.dropLast,T,11,w4,r4,small (by lia);have aI:Q7 H3 I:=λh xs e=>G.keep h _ e (by rw[<-y];exact A.sv e);have ad:Q7 I (zj I g (.lst (f.dropLast++T))):=Z2 λxs e=>by rw[w4]at e;cases e
   have Y5:Yn P w C (zj I g (.lst (f.dropLast++T))) n m j _ _:=Y4.keep (λh E e b=>by
    rw[Qh λz=>?_]
    .exact e
    .subst z;rcases b with b|b|b
     .have b:hV m d.S h:=b;rw[y]at b;exact wO b
     .exact wf b
     .exact wn b) ad
   have M5:=i.join D an U;exists cls (Y1 (Yr j) (Zw j) d p r v W hi R).1*(Ja x+1)+(N++(Y1 (Yr j) (Zw j) d p r v W hi R).2).length,?_,3201,Qb,Zq (Qr M λ_ _ o=>(o.Qv aI).Qv ad) (Qr p4 λ_ _ o=>o.Qv ad),Y5.mono ?_,M5,{λh E e b=>?_,λh b=>?_}
   .rw[Gk,ao];have hj:cls (Y1 (Yr j) (Zw j) d p r v W hi R).1+1<=cls d:=j1;have:=SG (Ja x+1) hj;rw[S9,Bu]at this;rw[B]at j3;lia
   .rw[B,j4];have:=i.more;rw[show d.zt.length+1 - x.zt.length=(d.zt.length - x.zt.length)+1 by lia,S9,Bu];lia
   .rw[Qh (Qe e u)];exact G.keep h E (Q.keep h E e b) b
   .by_cases e:h=g
    .subst e;exact u
    .rw[Qh e]at b;exact Q.there h (G.there h b)
   .rw[Gk];have h1:cls x - cls d+1<=cls x - cls (Y1 (Yr j) (Zw j) d p r v W hi R).1:=by have:=i.less;have:=i.more;lia
    have:=SG (Ja x) h1;rw[S9,Bu]at this;rw[B]at j3;lia
inductive yE(P:Gn)(w:Tg)(C:Gd)(vs:List V)(H:Hp)(Q:VK):Prop
 |mk (n:Gd) (dx:Gd) (f:Gd) (ws:List V) (fs:List Fm) (h0:vs=[.ref n,.ref f]) (h1:H n=Ga (.ins C dx [])) (h2:H f=Ga (.lst ws)) (h3:Dg (Oj H) ws fs) (h4:∀(A:Na)(H':Hp),A.f=f->Yn P w C H' n A fs 0 (fresh (Yr fs) (Zw fs) [])->(∀b o,H b=Ga o->b≠n->H' b=Ga o)->(∀b,hV A [] b->H b=Gq)->Q .non H'):yE P w C vs H Q
def tx(P:Gn)(w:Tg)(C:Gd):Sp:=λa H Q _=>yE P w C a H Q
theorem UR:Q8 ["self","forms"] ["self","forms"] (Qo Wt):=by eq_refl
theorem WX{f0:Gd}(F:Wg K "__init__" "Net.__init__" Wt f0 fd)(B:Jj K mg C):Q3 P w K mg base Ya 1 f0 fd ["self","forms"] (tx P w C):=by
 refine F.ok UR (λvs A ao aj W=>?_) (λaB aA aC s A vs ao aj hr W=>?_)
 .obtain⟨n,f,r,ws,fs,rfl,_⟩:=W;rfl
 have(n,f,r,ws,fs,rfl,hn,hf,az,q):=W;show∃t,W0 ?my _ t/\_;let w8:Xk ?my Wt 7:={_,Qg (Xm {0} Jt Xb)}
 let w7:Xk ?my Wt 6:={_,Qc (Xm {0} nV Xb) w8.2}
 let w6:Xk ?my Wt 5:={_,Qc (Xm {0} (Zt Qd) rfl) w7.2}
 let w5:Xk ?my Wt 4:={_,Qc (Xm (tv:=pG P w) {0} Rn Xb) w6.2}
 let w4:Xk ?my Wt 3:={_,Qc (Xm {0} Jt Xb) w5.2}
 let w3:Xk ?my Wt 2:={_,Qc (Xm {0} Jt Xb) w4.2}
 let w2:Xk ?my Wt 1:={_,Qc (Xm {0} Jt Xb) w3.2}
 exists _,Qc (Xm {0} {1} rfl) w2.2;have l:∀{v:Hp}{b a:Gd}{c Y:HO}{ab:List (TQ×V)},v b=Ga c->b≠n->v a=Gq->(zj (zj v a Y) n (.ins C f ab)) b=Ga c:=λe d ha=>by rw[Qh d,Qh (Qe e ha)];exact e
 have Z:∀{v:Hp}{a:Gd}{Y:HO}{ab:List (TQ×V)}{c:HO},v n=Ga c->v a=Gq->(zj (zj v a Y) n (.ins C f ab)) a=Ga Y:=λe ha=>by rw[Qh (Ta (Qe e ha)),Qb]
 exists 00,n,C,f,[],1,hn,B.cl,B.Qe8,(by show 0<1000;decide);have fn:r≠n:=Ys hf hn nofun;have g0:∀b c,A b=Ga c->b≠n->(zj A n (.ins C f (Y0 "forms" (.ref r) []))) b=Ga c:=λb c e d=>by rw[Qh d];exact e
 have n0:(zj A n (.ins C f (Y0 "forms" (.ref r) []))) n=Ga (.ins C f (Y0 "forms" (.ref r) [])):=Qb;have t0:∀b,(zj A n (.ins C f (Y0 "forms" (.ref r) []))) b=Gq->A b=Gq:=λb d=>by
  by_cases e:b=n
  .subst e;rw[Qb]at d;cases d
  .rw[Qh e]at d;exact d
 generalize zj A n (.ins C f (Y0 "forms" (.ref r) []))=v at g0 n0 t0;have tt:∀{v:Hp}{a:Gd}{Y:HO}{ab:List (TQ×V)},(∀b,v b=Gq->A b=Gq)->∀b,(zj (zj v a Y) n (.ins C f ab)) b=Gq->A b=Gq:=λW b d=>by
  refine W b ?_;by_cases e:b=n
  .subst e;rw[Qb]at d;cases d
  .rw[Qh e]at d
   rename_i v a Y ab
   by_cases e2:b=a
   .subst e2;rw[Qb]at d;cases d
   .rw[Qh e2]at d;exact d
 intro h ae;exists 0,n,C,f,0,(by rw[Qh (Qe n0 ae)];exact n0),B.cl,B.Vz,(by show 1<1000;decide);have l1:=@Z v h (.dK []) (Y0 "leads" (.ref h) (Y0 "forms" (.ref r) [])) _ n0 ae;have n1:=@Qb (zj v h (.dK [])) n (.ins C f (Y0 "leads" (.ref h) (Y0 "forms" (.ref r) [])));have g1:∀b c,A b=Ga c->b≠n->_:=λb c e d=>@l v b h c (.dK []) (Y0 "leads" (.ref h) (Y0 "forms" (.ref r) [])) (g0 b c e d) d ae;have t1:=@tt v h (.dK []) (Y0 "leads" (.ref h) (Y0 "forms" (.ref r) [])) t0;have ln:h≠n:=Ta (Qe n0 ae);have aq:=t0 _ ae;generalize zj (zj v h (.dK [])) n (.ins C f (Y0 "leads" (.ref h) (Y0 "forms" (.ref r) [])))=H1 at l1 n1 g1 t1⊢;intro m X;exists 0,n,C,f,0,(by rw[Qh (Qe n1 X)];exact n1),B.cl,B.members,(by show 2<1000;decide);generalize ac:Y0 "members" (.ref m) (Y0 "leads" (.ref h) (Y0 "forms" (.ref r) []))=T;have m2:=@Z H1 m (.dK []) T _ n1 X;have n2:=@Qb (zj H1 m (.dK [])) n (.ins C f T);have g2:∀b c,A b=Ga c->b≠n->_:=λb c e d=>@l H1 b m c (.dK []) T (g1 b c e d) d X;have t2:=@tt H1 m (.dK []) T t1;have mn:m≠n:=Ta (Qe n1 X);have ar:=t1 _ X;have l2:=@l H1 h m _ (.dK []) T l1 ln X;have lm:h≠m:=Qe l1 X;generalize zj (zj H1 m (.dK [])) n (.ins C f T)=U at m2 n2 g2 t2 l2⊢;intro o N;exists 0,n,C,f,0,(by rw[Qh (Qe n2 N)];exact n2),B.cl,B.Qf2,(by rw[<-ac];show 3<1000;decide);generalize ad:Y0 "users" (.ref o) T=O;have u3:=@Z U o (.dK []) O _ n2 N;have n3:=@Qb (zj U o (.dK [])) n (.ins C f O);have g3:∀b c,A b=Ga c->b≠n->_:=λb c e d=>@l U b o c (.dK []) O (g2 b c e d) d N;have t3:=@tt U o (.dK []) O t2;have un:o≠n:=Ta (Qe n2 N);have ax:=t2 _ N;have l3:=@l U h o _ (.dK []) O l2 ln N;have m3:=@l U m o _ (.dK []) O m2 mn N;have lu:h≠o:=Qe l2 N;have mu:m≠o:=Qe m2 N;generalize zj (zj U o (.dK [])) n (.ins C f O)=Q at u3 n3 g3 t3 l3 m3⊢;intro g R;exists 0,n,C,f,0,(by rw[Qh (Qe n3 R)];exact n3),B.cl,B.table,by rw[<-ad,<-ac];show 4<1000;decide,Tu _;generalize af:Y0 "table" (.ref g) O=I;have d4:=@Z Q g (Uv P w g []) I _ n3 R;have n4:=@Qb (zj Q g (Uv P w g [])) n (.ins C f I);have g4:∀b c,A b=Ga c->b≠n->_:=λb c e d=>@l Q b g c (Uv P w g []) I (g3 b c e d) d R;have t4:=@tt Q g (Uv P w g []) I t3;have dn:g≠n:=Ta (Qe n3 R);have aw:=t3 _ R;have l4:=@l Q h g _ (Uv P w g []) I l3 ln R;have m4:=@l Q m g _ (Uv P w g []) I m3 mn R;have u4:=@l Q o g _ (Uv P w g []) I u3 un R;generalize zj (zj Q g (Uv P w g [])) n (.ins C f I)=J at d4 n4 g4 t4 l4 m4 u4⊢;intro u M;exists 0,n,C,f,0,(by rw[Qh (Qe n4 M)];exact n4),B.cl,B.zt,(by rw[<-af,<-ad,<-ac];show 5<1000;decide);generalize ah:Y0 "links" (.ref u) I=E;have k5:=@Z J u (.lst []) E _ n4 M;have n5:=@Qb (zj J u (.lst [])) n (.ins C f E);have g5:∀b c,A b=Ga c->b≠n->_:=λb c e d=>@l J b u c (.lst []) E (g4 b c e d) d M;have t5:=@tt J u (.lst []) E t4;have kn:u≠n:=Ta (Qe n4 M);have ag:=t4 _ M;have l5:=@l J h u _ (.lst []) E l4 ln M;have m5:=@l J m u _ (.lst []) E m4 mn M;have u5:=@l J o u _ (.lst []) E u4 un M;have d5:=@l J g u _ (.lst []) E d4 dn M;generalize zj (zj J u (.lst [])) n (.ins C f E)=G at k5 n5 g5 t5 l5 m5 u5 d5⊢;intro x H;exists 0,n,C,f,0,(by rw[Qh (Qe n5 H)];exact n5),B.cl,B.Qde,(by rw[<-ah,<-af,<-ad,<-ac];show 6<1000;decide);generalize ai:Y0 "link_at" (.ref x) E=D;have a6:=@Z G x (.dT []) D _ n5 H;have n6:=@Qb (zj G x (.dT [])) n (.ins C f D);have g6:∀b c,A b=Ga c->b≠n->_:=λb c e d=>@l G b x c (.dT []) D (g5 b c e d) d H;have t6:=@tt G x (.dT []) D t5;have an:x≠n:=Ta (Qe n5 H);have ap:=t5 _ H;have l6:=@l G h x _ (.dT []) D l5 ln H;have m6:=@l G m x _ (.dT []) D m5 mn H;have u6:=@l G o x _ (.dT []) D u5 un H;have d6:=@l G g x _ (.dT []) D d5 dn H;have k6:=@l G u x _ (.dT []) D k5 kn H;generalize zj (zj G x (.dT [])) n (.ins C f D)=H6 at a6 n6 g6 t6 l6 m6 u6 d6 k6⊢;intro L S;exists 0,n,C,f,0,(by rw[Qh (Qe n6 S)];exact n6),B.cl,B.above,(by rw[<-ai,<-ah,<-af,<-ad,<-ac];show 7<1000;decide);have ay:Y0 "above" (.ref L) D=Xs {r,h,m,o,g,u,x,L,λ_=>0,λ_=>0}:=by rw[<-ai,<-ah,<-af,<-ad,<-ac];rfl
 rw[ay];have v7:=@Z H6 L (.dK []) (Xs {r,h,m,o,g,u,x,L,λ_=>0,λ_=>0}) _ n6 S;have g7:∀b c,A b=Ga c->b≠n->_:=λb c e d=>@l H6 b L c (.dK []) (Xs {r,h,m,o,g,u,x,L,λ_=>0,λ_=>0}) (g6 b c e d) d S;have s7:∀{b c},H6 b=Ga c->b≠n->_:=λ{b c}e d=>@l H6 b L c (.dK []) (Xs {r,h,m,o,g,u,x,L,λ_=>0,λ_=>0}) e d S;refine q {r,h,m,o,g,u,x,L,λ_=>0,λ_=>0} _ rfl ⟨⟨f,Qb⟩,{ws,g7 _ _ hf fn,Qr az λ_ _ W=>W.Qv λb xs e=>g7 b _ e (Ys e hn nofun)},s7 l6 ln,s7 m6 mn,s7 u6 un,{[],{s7 d6 dn,(λp y=>nomatch y)},GJ _,λk=>rfl},{[],s7 k6 kn,.nil},{[],s7 a6 an,GJ _,λi j=>rfl},v7,(λp y=>nomatch y),(λp y=>nomatch y),
  {lm,lu,Qe l6 S,mu,Qe m6 S,Qe u6 S,λz=>?_,(λp y=>nomatch y),(λp y=>nomatch y),(λp y=>nomatch y),(λp y=>nomatch y),(λp y=>nomatch y)}⟩ g7 (λb d=>?_)
 .have z:u=r:=z;rw[z,hf]at ag;cases ag
 .rcases d with rfl|rfl|rfl|rfl|rfl|rfl|rfl|⟨p,y,_⟩
  .exact aq
  .exact ar
  .exact ax
  .exact aw
  .exact ag
  .exact ap
  .exact t6 _ S
  .exact nomatch y
end
end K06
namespace Nt
theorem Ao{a:Nat->List Nat}{M:Nat}(h:∀p,(a p).length<=M):∀(S:List Nat)(q:Nat),(Xo a S q).length<=S.length*M
 |[],q=>by simp[Xo]
 |p::S,q=>by have b:=Ao h S q;have c:((a p).count q)<=(a p).length:=NA;have d:=h p;unfold Xo at b⊢;rw[Mu,Gk,Ss,TB,S9];lia
theorem ZX{a:Nat->List Nat}{S:List Nat}{p:Nat}(h:∀q∈S,p∉a q):Xo a S p=[]:=by unfold Xo;rw[List.flatMap_eq_nil_iff];intro q b;have:(a q).count p=0:=List.count_eq_zero.mpr (h q b);rw[this];rfl
theorem Qc7{l:List Nat}{i u q:Nat}(h:l[i]?=Ga u):(l.take (i+1)).count q=(l.take i).count q+if u=q then 1 else 0:=by
 rw[TF,h,List.count_append];congr 1;simp only[Option.toList];rw[List.count_singleton];by_cases e:u=q
 .rw[GV e];simp[e]
 .rw[Gs e];simp[e]
end Nt
namespace K06
open PySem L2 Sb Nt
variable{A:Na}{S:List Nat}{H:Hp}{C:Gd}
structure rb(fs:List Fm)(rk:Nat->Nat):Prop where
 str:∀p,DM (Yr fs p)=Gi
 few:∀p,(Zw fs p).length<=100
 pts:∀p,p<fs.length->∀q∈Zw fs p,q<fs.length/\rk q<rk p
 inj:∀p q,p<fs.length->q<fs.length->Yr fs p=Yr fs q->Zw fs p=Zw fs q->p=q
 len:fs.length<=1000
structure Frs(P:Gn)(w:Tg)(C:Gd)(H:Hp)(n:Gd)(A:Na)(fs:List Fm)(S:List Nat):Prop where
 at_:Yn P w C H n A fs S.length (fresh (Yr fs) (Zw fs) S)
 nd:S.Nodup
 cl:∀p∈S,∀q∈Zw fs p,q∈S
 lt:∀p∈S,p<fs.length
structure iA(A:Na)(S:List Nat)(A':Na)(S':List Nat)(H H':Hp):Prop where
 keep:∀b o,H b=Ga o->¬hV A S b->H' b=Ga o
 own:∀b,hV A' S' b->hV A S b\/H b=Gq
 there:∀b,H' b=Gq->H b=Gq
theorem iA.refl:iA A S A S H H:={λ_ _ e _=>e,λ_ h=>.inl h,λ_ h=>h}
theorem iA.trans{a c:Na}{g i:List Nat}{d f:Hp}(x:iA A S a g H d)(y:iA a g c i d f):iA A S c i H f:=by
 refine{λb o e h=>y.keep b o (x.keep b o e h) λz=>?_,λb h=>?_,λb h=>x.there b (y.there b h)}
 .rcases x.own b z with z|z
  .exact h z
  .rw[e]at z;cases z
 .rcases y.own b h with h|h
  .exact x.own b h
  .exact .inr (x.there b h)
def na(A:Na)(ml ul:Nat->Gd):Na:={A with ml:=ml,ul:=ul}
inductive ua(P:Gn)(w:Tg)(C:Gd)(k:Nat)(vs:List V)(H:Hp)(Q:VK):Prop
 |mk (n:Gd) (A:Na) (fs:List Fm) (rk:Nat->Nat) (S:List Nat) (p:Nat) (h0:vs=[.ref n,jv p]) (h1:Frs P w C H n A fs S) (h2:rb fs rk) (h3:p<fs.length) (h4:rk p<k) (h5:∀(S':List Nat)(ml ul:Nat->Gd)(H':Hp),Frs P w C H' n (na A ml ul) fs S'->(∀q∈S,q∈S')->p∈S'->(∀q∈S',q∈S\/rk q<=rk p)->iA A S (na A ml ul) S' H H'->Q .non H'):ua P w C k vs H Q
def kR(P:Gn)(w:Tg)(C:Gd)(k:Nat):Sp:=λa H Q _=>ua P w C k a H Q
section
variable{P:Gn}{w:Tg}{K:Gf}{mg:TQ->Option Gj}{base:Heap}
theorem zM:Q8 ["self","place","part"] ["self","place"] (Qo Ve):=by eq_refl
theorem Qz8{P:Gn}{w:Tg}{n:Gd}{g:List Fm}{p:Nat}{m0 u0:Gd}(X:Yn P w C H n A g S.length (fresh (Yr g) (Zw g) S))(hp:p∉S)(hm:H m0=Gq)(hu:H u0=Gq)(t:m0≠u0)(x:Xo (Zw g) S p=[]):
  Yn P w C (zj (zj (zj (zj (zj (zj H A.l (.dK (dS (S++[p]) λq=>jv q))) m0 (.lst [jv p])) A.m (.dK (dS (S++[p]) λq=>.ref (if q=p then m0 else A.ml q)))) u0 (.lst [])) A.u (.dK (dS (S++[p]) λq=>.ref (if q=p then u0 else A.ul q)))) A.v (.dK (dS (S++[p]) λ_=>.non)))
   n (na A (λq=>if q=p then m0 else A.ml q) (λq=>if q=p then u0 else A.ul q)) g S.length {fresh (Yr g) (Zw g) (S++[p])with Xx:=Xo (Zw g) S,tab:=jq (Yr g) (Zw g) S}:=by
 have(V,o1):=X.ob;have(ws,B,W):=X.fo;have(i,D,T,U):=X.ta;have(ls,E,l2):=X.li;have(kv,Q,R):=X.at_;have j:∀{b o},H b=Ga o->b≠m0:=λe=>Qe e hm;have k:∀{b o},H b=Ga o->b≠u0:=λe=>Qe e hu;have u:∀{b o},H b=Ga o->b≠A.l->b≠A.m->b≠A.u->b≠A.v->(zj (zj (zj (zj (zj (zj H A.l (.dK (dS (S++[p]) λq=>jv q))) m0 (.lst [jv p])) A.m (.dK (dS (S++[p]) λq=>.ref (if q=p then m0 else A.ml q)))) u0 (.lst [])) A.u (.dK (dS (S++[p]) λq=>.ref (if q=p then u0 else A.ul q)))) A.v (.dK (dS (S++[p]) λ_=>.non))) b=Ga o:=λe m s Y Z=>by rw[Qh Z,Qh Y,Qh (k e),Qh s,Qh (j e),Qh m];exact e
 have y:∀{b o},H b=Ga o->(∀i,o≠.dK i)->b≠A.l/\b≠A.m/\b≠A.u/\b≠A.v:=λe h=>{Ys e X.le (h _),Ys e X.me (h _),Ys e X.us (h _),Ys e X.ab (h _)};have l:∀{b o},H b=Ga o->(∀i,o≠.dK i)->_:=λ{b o}e h=>u e (y e h).1 (y e h).2.1 (y e h).2.2.1 (y e h).2.2.2;have K:Q7 H _:=λb xs e=>l e (λ_ z=>nomatch z);have F:=j X.le;have I:=j X.me;have L:=j X.us;have N:=j X.ab;have G:=k X.le;have J:=k X.me;have M:=k X.us;have O:=k X.ab;have f:∀q∈S,q≠p:=λq a z=>hp (z▸a);refine{{V,l o1 (λ_ z=>nomatch z)},{ws,l B (λ_ z=>nomatch z),Qr W λ_ _ h=>h.Qv K},?_,?_,?_,{i,{l D.at_ (λ_ z=>nomatch z),Zp K D.keys},T,U},{ls,l E (λ_ z=>nomatch z),Qr l2 λ_ _ h=>h.Qv K},{kv,l Q (λ_ z=>nomatch z),R},Qb,λq a=>?_,λq a=>?_,{X.ap.lm,X.ap.lu,X.ap.lv,X.ap.mu,X.ap.mv,X.ap.uv,X.ap.kf,λq a r v=>?_,λq a r v=>?_,λq a r v=>?_,λq a=>?_,λq a=>?_}}
 .show(zj _ A.v _) A.l=Ga (HO.dK (dS (S++[p]) λq=>jv q));rw[Qh X.ap.lv,Qh X.ap.lu,Qh G,Qh X.ap.lm,Qh F,Qb]
 .show(zj _ A.v _) A.m=Ga (HO.dK (dS (S++[p]) λq=>.ref (if q=p then m0 else A.ml q)));rw[Qh X.ap.mv,Qh X.ap.mu,Qh J,Qb]
 .show(zj _ A.v _) A.u=Ga (HO.dK (dS (S++[p]) λq=>.ref (if q=p then u0 else A.ul q)));rw[Qh X.ap.uv,Qb]
 .show(zj _ A.v _) (if q=p then m0 else A.ml q)=Ga (.lst [jv q]);rcases Gh.mp a with a|a
  .rw[Gs (f q a)];exact l (X.ml q a) (λ_ z=>nomatch z)
  .have:q=p:=by simpa using a
   subst this;rw[GV Xb,Qh (Ta N),Qh (Ta L),Qh t,Qh (Ta I),Qb]
 .show(zj _ A.v _) (if q=p then u0 else A.ul q)=Ga (.lst ((Xo (Zw g) S q).map jv));rcases Gh.mp a with a|a
  .rw[Gs (f q a)];exact l (X.ul q a) (λ_ z=>nomatch z)
  .have:q=p:=by simpa using a
   subst this;rw[GV Xb,x,Qh (Ta O),Qh (Ta M),Qb];rfl
 .show(if q=p then m0 else A.ml q)=(if r=p then m0 else A.ml r)->q=r;rcases Gh.mp a with c|c<;>rcases Gh.mp v with d|d
  .rw[Gs (f q c),Gs (f r d)];exact X.ap.mm q c r d
  .have:r=p:=by simpa using d
   subst this;rw[Gs (f q c),GV rfl];intro z;exact absurd z (j (X.ml q c))
  .have:q=p:=by simpa using c
   subst this;rw[Gs (f r d),GV rfl];intro z;exact absurd z.symm (j (X.ml r d))
  .intro _;have m:q=p:=by simpa using c
   have s:r=p:=by simpa using d
   rw[m,s]
 .show(if q=p then u0 else A.ul q)=(if r=p then u0 else A.ul r)->q=r;rcases Gh.mp a with c|c<;>rcases Gh.mp v with d|d
  .rw[Gs (f q c),Gs (f r d)];exact X.ap.uu q c r d
  .have:r=p:=by simpa using d
   subst this;rw[Gs (f q c),GV rfl];intro z;exact absurd z (k (X.ul q c))
  .have:q=p:=by simpa using c
   subst this;rw[Gs (f r d),GV rfl];intro z;exact absurd z.symm (k (X.ul r d))
  .intro _;have m:q=p:=by simpa using c
   have s:r=p:=by simpa using d
   rw[m,s]
 .show(if q=p then m0 else A.ml q)≠(if r=p then u0 else A.ul r);rcases Gh.mp a with c|c<;>rcases Gh.mp v with d|d
  .rw[Gs (f q c),Gs (f r d)];exact X.ap.mul q c r d
  .have:r=p:=by simpa using d
   subst this;rw[Gs (f q c),GV rfl];exact k (X.ml q c)
  .have:q=p:=by simpa using c
   subst this;rw[Gs (f r d),GV rfl];exact Ta (j (X.ul r d))
  .have m:q=p:=by simpa using c
   have s:r=p:=by simpa using d
   rw[GV m,GV s];exact t
 .show(if q=p then m0 else A.ml q)≠A.k/\(if q=p then m0 else A.ml q)≠A.f;rcases Gh.mp a with a|a
  .rw[Gs (f q a)];exact X.ap.mkf q a
  .have:q=p:=by simpa using a
   rw[GV this];exact{Ta (j E),Ta (j B)}
 .show(if q=p then u0 else A.ul q)≠A.k/\(if q=p then u0 else A.ul q)≠A.f;rcases Gh.mp a with a|a
  .rw[Gs (f q a)];exact X.ap.ukf q a
  .have:q=p:=by simpa using a
   rw[GV this];exact{Ta (k E),Ta (k B)}
theorem Yi{b c:Gd}{o:HO}(h:zj H b o c=Gq):H c=Gq:=by
 by_cases e:c=b
 .subst e;rw[Qb]at h;cases h
 .rw[Qh e]at h;exact h
theorem Ql{b c:Gd}{o u:HO}(e:H c=Ga u)(h:c≠b):zj H b o c=Ga u:=by rw[Qh h];exact e
theorem ZK{k:Nat}{af fK:Gd}{fd av:Do}(F:Wg K "take_in" "Net.take_in" Ve af fd)(m:Jj K mg C)(mT:Yq K C "take_in" af)(bT:zk K fd ["self","place"] [])(aD:Q3 P w K mg base Ya (k+1) af fd ["self","place"] (kR P w C k))
  (mK:Yq K C "key_of" fK)(GK:Q3 P w K mg base Ya 1 fK av ["self","place"] (m9 P w C))(bK:zk K av ["self","place"] []):Q3 P w K mg base Ya (k+2) af fd ["self","place"] (kR P w C (k+1)):=by
 refine F.ok zM (λT aa O r b=>?_) (λaq f ar s aa T O r l b=>?_)
 .obtain⟨n,f,e,rk,S,p,rfl,_⟩:=b;rfl
 have(n,f,e,rk,S,p,rfl,X,R,L,hk,q):=b;have E:=Jw l;have aO:=l.units;have aN:Yl 1 _:=l.mono (by ext);have nd:=zM.nd;show∃t,W0 ?my _ t/\_;let w8:Xk ?my Ve 7:={_,Qg (Rk {1} (ke (Qx {0} rfl) (Zn {0} m.cl mK GK aN bK .nil Q5 (Qa {1} Qd)) (kj aO)))}
 let w7:Xk ?my Ve 6:=⟨_,Qc (Yb Tj rfl (Jd (Qn Qs (Qn Zd (Qx {0} rfl) {1}) Qi)) (Z5 2 nd)
   (Qg (Zl (X6 Te Tx TC Z4 (Ye E (Qx {0} rfl) {2} (λ_ _=>rfl)) (Qa {1} Qd))))) w8.2⟩
 let w6:Xk ?my Ve 5:={_,Qc (Vt E (Qx {0} rfl) {1} U7 Xb) w7.2}
 let w5:Xk ?my Ve 4:={_,Qc (Vt E (Qx {0} rfl) {1} (Zt Qd) rfl) w6.2}
 let w4:Xk ?my Ve 3:={_,Qc (Vt E (Qx {0} rfl) {1} (Zt (Qa {1} Qd)) rfl) w5.2}
 let w3:Xk ?my Ve 2:={_,Qc (Vt E (Qx {0} rfl) {1} {1} rfl) w4.2}
 let w2:Xk ?my Ve 1:=⟨_,Qc (Yb Tj rfl (Jd (Qn Qs (Qn Zd (Qx {0} rfl) {1}) Qi)) (Z5 2 nd)
   (Qg (Zl (Zn {0} m.cl mT aD l bT .nil Q5 (Qa {2} Qd))))) w3.2⟩
 exists _,Qc (Zb (Oy (si E {1} (Qx {0} rfl))) (Qg OG) Qw) w2.2;have(dx,o1):=X.at_.ob;have a8:S.length<=e.length:=Xy (S:=ES e.length) X.nd (λa l=>Sk.mpr (X.lt a l))|>λb=>by rw[E8]at b;exact b
 have a6:=R.len;have gl:Vu aa f.l (jv p) (Xq (dS S λa=>jv a) (ki p)):=Vu.k (k:=ki p) X.at_.le;exists 00,n,C,dx,30,o1,m.cl,m.Vz,Xd _,f.l,0,gl,0;rw[AO];by_cases ag:p∈S
 .rw[Ti ag];refine Yp ?_;exact q S f.ml f.ul aa X (λ_ b=>b) ag (λa b=>.inl b) iA.refl
 rw[Td ag];refine Q4 ?_;subst_vars;have(ws,f1,f2):=X.at_.fo;have hw:p<ws.length:=by rw[GQ f2];exact L
 have(y,hy,c,B,ec,G,A):=Qy f2 (Ge hw);and_intros;rw[kK L]at hy;cases hy;have a5:=R.few p;let aV:Nat->St->Hp->Prop:=λi H v=>iC λ(x2:Option V)(d:List Nat)(x o:Nat->Gd)=>mV (H=[Ga (.ref n),Ga (jv p),x2]) (Frs P w C v n (na f x o) e d) (∀a∈S,a∈d) (∀a∈(Zw e p).take i,a∈d) (∀a∈d,a∈S\/rk a<rk p) (iA f S (na f x o) d aa v)
 refine⟨_,Xb,n,C,dx,_,_,Xb,o1,m.cl,m.Qe8,Jz _,_,Xb,f.f,ws,_,_,Xb,Xb,Qk f1,Zk (Ge hw),c,_,_,_,ec,Xb,Qj G,Rh _ _ _,B,Xb,{_,Qj A},p6 (K:=K) (a:=B) (xs:=(Zw e p).map jv)
  aV
  {_,S,f.ml,f.ul,1,X,λ_ b=>b,by simp,λa b=>.inl b,iA.refl} (by rintro i H v _ ⟨_,_,_,_,_,_,_,_,_,Z⟩;exact Qj (Z.keep _ _ A (X.at_.sv A))) ?_ ?_⟩
 .rintro i y H v hi ⟨x2,d,x,o,rfl,h,sub,done,ai,Z⟩;rw[Ts]at hi;cases eq:(Zw e p)[i]? with
  |none=>rw[eq]at hi;cases hi
  |some a=>
   rw[eq]at hi;cases hi;have(rl,rr):=R.pts p L a (Gc eq);have(J,M):=h.at_.ob;refine{0,n,J,0,M,qU _,0,n,na f x o,e,rk,d,a,1,h,R,rl,by ext,λT aj al H3 X3 r r3 ak O=>?_};refine{_,T,aj,al,1,X3,λt ht=>r t (sub t ht),λt ht=>?_,λt ht=>?_,Z.trans O}
   .rw[TF,eq]at ht;rcases Gh.mp ht with ht|ht
    .exact r t (done t ht)
    .have:t=a:=by simpa using ht
     rw[this];exact r3
   .rcases ak t ht with b|b
    .exact ai t b
    .exact .inr (by ext)
 rintro H v ⟨x2,d,x,o,rfl,h,sub,done,ai,Z⟩;rw[Gv,Tz]at done;have N:p∉d:=λz=>by
  rcases ai p z with b|b
  .exact ag b
  .ext
 have a7:d.length<=1000:=by have:=Xy (S:=ES e.length) h.nd (λa l=>Sk.mpr (h.lt a l));rw[E8]at this;ext
 have aM:Xo (Zw e) d p=[]:=ZX λa l z=>N (h.cl a l p z);have(J,M):=h.at_.ob;have aL:(dS d λa=>jv a).length<TH:=by rw[V8,TJ];ext
 have aP:v f.l=Ga (.dK (dS d λa=>jv a)):=h.at_.le;have aQ:v f.m=Ga (.dK (dS d λa=>.ref (x a))):=h.at_.me;have aZ:v f.u=Ga (.dK (dS d λa=>.ref (o a))):=h.at_.us;have aE:v f.v=Ga (.dK (dS d λ_=>.non)):=h.at_.ab;have k1:=Oi.k (k:=ki p) (v:=jv p) aP aL;rw[jY N]at k1;have e1:(dS (d++[p]) λa=>if a=p then jv p else jv a)=dS (d++[p]) λa=>jv a:=Vp λa _=>by
  by_cases b:a=p
  .rw[GV b,b]
  .rw[Gs b]
 rw[e1]at k1;exists 00,n,C,J,30,M,m.cl,m.Vz,Xd _,0,f.l,0,k1;have nl:n≠f.l:=Ys M h.at_.le nofun;have o3:(zj v f.l (.dK (dS (d++[p]) λa=>jv a))) n=Ga (.ins C J (Xs f)):=by rw[Qh nl];exact M
 refine{0,Wz,λm0 ab=>?_};have s3:=Qf ab (.lst [jv p]);have ap:v m0=Gq:=by
  by_cases b:m0=f.l
  .subst b;rw[Qb]at ab;cases ab
  .rw[Qh b]at ab;exact ab
 have aR:(zj v f.l (.dK (dS (d++[p]) λa=>jv a))) f.m=Ga (.dK (dS d λa=>.ref (x a))):=Ql aQ (Ta h.at_.ap.lm);have k2:=Oi.k (k:=ki p) (v:=.ref m0) (s3 _ _ aR) (by rw[V8,TJ];ext);rw[jY N]at k2;have e2:(dS (d++[p]) λa=>if a=p then V.ref m0 else .ref (x a))=dS (d++[p]) λa=>.ref (if a=p then m0 else x a):=Vp λa _=>by split<;>rfl
 rw[e2]at k2;exists 0,n,C,J,30,s3 _ _ o3,m.cl,m.members,V1 _,0,f.m,0,k2;have aT:n≠f.m:=Ys M h.at_.me nofun;generalize an:zj (zj (zj v f.l (.dK (dS (d++[p]) λa=>jv a))) m0 (.lst [jv p])) f.m (.dK (dS (d++[p]) λa=>.ref (if a=p then m0 else x a)))=Q;have cA:∀{j ad},v j=Ga ad->j≠f.l->j≠f.m->Q j=Ga ad:=λB G A=>by rw[<-an,Qh A,Qh (Qe B ap),Qh G];exact B
 have cN:∀{j},Q j=Gq->v j=Gq/\j≠m0:=λ{j}b=>by
  rw[<-an]at b;by_cases G:j=f.m
  .subst G;rw[Qb]at b;cases b
  .rw[Qh G]at b;by_cases A:j=m0
   .subst A;rw[Qb]at b;cases b
   .rw[Qh A]at b;by_cases r:j=f.l
    .subst r;rw[Qb]at b;cases b
    .rw[Qh r]at b;exact⟨b,A⟩
 have o4:=cA M nl aT;refine{Tu _,λu0 ax=>?_};have(aB,aX):=cN ax;have W:=Qf ax (.lst []);have aY:=cA aZ (Ta h.at_.ap.lu) (Ta h.at_.ap.mu);have k3:=Oi.k (k:=ki p) (v:=.ref u0) (W _ _ aY) (by rw[V8,TJ];ext);rw[jY N]at k3;have e3:(dS (d++[p]) λa=>if a=p then V.ref u0 else .ref (o a))=dS (d++[p]) λa=>.ref (if a=p then u0 else o a):=Vp λa _=>by split<;>rfl
 rw[e3]at k3;exists 0,n,C,J,30,W _ _ o4,m.cl,m.Qf2,Rv _,0,f.u,0,k3;have nu:n≠f.u:=Ys M h.at_.us nofun;have o5:(zj (zj Q u0 (.lst [])) f.u (.dK (dS (d++[p]) λa=>.ref (if a=p then u0 else o a)))) n=Ga (.ins C J (Xs f)):=by rw[Qh nu];exact W _ _ o4
 have a0:(zj (zj Q u0 (.lst [])) f.u (.dK (dS (d++[p]) λa=>.ref (if a=p then u0 else o a)))) f.v=Ga (.dK (dS d λ_=>.non)):=by exact Ql (W _ _ (cA aE (Ta h.at_.ap.lv) (Ta h.at_.ap.mv))) (Ta h.at_.ap.uv)
 have k4:=Oi.k (k:=ki p) (v:=.non) a0 (by rw[V8,TJ];ext);rw[jY N]at k4;have e4:(dS (d++[p]) λa=>if a=p then V.non else .non)=dS (d++[p]) λ_=>.non:=Vp λa _=>by split<;>rfl
 rw[e4]at k4;exists 0,n,C,J,30,o5,m.cl,m.above,nD _,0,f.v,0,k4;have I:=Qz8 (m0:=m0) (u0:=u0) h.at_ N ap aB (Ta aX) aM;have FY:iA (na f x o) d (na f (λa=>if a=p then m0 else x a) (λa=>if a=p then u0 else o a)) (d++[p]) v (zj (zj (zj Q u0 (.lst [])) f.u (.dK (dS (d++[p]) λa=>.ref (if a=p then u0 else o a)))) f.v (.dK (dS (d++[p]) λ_=>.non))):=by
  refine{λj ad B g=>?_,λj g=>?_,λj g=>?_}
  .rw[Qh (λz=>g (by rw[z];exact .inr (.inr (.inr (.inr (.inr (.inr (.inl Xb)))))))),Qh (λz=>g (by rw[z];exact .inr (.inr (.inl Xb))))];exact W _ _ (cA B (λz=>g (by rw[z];exact .inl Xb)) (λz=>g (by rw[z];exact .inr (.inl Xb))))
  .rcases g with b|b|b|b|b|b|b|⟨a,T,b⟩
   .exact .inl (.inl b)
   .exact .inl (.inr (.inl b))
   .exact .inl (.inr (.inr (.inl b)))
   .exact .inl (.inr (.inr (.inr (.inl b))))
   .exact .inl (.inr (.inr (.inr (.inr (.inl b)))))
   .exact .inl (.inr (.inr (.inr (.inr (.inr (.inl b))))))
   .exact .inl (.inr (.inr (.inr (.inr (.inr (.inr (.inl b)))))))
   .have b:j=(if a=p then m0 else x a)\/j=(if a=p then u0 else o a):=b;by_cases r:a=p
    .rw[GV r,GV r]at b;rcases b with b|b
     .rw[b];exact .inr ap
     .rw[b];exact .inr aB
    .rw[Gs r,Gs r]at b;have O:a∈d:=by
      rcases Gh.mp T with z|z
      .exact z
      .exact absurd (by simpa using z) r
     exact .inl (.inr (.inr (.inr (.inr (.inr (.inr (.inr ⟨a,O,b⟩)))))))
  .by_cases G:j=f.v
   .subst G;rw[Qb]at g;cases g
   .rw[Qh G]at g;by_cases A:j=f.u
    .subst A;rw[Qb]at g;cases g
    .rw[Qh A]at g;exact(cN (W.free g)).1
 have I:Yn P w C (zj (zj (zj Q u0 (.lst [])) f.u (.dK (dS (d++[p]) λa=>.ref (if a=p then u0 else o a)))) f.v (.dK (dS (d++[p]) λ_=>.non))) n (na f (λa=>if a=p then m0 else x a) (λa=>if a=p then u0 else o a)) e d.length {fresh (Yr e) (Zw e) (d++[p])with Xx:=Xo (Zw e) d,tab:=jq (Yr e) (Zw e) d}:=by rw[<-an];exact I
 generalize zj (zj (zj Q u0 (.lst [])) f.u (.dK (dS (d++[p]) λa=>.ref (if a=p then u0 else o a)))) f.v (.dK (dS (d++[p]) λ_=>.non))=H4 at I FY⊢;generalize (λa=>if a=p then m0 else x a)=ac at I FY;generalize (λa=>if a=p then u0 else o a)=Y at I FY;have F4:=Z.trans FY;subst_vars;have(aG,aU):=I.ob;have(aC,aI,au):=I.fo;have ay:p<aC.length:=by rw[GQ au];exact L
 have(y4,az,c4,am,aH,aK,aw):=Qy au (Ge ay);and_intros;rw[kK L]at az;cases az;let aW:Nat->St->Hp->Prop:=λi H U=>jA λ(x2:Option V)=>jQ (H=[Ga (.ref n),Ga (jv p),x2]) (Yn P w C U n (na f ac Y) e d.length {fresh (Yr e) (Zw e) (d++[p])with Xx:=(λa=>Xo (Zw e) d a++DW (((Zw e p).take i).count a) p),tab:=jq (Yr e) (Zw e) d}) (iA f S (na f ac Y) (d++[p]) aa U) (U am=Ga (.tup ((Zw e p).map jv)))
 refine⟨_,Xb,n,C,aG,_,_,Xb,aU,m.cl,m.Qe8,Jz _,_,Xb,f.f,aC,_,_,Xb,Xb,Qk aI,Zk (Ge ay),c4,_,_,_,aH,Xb,Qj aK,Rh _ _ _,am,Xb,{_,Qj aw},p6 (K:=K) (a:=am) (xs:=(Zw e p).map jv)
  aW
  {0,?_,F4,aw} (by rintro i H U _ ⟨_,_,_,_,b⟩;exact Qj b) ?_ ?_⟩
 .have:(λa=>Xo (Zw e) d a++DW (((Zw e p).take 0).count a) p)=Xo (Zw e) d:=by funext a;simp
  rw[this];exact I
 .rintro i y H U hi ⟨x5,rfl,D,F5,h5⟩;rw[Ts]at hi;cases eq:(Zw e p)[i]? with
  |none=>rw[eq]at hi;cases hi
  |some a=>
   rw[eq]at hi;cases hi;have O:a∈d++[p]:=Gu _ (done a (Gc eq));have T:=D.ul a O;have(ae,ah):=D.ob;have a2:=Ao R.few d a;have a1:((Zw e p).take i).count a<=100:=DA NA (by rw[Dc];ext);exists 0,n,C,ae,30,ah,m.cl,m.Qf2,Rv _,0,f.u,0,X5 D.us O,.inl {13,Qk T},0201,T,?_
   .rw[Gv,TJ];show(Xo (Zw e) d a++DW (((Zw e p).take i).count a) p).length<_;rw[Gk,Ss];ext
   .have Y6:=D.Kp O (Xo (Zw e) d a++DW (((Zw e p).take i).count a) p++[p]);have eH:(HO.lst ((Xo (Zw e) d a++DW (((Zw e p).take i).count a) p++[p]).map jv))=.lst ((Xo (Zw e) d a++DW (((Zw e p).take i).count a) p).map jv++[jv p]):=by rw[TY];rfl
    rw[eH]at Y6;have oR:hV (na f ac Y) (d++[p]) (Y a):=.inr (.inr (.inr (.inr (.inr (.inr (.inr {a,O,.inr Xb}))))));have eU:(λr=>if r=a then Xo (Zw e) d a++DW (((Zw e p).take i).count a) p++[p]else Xo (Zw e) d r++DW (((Zw e p).take i).count r) p)=λr=>Xo (Zw e) d r++DW (((Zw e p).take (i+1)).count r) p:=by
     funext r
     rw[Qc7 eq];by_cases b:r=a
     .rw[GV b,GV b.symm,b,List.replicate_succ',Dk]
     .rw[Gs b,Gs (Ta b),RT]
    exists 0,?_,F5.trans {λj ad B g=>?_,λj g=>.inl g,λj g=>?_}
    .rw[<-eU];exact Y6
    .exact Ql B (λz=>g (by rw[z];exact oR))
    .exact Yi g
    .exact Ql h5 (Ys h5 T nofun)
 rintro H U ⟨x5,rfl,D,F5,h5⟩;rw[Gv,Tz]at D;have eU:(λa=>Xo (Zw e) d a++DW ((Zw e p).count a) p)=Xo (Zw e) (d++[p]):=by
  funext a
  rw[VJ]
 rw[eU]at D;have(ae,ah):=D.ob;have aA:∀a∈Zw e p,a∈d++[p]:=λa l=>Gu _ (done a l);refine{00,n,C,ae,30,ah,m.cl,m.table,wA _,0,n,ae,0,ah,pU _,0,n,na f ac Y,e,2,p,1,D,L,aA,by ext,λc6 H6 g6 a3 aJ=>?_};have Y6:=D.same g6;have(ao,D6,a4,aF):=Y6.ta;have kc:=aJ.key (R.str p);exists f.t,c6,_,ao,11,D6,kc,(by rw[TJ];ext);have aS:∀a∈d,Zv (Yr e) (Zw e) id a≠Zv (Yr e) (Zw e) id p:=λa l z=>by simp only[Zv,Fq,Ek]at z;exact N (R.inj a p (h.lt a l) L z.1 z.2▸l)
 have Y7:=Y6.Ki (kvs':=Vo ao (Xp (Zv (Yr e) (Zw e) id p)) c6 (jv p)) D6 (by have:=ng ao (Xp (Zv (Yr e) (Zw e) id p)) c6 (jv p);ext) (D6.keys.put kc) (t':=jq (Yr e) (Zw e) (d++[p])) (λr=>by
  rw[J2,YV _ _ aS];by_cases b:r=Zv (Yr e) (Zw e) id p
  .rw[GV (by rw[b]),GV b];rfl
  .rw[Gs (λz=>b (J9 z)),Gs b];exact aF r)
 refine q (d++[p]) ac Y _ {?_,?_,λa l=>?_,λa l=>?_} (λa l=>Gu _ (sub a l)) (by simp) (λa l=>?_) (F5.trans {λj ad B g=>?_,λj g=>.inl ?_,λj g=>?_})
 .rw[Gk,Gy];exact Y7
 .rw[DQ];refine{h.nd,by simp,λa l u E=>?_};have:u=p:=by simpa using E
  rw[this];exactλz=>N (z▸l)
 .rcases Gh.mp l with b|b
  .exactλu E=>Gu _ (h.cl a b u E)
  .have:a=p:=by simpa using b
   subst this;exact aA
 .rcases Gh.mp l with b|b
  .exact h.lt a b
  .have:a=p:=by simpa using b
   subst this;exact L
 .rcases Gh.mp l with b|b
  .rcases ai a b with b|b
   .exact .inl b
   .exact .inr (by ext)
  .have:a=p:=by simpa using b
   subst this;exact .inr (GJ _)
 .exact Ql (g6 _ _ B) (λz=>g (by rw[z];exact .inr (.inr (.inr (.inl Xb)))))
 .exact g
 .exact g6.free (Yi g)
theorem Px{f:Gd}{e:Do}:Q3 P w K mg base Ya 1 f e ["self","place"] (kR P w C 0):=by
 have d:∀a H Q E,¬kR P w C 0 a H Q E:=λa H Q E h=>by have(n,A,g,j,S,p,_,_,_,_,i,_):=h;lia
 exact{λa H Q E h=>absurd h (d a H Q E),λA b s H c k a Q E _ _ _ _ h=>absurd h (d a H Q E)}
theorem um{f g C:Gd}{b a:Do}(F:Wg K "take_in" "Net.take_in" Ve f b)(T:Jj K mg C)(i:Yq K C "take_in" f)(e:zk K b ["self","place"] [])
  (h:Yq K C "key_of" g)(c:Q3 P w K mg base Ya 1 g a ["self","place"] (m9 P w C))(d:zk K a ["self","place"] []):∀k:Nat,Q3 P w K mg base Ya (k+1) f b ["self","place"] (kR P w C k)
 |0=>Px
 |k+1=>ZK F T i e (um F T i e h c d k) h c d
end
end K06
namespace Nt
theorem yh{l:List Nat}:∀{S:List Nat},S.Nodup->(S.map λq=>l.count q).sum<=l.length
 |[],_=>by simp
 |q::S,b=>by
  rw[Dy]at b;have d:=yh (l:=l.filter (λz=>z !=q)) b.2;have e:(S.map λr=>(l.filter (λz=>z !=q)).count r)=S.map λr=>l.count r:=TX λr c=>by rw[List.count_filter];simp only[bne_iff_ne,ne_eq];intro z;exact b.1 (z▸c)
  rw[e]at d;have g:(l.filter (λz=>z !=q)).length+l.count q=l.length:=by
   have:=List.length_eq_countP_add_countP (λz=>z !=q) (l:=l);rw[<-List.countP_eq_length_filter];have f:l.countP (λa=>¬(a !=q)=Gi)=l.count q:=by unfold List.count;refine List.countP_congr λx _=>?_;simp
   lia
  simp only[Tp,LK];lia
theorem sJ{f g:Nat->Nat}:∀S:List Nat,(S.map λq=>f q+g q).sum=(S.map f).sum+(S.map g).sum
 |[]=>rfl
 |q::S=>by simp only[Tp,LK,sJ S];lia
theorem UB{W ρ:Type}[DecidableEq W]{f:Nat->W}{b:Nat->List Nat}{S:List Nat}{M:Nat}(nd:S.Nodup)(h:∀p,(b p).length<=M):Ja (fresh (ρ:=ρ) f b S)<=S.length*M:=by
 have c:∀T:List Nat,(S.map λq=>(Xo b T q).length).sum<=T.length*M:=by
  intro T;induction T with
  |nil=>
   have:(S.map λq=>(Xo b [] q).length)=S.map λ_=>0:=TX λq _=>by simp[Xo]
   rw[this];clear this nd;have z:∀S:List Nat,(S.map λ_=>0).sum=0:=by
    intro S;induction S with
    |nil=>rfl
    |cons a S d=>simpa using d
   rw[z];lia
  |cons p T d=>
   have e:(S.map λq=>(Xo b (p::T) q).length)=S.map λq=>(b p).count q+(Xo b T q).length:=TX λq _=>by simp only[Xo,Mu,Gk,Ss]
   rw[e,sJ];have g:=yh (l:=b p) nd;have i:=h p;rw[TB,S9];lia
 unfold Ja;refine DA (FH ?_) (c S);congr 1;refine TX λq _=>?_;rw[GV (show(fresh (ρ:=ρ) f b S).zg q=q from rfl)];rfl
end Nt
namespace K06
open PySem L2 Sb Nt
variable{C:Gd}
abbrev En:=TQ×Nat×Nat
abbrev sme(p q:Nat):En:=(("same":TQ),p,q)
abbrev unl(p q:Nat):En:=(("unlike":TQ),p,q)
inductive iD(H:Hp)(v:V)(e:En):Prop
 |mk (c:_) (h0:v=.ref c) (h1:H c=Ga (.tup [.str e.1,jv e.2.1,jv e.2.2])):iD H v e
theorem iD.Qv{H a:Hp}{v:V}{e:En}(t:Q7 H a)(h:iD H v e):iD a v e:=by have(c,b,d):=h;exact{c,b,t _ _ d}
structure ij(P:Gn)(w:Tg)(C:Gd)(H0 H:Hp)(n:Gd)(A:Na)(fs:List Fm)(tb:Nat)(x:Nn):Prop where
 at_:Yn P w C H n A fs tb x
 inv:Wx (Yr fs) (Zw fs) x []
 fok:iM fs x.S
 new:∀b,hV A x.S b->H0 b=Gq
 nn:H0 n=Gq
 sam:Q9 H0 H
 len:x.S.length<=60
 tt:Ja x<=6000
 cl:cls x+x.zt.length<=x.S.length
 tbb:tb<=x.S.length+x.zt.length*Ja x
structure iU(fs:List Fm)(x:Nn)(ens:List En)(i:Nat):Prop where
 ins:∀e∈ens,e.2.1∈x.S/\e.2.2∈x.S
 eq:∀(j p q:Nat),j<i->ens[j]?=Ga (sme p q)->x.zg p=x.zg q
 snd:∀E,Ec (Yr fs) (Zw fs) x.S E->(∀(j p q:Nat),j<i->ens[j]?=Ga (sme p q)->E p q)->∀p∈x.S,∀q∈x.S,x.zg p=x.zg q->E p q
 rsn:∀y∈x.zt,y.2.2=Gq\/∃(j p q:Nat),y=(p,q,Ga (.told j))/\ens[j]?=Ga (sme p q)
inductive sI(P:Gn)(w:Tg)(C:Gd)(vs:List V)(H:Hp)(Q:VK):Prop
 |mk (f:Gd) (t:Gd) (ws:List V) (es:List V) (fs:List Fm) (ens:List En) (rk:Nat->Nat) (h0:vs=[.ref f,.ref t]) (h1:H f=Ga (.lst ws)) (h2:Dg (Oj H) ws fs) (h3:H t=Ga (.lst es)) (h4:Dg (iD H) es ens) (h5:rb fs rk) (h6:fs.length<=60) (h7:(∀p,rk p<59)) (h8:(∀e∈ens,e.2.1<fs.length/\e.2.2<fs.length)) (h9:ens.length<=1000) (h10:∀(n:Gd)(A:Na)(tb:Nat)(x:Nn)(H':Hp),ij P w C H H' n A fs tb x->A.f=f->iU fs x ens ens.length->Q (.ref n) H'):sI P w C vs H Q
def rX(P:Gn)(w:Tg)(C:Gd):Sp:=λa H Q _=>sI P w C a H Q
theorem ij.merged{P:Gn}{w:Tg}{j H g:Hp}{n:Gd}{A:Na}{f:List Fm}{i:Nat}{x d:Nn}{a b:Nat}{r:Option Ie}(N:ij P w C j H n A f i x)(Y:Yn P w C g n A f (i+(d.zt.length - x.zt.length)*Ja x) d)(M:iq f x d a b r [])(F:Ov A x.S H g):ij P w C j g n A f (i+(d.zt.length - x.zt.length)*Ja x) d:=by
 have e:=M.S;exists Y,M.inv,by rw[e];exact N.fok,by rw[e];exact N.new,N.nn,λc o h=>F.keep c o (N.sam c o h) (λz=>by rw[N.new c z]at h;cases h),by rw[e];exact N.len,by rw[M.Ja];exact N.tt,(by rw[e];have:=N.cl;have:=M.less;ext);rw[e,M.Ja];have k:=N.tbb;have l:=M.more;have:d.zt.length*Ja x=x.zt.length*Ja x+(d.zt.length - x.zt.length)*Ja x:=by rw[<-S9];congr 1;ext
 ext
theorem iU.step{f:List Fm}{x k:Nn}{d:List En}{i a b:Nat}(U:iU f x d i)(e:d[i]?=Ga (sme a b))(M:iq f x k a b (Ga (.told i)) []):iU f k d (i+1):=by
 have g:=M.S;have(r,t):=U.ins _ (Gc e);refine{by rw[g];exact U.ins,λj p q n c=>?_,λE X h=>?_,λy o=>?_}
 .rcases Dh j i with h|h
  .obtain⟨l,m⟩:=U.ins _ (Gc c);exact M.mono p l q m (U.eq j p q h c)
  .have:j=i:=by lia
   subst this;rw[e]at c;cases c;exact M.eq.nil
 .rw[g]at X;have l:=U.snd E X λj p q n=>h j p q (by lia);have:=M.snd E X {l,λu v s m=>by simp at m;have(rfl,rfl,rfl):=m;exact h i u v (by lia) e}
  exact this.1
 .rcases M.rsn y o with h|h|h
  .exact U.rsn y h
  .exact .inr ⟨i,a,b,h,e⟩
  .exact .inl h
theorem iU.skip{f:List Fm}{x:Nn}{c:List En}{i:Nat}{k:TQ}{a b:Nat}(U:iU f x c i)(e:c[i]?=Ga (k,a,b))(l:k≠"same"):iU f x c (i+1):=by
 refine{U.ins,λj p q g d=>?_,λE X h=>U.snd E X λj p q g=>h j p q (by ext),U.rsn};rcases Dh j i with h|h
 .exact U.eq j p q h d
 .have:j=i:=by ext
  subst this;rw[e]at d;cases d;exact absurd rfl l
def ro(x:Nn)(a:List En):Option Nat->Prop
 |none=>∀(j p q:Nat),a[j]?=Ga (unl p q)->x.zg p≠x.zg q
 |some i=>(∃p q,a[i]?=Ga (unl p q)/\x.zg p=x.zg q)/\∀(j p q:Nat),j<i->a[j]?=Ga (unl p q)->x.zg p≠x.zg q
inductive sZ(P:Gn)(w:Tg)(C:Gd)(vs:List V)(H:Hp)(Q:VK):Prop
 |mk (n:Gd) (t:Gd) (A:Na) (fs:List Fm) (tb:Nat) (x:Nn) (es:List V) (ens:List En) (h0:vs=[.ref n,.ref t]) (h1:Yn P w C H n A fs tb x) (h2:H t=Ga (.lst es)) (h3:Dg (iD H) es ens) (h4:(∀e∈ens,e.2.1∈x.S/\e.2.2∈x.S)) (h5:∀(o:Option Nat)(H':Hp),Q9 H H'->ro x ens o->Q (ov o) H'):sZ P w C vs H Q
def rW(P:Gn)(w:Tg)(C:Gd):Sp:=λa H Q _=>sZ P w C a H Q
section
variable{P:Gn}{w:Tg}{K:Gf}{mg:TQ->Option Gj}{base:Heap}
theorem tJ:Q8 ["net","entries","number","entry"] ["net","entries"] (Qo rK):=by eq_refl
theorem Zg{a b:TQ}:decide (V.str a=V.str b)=(a==b):=by rw[LP];simp
theorem Qwb{M N:Gd}{O Q:Do}(F:Wg K "least_clash" "least_clash" rK M O)(Y:Jj K mg C)(V:Ra mg)(mE:Yq K C "equal" N)(W:Q3 P w K mg base Ya 1 N Q ["self","one","other"] (oi P w C))(bE:zk K Q ["self","one","other"] []):
  Q3 P w K mg base Ya 2 M O ["net","entries"] (rW P w C):=by
 refine F.ok tJ (λm I h e b=>?_) (λo z r s I m h e hr b=>?_)
 .obtain⟨n,t,z,R,U,x,D,L,rfl,_⟩:=b;rfl
 have(n,t,z,R,U,x,D,L,rfl,X,ht,S,ab,q):=b;have ac:Yl 1 _:=hr.mono (by lia);have T:=tJ.nd;exists _,Qc (Yb Tj rfl (Ax rfl V.enumerate (Qa {1} Qd)) (Uc rfl (Zr (Z5 2 T) (Zr (Z5 3 T) Wp)))
   (Qg (Zb (PW.pt (Ii (Qp Xu (Qn Qs {3} Qi) Zh (Qu _)) (Jk (Z1 (Zn {0} Y.cl mE W ac bE .nil Q5 (Qa (Qn Qs {3} Qi) (Qa (Qn Qs {3} Qi) Qd)))))))
    (Qg (Qt {2})) Qw)))
  (Qg (Qt U7))
 let ad:Nat->St->Hp->Prop:=λi v f=>mJ (∃G H,v=[Ga (.ref n),Ga (.ref t),G,H]) (Q9 I f) (∀(j p d:Nat),j<i->L[j]?=Ga (unl p d)->x.zg p≠x.zg d)
 refine⟨_,Xb,t,D,Xb,Qk ht,An (K:=K) (a:=t) (xs:=D) ad
  {{430},λ_ _ b=>b,λ_ _ _ b=>by lia} (by rintro i v f _ ⟨_,g,_⟩;exact Qk (g _ _ ht)) ?_ ?_⟩
 .rintro i y c v f hi ⟨⟨G,H,rfl⟩,g,l⟩ hc;subst_vars;have((k,a,A),o,m,rfl,aa):=Qy S hi;have s3:=Qf hc (.tup [.int (i:Int),.ref m]);have h:=g.trans s3;have(Z,bS):=ab _ (Gc o);and_intros;have B:=h _ _ aa;exists c,0,Qj Qb,130301;exists 0,m,201,Qj B,Ol _ _,10;rw[Zg];by_cases E:k="unlike"
  .subst E;rw[LA];refine Yp ?_;have J:=X.same h;have(dx,o1):=J.ob;exists 0,n,dx,0,o1,qO _,0,m,201,Qj B,Rh _ _ _,0,m,201,Qj B,jt _ _ _ _,n,z,R,U,x,a,A,1,J,Z,bS,0;by_cases r:x.zg a=x.zg A
   .rw[Ti r];refine Yp {0,q (Ga i) _ h {⟨a,A,o,r⟩,l}}
   .rw[Td r];refine Q4 {{430},h,λj p d u e=>?_};rcases Dh j i with b|b
    .exact l j p d b e
    .have:j=i:=by lia
     subst this;rw[o]at e;cases e;exact r
  .have:(k==("unlike":TQ))=Gx:=by simpa using E
   rw[this];refine Q4 ?_;refine Q4 {{430},h,λj p d u e=>?_};rcases Dh j i with b|b
   .exact l j p d b e
   .have:j=i:=by lia
    subst this;rw[o]at e;cases e;exact absurd rfl E
 .rintro v f ⟨⟨G,H,rfl⟩,g,l⟩;refine q Gq f g λj p d u=>l j p d ?_ u;rw[GQ S];exact(Gg.mp u).1
theorem tW:Q8 ["forms","told","net","kind","one","other","number","entry"] ["forms","told"] (Qo j9):=by eq_refl
theorem YX{G fI fT fM:Gd}{fd av ax aw:Do}(F:Wg K "net_of" "net_of" j9 G fd)(ab:Jj K mg C)(aA:Ra mg)(aB:Mk K C fI)(GI:Q3 P w K mg base Ya 1 fI av ["self","forms"] (tx P w C))(bI:zk K av ["self","forms"] [])
  (mT:Yq K C "take_in" fT)(GT:Q3 P w K mg base Ya 60 fT ax ["self","place"] (kR P w C 59))(bT:zk K ax ["self","place"] [])(mM:Yq K C "merge" fM)(GM:Q3 P w K mg base Ya 4 fM aw ["self","one","other","reason"] (pF P w C))(bM:zk K aw ["self","one","other","reason"] []):
  Q3 P w K mg base Ya 61 G fd ["forms","told"] (rX P w C):=by
 refine F.ok tW (λT h R au m=>?_) (λaq g ar s h T R au v m=>?_)
 .obtain⟨G,t,ws,Y,f,W,rk,rfl,_⟩:=m;rfl
 have(G,t,ws,Y,f,W,rk,rfl,hf,aG,ht,ah,Q,aP,ay,aD,aO,q):=m;have aE:Yl 2 _:=v.mono (by lia);have aF:Yl 4 _:=v.mono (by lia);have O:=tW.nd;show∃t,W0 ?my _ t/\_;let w4:Xk ?my j9 3:={_,Qg (Qt {2})}
 let w3:Xk ?my j9 2:=⟨_,Qc (Yb Tj rfl (Ax rfl aA.enumerate (Qa {1} Qd)) (Uc rfl (Zr (Z5 6 O) (Zr (Z5 7 O) Wp)))
   (Qg (Zb (Qp Xu (Qn Qs {7} Qi) Zh (Qu _))
    (Qg (Zl (Zn {2} ab.cl mM GM aF bM .nil Q5 (Qa (Qn Qs {7} Qi) (Qa (Qn Qs {7} Qi) (Qa (Ze (Qa Zh (Qa {6} Qd))) Qd)))))) Qw))) w4.2⟩
 let w2:Xk ?my j9 1:=⟨_,Qc (Yb Tj rfl (Yh {1}) (Uc rfl (Zr (Z5 3 O) (Zr (Z5 4 O) (Zr (Z5 5 O) Wp))))
   (Qc (Zl (Zn {2} ab.cl mT GT v bT .nil Q5 (Qa {4} Qd)))
   (Qg (Zl (Zn {2} ab.cl mT GT v bT .nil Q5 (Qa {5} Qd)))))) w3.2⟩
 exists _,Qc (Qz 2 O (ph aB GI aE rfl ab.mgC bI .nil Q5 (Qa {0} Qd))) w2.2;refine{0,λn dx hn aC aQ=>?_};have s0:Q9 h (zj (zj h dx (.own n)) n (.ins C dx [])):=λc A d=>by rw[Qh (Qe d hn),Qh (Qe d aC)];exact d
 refine{n,dx,G,ws,f,1,Qb,s0 _ _ hf,Qr aG λ_ _ m=>m.Qv (Q7.of s0),λg H1 fA X1 k1 w1=>{1,?_}};have s1:Q9 h H1:=λc A d=>k1 c A (s0 c A d) (Qe d hn);have n1:∀e,hV g [] e->h e=Gq:=λe hb=>s0.free (w1 e hb);have az:Y.length=W.length:=GQ ah;let aH:Nat->St->Hp->Prop:=λi B I=>i0 λ(x3 x4 x5:Option V)(S:List Nat)(o r:Nat->Gd)=>jn (B=[Ga (.ref G),Ga (.ref t),Ga (.ref n),x3,x4,x5,Gq,Gq]) (Frs P w C I n (na g o r) f S) (Q9 h I) (∀e,hV (na g o r) S e->h e=Gq) (∀d∈W.take i,d.2.1∈S/\d.2.2∈S)
 refine⟨_,Xb,t,Xb,{_,Qk (s1 _ _ ht)},Yw (K:=K) (a:=t) (xs:=Y) aH
  {32,[],g.ml,g.ul,1,{X1,SV,(λp N=>nomatch N),(λp N=>nomatch N)},s1,n1,by simp} (by rintro i B I _ ⟨_,_,_,_,_,_,_,_,R,_⟩;exact Qk (R _ _ ht)) ?_ ?_⟩
 .rintro i y B I hi ⟨x3,x4,x5,S,o,r,rfl,l,L,n2,U⟩;subst_vars;have((k,a,e),M,D,rfl,ag):=Qy ah hi;have(al,bl):=aD _ (Gc M);have(am,o2):=l.at_.ob;and_intros;exists D,0,Qj (L _ _ ag),13030301;refine{0,n,am,0,o2,qU _,0,n,na g o r,f,rk,S,a,1,l,Q,al,ay a,λS3 ad af u X3 ae a3 _ T=>?_};have g3:Q9 h u:=λc A d=>T.keep c A (L c A d) (λz=>by rw[n2 c z]at d;cases d);have n3:∀e,hV (na g ad af) S3 e->h e=Gq:=λe hb=>(T.own e hb).elim (n2 e) (λz=>L.free z);have(an,o3):=X3.at_.ob;refine{0,n,an,0,o3,qU _,0,n,na g ad af,f,rk,S3,e,1,X3,Q,bl,ay e,λS4 ao ap H4 X4 R b4 _ F4=>?_};have Z:Q9 h H4:=λc A d=>F4.keep c A (g3 c A d) (λz=>by rw[n3 c z]at d;cases d);refine{32,S4,ao,ap,1,X4,Z,λe hb=>(F4.own e hb).elim (n3 e) (λz=>g3.free z),λd ac=>?_};rw[TF,M]at ac;rcases Gh.mp ac with m|m
  .exact{R _ (ae _ (U d m).1),R _ (ae _ (U d m).2)}
  .have:d=(k,a,e):=by simpa using m
   subst this;exact{R _ a3,b4}
 rintro B I ⟨x3,x4,x5,S,o,r,rfl,l,L,n2,U⟩;rw[az,Tz]at U;have aN:S.length<=f.length:=Xy (S:=ES f.length) l.nd (λH v=>Sk.mpr (l.lt H v))|>λm=>by rw[E8]at m;exact m
 have ni:Wx (ρ:=Ie) (Yr f) (Zw f) (fresh (Yr f) (Zw f) S) []:=Ky l.nd l.cl λp N H v e1 e2=>Q.inj p H (l.lt p N) (l.lt H v) e1 e2;have N0:ij P w C h I n (na g o r) f S.length (fresh (Yr f) (Zw f) S):={l.at_,ni,{Q.str,l.lt,l.cl,λp=>by have:=Q.few p;lia},n2,hn,L,by show S.length<=60;lia,DA (UB l.nd Q.few) (by lia),vZ _,by show S.length<=S.length+0*_;lia};have U0:iU f (fresh (Yr f) (Zw f) S) W 0:={U,λj p H hj=>by lia,λau X _ p N H v d=>by have d:p=H:=d;subst d;exact X.refl p,λy R=>nomatch R}
 let aI:Nat->St->Hp->Prop:=λi B u=>iC λ(x6 x7:Option V)(E:Nat)(x:Nn)=>mJ (B=[Ga (.ref G),Ga (.ref t),Ga (.ref n),x3,x4,x5,x6,x7]) (ij P w C h u n (na g o r) f E x) (iU f x W i)
 refine⟨_,Xb,t,Y,Xb,Qk (L _ _ ht),An (K:=K) (a:=t) (xs:=Y) aI
  {320,N0,U0} (by rintro i B u _ ⟨_,_,_,_,_,b,_⟩;exact Qk (b.sam _ _ ht)) ?_ ?_⟩
 .rintro i y c B u hi ⟨x6,x7,E,x,rfl,b,J⟩ hc;subst_vars;have((k,a,e),M,D,rfl,ag):=Qy ah hi;have s4:=Qf hc (.tup [.int (i:Int),.ref D]);have Z:=b.sam.trans s4;have aa:=Z _ _ ag;have(aS,bS):=J.ins _ (Gc M);and_intros;have T:ij P w C h (zj u c (.tup [.int (i:Int),.ref D])) n (na g o r) f E x:={b.at_.same s4,b.inv,b.fok,b.new,b.nn,Z,b.len,b.tt,b.cl,b.tbb};exists c,0,Qj Qb,130301;exists 0,D,201,Qj aa,Ol _ _,10;rw[Zg];by_cases hk:k="same"
  .subst hk;rw[LA];refine Yp ?_;have(ai,o4):=T.at_.ob;refine{0,n,ai,0,o4,ym _,0,D,201,Qj aa,Rh _ _ _,0,D,201,Qj aa,jt _ _ _ _,0,Yy,λR ak=>?_};have s5:=Qf ak (.tup [.str "told",.int (i:Int)]);have g5:=Z.trans s5;have N5:ij P w C h (zj (zj u c (.tup [.int (i:Int),.ref D])) R (.tup [.str "told",.int (i:Int)])) n (na g o r) f E x:={T.at_.same s5,b.inv,b.fok,b.new,b.nn,g5,b.len,b.tt,b.cl,b.tbb};have aJ:=b.len;have aj:=b.tt;have aK:=b.cl;have aL:=b.tbb;have aM:x.zt.length*Ja x+cls x*Ja x<=60*6000:=by rw[<-S9];exact BP (by lia) aj
   refine{n,na g o r,f,E,x,a,e,.ref R,Ga (.told i),1,N5.at_,b.fok,⟨R,Xb,Qb⟩,by simp,aS,bS,b.inv,by lia,by lia,by lia,by lia,λx' H6 Y6 M6 F6=>?_};exact{32,x',1,N5.merged Y6 M6 F6,J.step M M6}
  .have:(k==("same":TQ))=Gx:=by simpa using hk
   rw[this];exact Q4 {2,E,x,1,T,J.skip M hk}
 .rintro B u ⟨x6,x7,E,x,rfl,b,J⟩;rw[az]at J;exact{0,q n (na g o r) E x u b fA J}
end
end K06
namespace L2
open PySem PySem.Spec PyProof.Rows
inductive xk(x:V)(vs:List V)(H:Hp)(Q:VK):Prop
 |mk (d:_) (k:_) (dv:_) (zw:_) (h0:x=.ref d) (h1:vs=[kV k,dv]) (h2:H d=Ga (.dK zw)) (h3:zw.length<TH) (h4:(∀v,Xq zw k=Ga v->Q v H)) (h5:(Xq zw k=Gq->Q dv (zj H d (.dK (V2 zw k dv))))):xk x vs H Q
def XS:V->List V->Hp->VK->Prop:=λx a H Q=>xk x a H Q
theorem Qmt{X:Cx}:iO X "dict.setdefault" XS:=by
 intro l s M H x L v K Q I C B h;have(d,k,g,a,rfl,rfl,e,G,t,u):=h;cases(show v=Tk d from C);have(J,D,rfl,A,m):=vals2 B;have(z,j,E,b,i):=nh I.Yc e;refine MZ F.slot_dict_setdefault i.typeIs F.entry_dict_setdefault (F.args_dict_setdefault_3 _ _ _) (kt_meets_setdefault (Xc X.prog X.w) d (kh A) j D) {E,i,by rw[<-b.length];exact z,λw hw=>?_,λr n f hs=>?_}
 .have c:=b.val k;rw[hw]at c;cases q:Xq a k with
  |none=>rw[q]at c;exact(show False from c).elim
  |some y=>rw[q]at c;exact{y,H,I.tok _,c,t y q}
 .have c:=b.val k;rw[r]at c;cases q:Xq a k with
  |some y=>rw[q]at c;exact(show False from c).elim
  |none=>
   have o:∃q,n.get? d=Ga q:=let⟨q,_,_,hq,_⟩:=f;⟨q,hq⟩;have p:(V2 a k g).length<=TH:=by have:=Va a k g;ext
   exact{g,_,R7 I (by rw[e];exact DJ) hs o (yM p j (b.put k m) f),m,u q}
end L2
namespace PySem
variable{Q:Gj->Gz->Prop}{it:Gd}{xs:Array Gj}{i:Nat}{x:Gj}
structure oq(prog:Gn)(w:Tg)(A:DT)(I S:Gd)(fp:List Gd)(n:Nat)(St:Nat->Heap->List Gj->Prop)(Out:Heap->List Gj->Prop):Prop where
 item:∀(i:Nat)(s:Gz)(acc:List Gj)(Q:Option Gj->Gz->Prop)(E:Gj->Gz->Prop),i<n->St i s.heap acc->(∀v h' tk,St (i+1) h' (acc++[v])->(∀b o,b∉fp->s.heap.get? b=Ga o->h'.get? b=Ga o)->Q (Ga v) {s with heap:=h',toks:=tk})->wpAny (TU prog w) A (pyNext (.ref I)) Q E s
 done:∀(s:Gz)(acc:List Gj)(Q:Option Gj->Gz->Prop)(E:Gj->Gz->Prop),St n s.heap acc->(∀h' tk,Out h' acc->(∀b o,b∉fp->s.heap.get? b=Ga o->h'.get? b=Ga o)->Q Gq {s with heap:=h',toks:=tk})->wpAny (TU prog w) A (pyNext (.ref I)) Q E s
 keep:∀(i:Nat)(h h':Heap)(acc:List Gj),St i h acc->(∀b o,b≠S->h.get? b=Ga o->h'.get? b=Ga o)->S<h'.objs.size->St i h' acc
section
variable{prog:Gn}{w:Tg}{A:DT}{E:Gj->Gz->Prop}{s:Gz}{R:Ha->Gz->Prop}{I S:Gd}{fp:List Gd}{n:Nat}{St:Nat->Heap->List Gj->Prop}{Out:Heap->List Gj->Prop}
theorem Po(G:oq prog w A.in1 I S fp n St Out)(t:S∉fp)(g:n<=TH)(res:Gj){h₁:Heap}
  (B:∀f p a c,(∀b o,b≠S->b∉fp->h₁.get? b=Ga o->f.get? b=Ga o)->f.get? S=Ga {cls:=.type "list",dict:=Gq,data:=.seq a c,slots:=#[]}->a.size=n->Out f a.toList->R (.ok (.ret res)) {s with heap:=f,toks:=p}):
  ∀(k i:Nat)(h:Heap)(p c:Nat)(a:Array Gj),n - i=k->i<=n->St i h a.toList->(∀b o,b≠S->b∉fp->h₁.get? b=Ga o->h.get? b=Ga o)->a.size=i->
   h.get? S=Ga {cls:=.type "list",dict:=Gq,data:=.seq a c,slots:=#[]}->codeAny (TU prog w) A (.builtin "list.extend.loop" {[.ref S,.ref I,res],[]}) R {s with heap:=h,toks:=p}:=by
 intro k;induction k with
 |zero=>
  intro i h p c a D hi m d j y;have g:i=n:=by lia
  subst g;refine BA Mi ?_;rw[NB EM _];show wpAny _ A.in1 (pyNext (.ref I)>>=_) _ _ _;refine Gb (G.done {s with heap:=h,toks:=p} a.toList _ _ m λf q u l=>?_);exact Gm (B f q a c (λb o x r e=>l b o r (d b o x r e)) (l S _ t y) j u)
 |succ k E=>
  intro i h p c a D hi m d j y;refine BA Mi ?_;rw[NB EM _];show wpAny _ A.in1 (pyNext (.ref I)>>=_) _ _ _;refine Gb (G.item i {s with heap:=h,toks:=p} a.toList _ _ (by lia) m λv f q u l=>?_);dsimp only at l⊢;have g:=l S _ t y;have z:∀b o,b≠S->f.get? b=Ga o->(f.update S (Lw (·.push v))).get? b=Ga o:=λb o C e=>(Sg _ _ (Ta C)).trans e;show wpAny _ A.in1 (updateSeq S (·.push v)>>=_) _ _ _;refine Gb ?_;refine FA g rfl (Gm ⟨NQ EM _,E (i+1) _ q _ (a.push v) (by lia) (by lia) (G.keep _ _ _ _ (by rw[Array.toList_push];exact u) z (Tn (DU _ g Xb)))
   (λb o x r e=>z b o x (l b o r (d b o x r e))) (by rw[BB,j]) (DU _ g Xb)⟩) (by lia) (by show(a.push v).size<=TH+1;rw[BB];lia)
theorem vw{T:String}{hb:Bool}(G:oq prog w A.in1.in1 I s.heap.objs.size fp n St Out)(B:∀b∈fp,b<s.heap.objs.size)(L:I<s.heap.objs.size)(P:n<=TH)(C:∀f:Heap,(∀b o,s.heap.get? b=Ga o->f.get? b=Ga o)->s.heap.objs.size<f.objs.size->St 0 f [])
  (N:∀h d,St 0 h d->CM {s with heap:=h} (.ref I) T)(U:(Lb T==Lb "list")=Gx)(V:(Lb T==Lb "tuple")=Gx)
  (self:∀(A:DT)(E:Gj->Gz->Prop)(h:Heap)(Q:Gj->Gz->Prop),St 0 h []->Q (.ref I) {s with heap:=h}->wpAny (TU prog w) A (pyIter (.ref I)) Q E {s with heap:=h})
  (hint:∀(A:DT)(E:Gj->Gz->Prop)(h:Heap)(Q:Bool->Gz->Prop),St 0 h []->Q hb {s with heap:=h}->wpAny (TU prog w) A (EE (.ref I)) Q E {s with heap:=h})
  (M:∀l F d c,(∀b o,b∉fp->s.heap.get? b=Ga o->l.get? b=Ga o)->l.get? s.heap.objs.size=Ga {cls:=.type "list",dict:=Gq,data:=.seq d c,slots:=#[]}->d.size=n->Out l d.toList->Q (.ref s.heap.objs.size) {s with heap:=l,toks:=F}):
  wpAny (TU prog w) A (call (.type "list") [.ref I]) Q E s:=by
 have z:s.heap.objs.size∉fp:=λr=>EF _ (B _ r);have y:s.heap.objs.size≠I:=DB L;refine callType_codes (Q₁:=λt k=>t=.ref s.heap.objs.size/\k={s with heap:=s.heap.push {cls:=.type "list",data:=.seq #[]}}) HU (CZ _) C0
  (code_list_new _ ⟨Xb,Xb⟩) λt k h₁=>?_
 have(rfl,rfl):=h₁;have v:(s.heap.push {cls:=.type "list",data:=.seq #[]}).get? s.heap.objs.size=Ga {cls:=.type "list",data:=.seq #[]}:=To _ rfl;exists {_,v,1},CO _ _;show wpAny _ _ (do let r<-M1 (.ref s.heap.objs.size);C2 (.ref s.heap.objs.size) (λ_=>#[]);letGo r.toList.reverse;Lv (.ref s.heap.objs.size) (.ref I) .none) _ _ _;refine Gb ?_;unfold M1;refine Gb (Eh v rfl (Gm ?_));show wpAny _ _ (updateSeq s.heap.objs.size (λ_=>#[])>>=λ_=>letGo (#[]:Array Gj).toList.reverse>>=λ_=>Lv (.ref s.heap.objs.size) (.ref I) .none) _ _ _;refine Gb (FA v rfl ?_);have a:=DU (Lw (λ_=>(#[]:Array Gj))) v rfl;refine Gb (Mr ?_);generalize q:(s.heap.push {cls:=.type "list",data:=.seq #[]}).update s.heap.objs.size (Lw (λ_=>(#[]:Array Gj)))=f at a;have H:∀b o,s.heap.get? b=Ga o->f.get? b=Ga o:=λb o e=>by rw[<-q];exact(Sg _ _ (Ta (T2 (Tn e)))).trans (Gp _ e)
 have j:St 0 f []:=C f H (Tn a);clear q;unfold Lv;refine Gb (Hd (T:=T) (N _ _ j) ?_);have K:Mz (.ref s.heap.objs.size) (.ref I)=Gx:=by simp[Mz,y]
 simp only[K,U,V,CD,DK,EB];refine Gb (self _ _ f _ j ?_);refine Gb (D9 (hint _ _ f _ j ?_));have p:∀(m:Heap)(c:Nat),St 0 m []->(∀b o,b≠s.heap.objs.size->f.get? b=Ga o->m.get? b=Ga o)->m.get? s.heap.objs.size=Ga {cls:=.type "list",dict:=Gq,data:=.seq #[] c,slots:=#[]}->
   codeAny (TU prog w) A.in1 (.builtin "list.extend.loop" {[.ref s.heap.objs.size,.ref I,.none],[]}) (wants (λr u=>r=DE/\Q (Tk s.heap.objs.size) u) E) {s with heap:=m,toks:=s.toks}:=by
  intro m c D S x;refine Po (A:=A.in1) (s:=s) (h₁:=s.heap) G z P .none (λl F d c u r O R=>{1,M l F d c (λb o hb e=>u b o (T2 (Tn e)) hb e) r O R}) n 0 m s.toks c #[] (by lia) (Tu _) D (λb o hb _ e=>S b o hb (H b o e)) rfl x
 refine FC (λ_=>?_) (λ_=>Gm {NQ EM _,p f _ j (λb o _ e=>e) a});refine Gb (Fg ?_);refine Gb ?_;show wpAny _ _ (updateSeq s.heap.objs.size (·.push .none)>>=λ_=>updateSeq s.heap.objs.size (·.pop)) _ _ _;refine Gb (FA a rfl ?_);have g:=DU (Lw (·.push DE)) a rfl;refine FA (hz:=by seq_fits) g rfl ?_;have i:=DU (Lw (·.pop)) g rfl;have J:∀b o,b≠s.heap.objs.size->f.get? b=Ga o->((f.update s.heap.objs.size (Lw (·.push DE))).update s.heap.objs.size (Lw (·.pop))).get? b=Ga o:=λb o hb e=>(Sg _ _ (Ta hb)).trans ((Sg _ _ (Ta hb)).trans e)
 exact Gm {NQ EM _,p _ _ (G.keep _ _ _ _ j J (Tn i)) J i}
end
structure iB(prog:Gn)(w:Tg)(it l:Gd)(xs:Array Gj)(St:Nat->Heap->Prop):Prop where
 item:∀(A:DT)(E:Gj->Gz->Prop)(s:Gz)(i:Nat)(x:Gj)(Q:Gj->Gz->Prop),St i s.heap->xs[i]?=Ga x->(∀h',St (i+1) h'->Ew it s.heap h'->Q x {s with heap:=h'})->wpAny (TU prog w) A (T8 (.ref it)) Q E s
 fin:∀(A:DT)(E:Gj->Gz->Prop)(s:Gz)(i:Nat)(Q:Gj->Gz->Prop),A.handled=Gq->St i s.heap->xs[i]?=Gq->(∀h' e,Nu it s.heap h'->(∃o,h'.get? e=Ga o/\o.cls=.type "StopIteration")->E (.ref e) {s with heap:=h'})->wpAny (TU prog w) A (T8 (.ref it)) Q E s
 keep:∀(i:Nat)(h h':Heap),St i h->(∀b,b=it\/b=l->∀o,h.get? b=Ga o->h'.get? b=Ga o)->St i h'
 there:∀(i:Nat)(h:Heap),St i h->it<h.objs.size/\l<h.objs.size
theorem wR{b:Gn}{w:Tg}{l:Gd}(d:l≠it):iB b w it l xs (λi h=>h.IsListIter it l i/\h.IsList l xs) where
 item:=λA E s i x Q a f m=>wpAny_nextOf_list_item a.1 a.2 f λg c hs=>m g {c,a.2.extBut hs.extBut d} hs
 fin:=λA E s i Q n a f j=>wpAny_nextOf_list_end n a.1 a.2 f j
 keep:=λi h g a k=>{a.1.at λo e=>k it (.inl Xb) o e,a.2.at λo e=>k l (.inr Xb) o e}
 there:=λi h a=>{let⟨_,e,_⟩:=a.1;Tn e,let⟨_,e,_⟩:=a.2;Tn e}
section
variable{prog:Gn}{w:Tg}{A:DT}{E:Gj->Gz->Prop}{s:Gz}
theorem Ic{t:Gd}{a:Array Gj}(b:s.heap.IsTupleIter it t i)(ht:s.heap.IsTuple t a)(k:a[i]?=Ga x)
  (h:∀e,e.IsTupleIter it t (i+1)->Ew it s.heap e->Q x {s with heap:=e}):wpAny (TU prog w) A (T8 (.ref it)) Q E s:=by
 have(o,d,j,c):=id b;have(m,g,_,l,f):=ht;unfold T8;refine Gb (DN (name:=EI "__next__") b.typeIs F.slot_tuple_iterator_next
  (DC F.slot_tuple_iterator_next b.typeIs F.entry_tuple_iterator_next ?_ (F.args_tuple_iterator_next_1 _)))
 show wpAny _ _ (field (.ref it) 0>>=_) _ _ s;refine Gb (DG d c (x:=.ref t) rfl ?_);show wpAny _ _ (if(Tk t==DE)=Gi then _ else _) _ _ s;rw[Gs (show¬((Tk t==DE)=Gi)from TD)];show wpAny _ _ (field (.ref it) 1>>=_) _ _ s;refine Gb (DG d c (x:=.int i 0) rfl ?_);show wpAny _ _ (seqItems? (.ref t)>>=_) _ _ s;refine Gb (Eh g f ?_);simp only[Er,k];refine Gb (Lx d c (by simp) (Gm {x,1,Gm (h _ ?_ (Eb ..))}));exact{_,DU _ d (Fd (So c _)),(Mt ..).trans j,by rw[So c];simp[rawInt]}
theorem Iu{t:Gd}{a:Array Gj}(j:A.handled=Gq)(b:s.heap.IsTupleIter it t i)(ht:s.heap.IsTuple t a)(l:a[i]?=Gq)
  (k:∀c e,Nu it s.heap c->(∃o,c.get? e=Ga o/\o.cls=.type "StopIteration")->E (.ref e) {s with heap:=c}):wpAny (TU prog w) A (T8 (.ref it)) Q E s:=by
 have(o,g,c,d):=id b;have(n,h,_,m,f):=ht;unfold T8;refine Gb (DN (name:=EI "__next__") b.typeIs F.slot_tuple_iterator_next
  (DC F.slot_tuple_iterator_next b.typeIs F.entry_tuple_iterator_next ?_ (F.args_tuple_iterator_next_1 _)))
 show wpAny _ _ (field (.ref it) 0>>=_) _ _ s;refine Gb (DG g d (x:=.ref t) rfl ?_);show wpAny _ _ (if(Tk t==DE)=Gi then _ else _) _ _ s;rw[Gs (show¬((Tk t==DE)=Gi)from TD)];show wpAny _ _ (field (.ref it) 1>>=_) _ _ s;refine Gb (DG g d (x:=.int i 0) rfl ?_);show wpAny _ _ (seqItems? (.ref t)>>=_) _ _ s;refine Gb (Eh h f ?_);simp only[Er,l];refine Gb (Fg (Gb (Lx g d (by simp) ?_)));show wpAny _ _ (newExc (.type "StopIteration") []>>=_) _ _ _;refine Gb ?_;simp only[newExc,newTuple];refine Gb (DD ?_ (by size_fits));refine Gb (m:=firstArgMember _ _) (Bs (a:=DE) (by first|rfl|(simp only[firstArgMember];rfl)) ?_);refine DD ?_ (by size_fits);simp only[raiseNew];refine Gb (NP ?_);first|rw[show A.in1.handled=Gq from j]|rw[j]
 refine Gb (Gm (Bt ?_));exact k _ _ (((Eb ..).extBut.push _).push _) {_,To _ Xb,1}
end
theorem vi{b:Gn}{w:Tg}{l:Gd}(d:l≠it):iB b w it l xs (λi h=>h.IsTupleIter it l i/\h.IsTuple l xs) where
 item:=λA E s i x Q a f m=>Ic a.1 a.2 f λg c hs=>m g {c,a.2.extBut hs.extBut d} hs
 fin:=λA E s i Q n a f j=>Iu n a.1 a.2 f j
 keep:=λi h g a k=>{let⟨o,ho,r⟩:=a.1;{o,k it (.inl Xb) o ho,r},let⟨o,ho,r⟩:=a.2;{o,k l (.inr Xb) o ho,r}}
 there:=λi h a=>{let⟨_,e,_⟩:=a.1;Tn e,let⟨_,e,_⟩:=a.2;Tn e}
abbrev R4(h:Heap)(z TI TO a:Gd)(f:Bool):Prop:=h.get? z=Ga {cls:=.type "zip",dict:=Gq,data:=.fields #[rawInt a,.bool f,.bool Gx,.ref TI,.ref TO],slots:=#[]}
section
variable{prog:Gn}{w:Tg}{A:DT}{E:Gj->Gz->Prop}{s:Gz}{z TI TO i1 i2 l1 l2:Gd}{k:Nat}{xs ys:Array Gj}{S1 S2:Nat->Heap->Prop}
theorem Qn4{y a t:Gj}(d:BQ z TI TO i1 i2 l1 l2)(C:iB prog w i1 l1 xs S1)(D:iB prog w i2 l2 ys S2)
  (r:Nb s.heap z TI TO .none)(ac:E5 s.heap TI (.ref i1) (.ref i2))(ad:E5 s.heap TO a t)(h1:S1 k s.heap)(h2:S2 k s.heap)(hx:xs[k]?=Ga x)(hy:ys[k]?=Ga y)
  (hQ:∀h,R4 h z TI TO s.heap.objs.size Gx->E5 h TO x y->S1 (k+1) h->S2 (k+1) h->E5 h s.heap.objs.size x y->
   (∀c b,c≠z->c≠TO->c≠i1->c≠i2->s.heap.get? c=Ga b->h.get? c=Ga b)->Q (.ref s.heap.objs.size) {s with heap:=h}):
  wpAny (TU prog w) A (Builtin.«zip.__next__» {[.ref z],[]}) (λfin s'=>∃h,fin=.done (.ret h)/\Q h s') E s:=by
 show wpAny _ _ (field (.ref z) 2>>=_) _ _ _;refine Gb (DG r rfl (x:=.bool Gx) rfl ?_);show wpAny _ _ (field (.ref z) 3>>=_) _ _ _;refine Gb (DG r rfl (x:=.ref TI) rfl ?_);refine Gb (Eh ac rfl ?_);show wpAny _ _ (Dm (.ref z)>>=_) _ _ _;refine Gb ?_;unfold Dm;refine Gb (DG r rfl (x:=.none) rfl (Gm ?_));simp only[Mo];refine Gb (Fg ?_);refine Gb (DG r rfl (x:=.ref TO) rfl ?_);refine Gb (EX r (by simp) λL J S=>?_);replace J:Nb L z TI TO .ellipsis:=J;have F:∀c b,c≠z->s.heap.get? c=Ga b->L.get? c=Ga b:=λc b Z e=>S.extBut _ _ Z e;refine Gb ?_;simp only[Bp,BC,LQ,Me];refine Gb (Gb (MA ?_));show wpAny _ _ (T8 (.ref i1)>>=_) _ _ _;refine Gb (C.item _ _ _ k x _ (C.keep k _ L h1 λc i b e=>F c b (by rcases i with rfl|rfl;exact d.i1z;exact d.l1z) e) hx λag aa v=>Gm ?_);have N:E5 ag TO a t:=v.extBut _ _ d.TOi1 (F _ _ d.TOz ad);refine Gb (Eh N rfl ?_);refine Gb (Ft N λM I q=>?_);replace I:E5 M TO x t:=I;refine Gb (Mr (Gm ?_));have G:∀c b,c≠z->c≠i1->c≠TO->s.heap.get? c=Ga b->M.get? c=Ga b:=λc b g l p e=>q.extBut _ _ p (v.extBut _ _ l (F c b g e));refine Gb (Gb (MA ?_));show wpAny _ _ (T8 (.ref i2)>>=_) _ _ _;refine Gb (D.item _ _ _ k y _ (D.keep k _ M h2 λc i b e=>by
  rcases i with rfl|rfl
  .exact G _ b d.i2z d.i12.symm d.TOi2.symm e
  .exact G _ b d.l2z d.l2i1 d.l2TO e) hy λah ab m=>Gm ?_)
 have O:E5 ah TO x t:=m.extBut _ _ d.TOi2 I;refine Gb (Eh O rfl ?_);refine Gb (Ft O λf u j=>?_);replace u:E5 f TO x y:=u;refine Gb (Mr (Gm (Gm ?_)));refine Gb (Eh u rfl ?_);refine Gb (BR ?_);have R:f.objs.size=s.heap.objs.size:=by rw[j.1,m.1,q.1,v.1,S.1]
 have W:Nb f z TI TO .ellipsis:=j.extBut _ _ d.TOz.symm (m.extBut _ _ d.i2z.symm (q.extBut _ _ d.TOz.symm (v.extBut _ _ d.i1z.symm J)));have ae:∀c b,c≠z->c≠TO->c≠i1->c≠i2->s.heap.get? c=Ga b->f.get? c=Ga b:=λc b g l p H e=>j.extBut _ _ l (m.extBut _ _ H (G c b g p l e));have V:z<f.objs.size:=Tn W;show wpAny _ _ (LH (.ref z) (.ref f.objs.size)>>=_) _ _ _;refine Gb ?_;unfold LH;have af:Nb (f.push {cls:=.type "tuple",data:=.seq #[x,y]}) z TI TO .ellipsis:=Gp _ W;refine Gb (EX af (by simp) λai K T=>?_);replace K:Nb ai z TI TO (rawInt f.objs.size):=K;refine EX K (by simp) λn B U=>?_;replace B:Nb n z TI TO (rawInt f.objs.size):=B;have o:∀c b,c≠z->f.get? c=Ga b->n.get? c=Ga b:=λc b g e=>U.extBut _ _ g (T.extBut _ _ g (Gp _ e));have P:E5 n f.objs.size x y:=U.extBut _ _ (DB V) (T.extBut _ _ (DB V) (To _ Xb));rw[R]at B P;refine Gm {0,?_};show Q (.ref f.objs.size) _;rw[R];have X:S1 (k+1) n:=C.keep _ _ _ aa λc i b e=>by
  rcases i with rfl|rfl
  .exact o _ b d.i1z (j.extBut _ _ d.TOi1.symm (m.extBut _ _ d.i12 (q.extBut _ _ d.TOi1.symm e)))
  .exact o _ b d.l1z (j.extBut _ _ d.l1TO (m.extBut _ _ d.l1i2 (q.extBut _ _ d.l1TO e)))
 have Y:S2 (k+1) n:=D.keep _ _ _ ab λc i b e=>by
  rcases i with rfl|rfl
  .exact o _ b d.i2z (j.extBut _ _ d.TOi2.symm e)
  .exact o _ b d.l2z (j.extBut _ _ d.l2TO e)
 exact hQ n B (o _ _ d.TOz u) X Y P λc b g l p H e=>o c b g (ae c b g l p H e)
theorem uN{a:Gd}{f:Bool}{i:S8}{Q:Bool->Gz->Prop}(e:R4 s.heap z TI TO a f)(h:s.heap.get? a=Ga i)(g:∀b,R4 b z TI TO a Gi->Ew z s.heap b->Q Gx {s with heap:=b}):
  wpAny (TU prog w) A (Dm (.ref z)) Q E s:=by
 unfold Dm;refine Gb (DG e rfl (x:=rawInt a) rfl ?_);show wpAny _ _ (loadIfAlive ((a:Int).toNat)>>=_) _ _ _;rw[Er];refine Gb (IZ h ?_);simp only[Option.isNone_some,DK,EB];refine Gb (DG e rfl (x:=.bool f) rfl ?_);cases f with
 |true=>rw[Gs (show¬((La Gi !=La Gi)=Gi)from TD)];exact Gm (g _ e (I2 _ _))
 |false=>rw[GV (show(La Gx !=La Gi)=Gi from rfl)];exact Gb (EX e (by simp) λd b c=>Gm (g d b c))
theorem PV{y:Gj}{a:Gd}{f:Bool}{S:S8}(D:BQ z TI TO i1 i2 l1 l2)(u:iB prog w i1 l1 xs S1)(B:iB prog w i2 l2 ys S2)
  (I:R4 s.heap z TI TO a f)(O:s.heap.get? a=Ga S)(H:E5 s.heap TI (.ref i1) (.ref i2))(L:S1 k s.heap)(M:S2 k s.heap)(P:xs[k]?=Ga x)(R:ys[k]?=Ga y)
  (N:∀q,R4 q z TI TO a Gi->S1 (k+1) q->S2 (k+1) q->E5 q s.heap.objs.size x y->
   (∀c o,c≠z->c≠i1->c≠i2->s.heap.get? c=Ga o->q.get? c=Ga o)->Q (.ref s.heap.objs.size) {s with heap:=q}):
  wpAny (TU prog w) A (Builtin.«zip.__next__» {[.ref z],[]}) (λfin s'=>∃v,fin=.done (.ret v)/\Q v s') E s:=by
 show wpAny _ _ (field (.ref z) 2>>=_) _ _ _;refine Gb (DG I rfl (x:=.bool Gx) rfl ?_);show wpAny _ _ (field (.ref z) 3>>=_) _ _ _;refine Gb (DG I rfl (x:=.ref TI) rfl ?_);refine Gb (Eh H rfl ?_);show wpAny _ _ (Dm (.ref z)>>=_) _ _ _;refine Gb (uN I O λj p i=>?_);have J:∀c o,c≠z->s.heap.get? c=Ga o->j.get? c=Ga o:=λc o h e=>i.extBut _ _ h e;simp only[DK,EB];refine Gb ?_;rw[<-LU];simp only[LQ,Me];refine Gb (Gb (D9 ?_));show wpAny _ _ (T8 (.ref i1)>>=_) _ _ _;refine Gb (u.item _ _ _ k x _ (u.keep k _ j L λc r o e=>J c o (by rcases r with rfl|rfl;exact D.i1z;exact D.l1z) e) P λl m d=>Gm (Gm ?_));have C:∀c o,c≠z->c≠i1->s.heap.get? c=Ga o->l.get? c=Ga o:=λc o F G e=>d.extBut _ _ G (J c o F e);refine Gb (Gb (D9 ?_));show wpAny _ _ (T8 (.ref i2)>>=_) _ _ _;refine Gb (B.item _ _ _ k y _ (B.keep k _ l M λc r o e=>by
  rcases r with rfl|rfl
  .exact C _ o D.i2z D.i12.symm e
  .exact C _ o D.l2z D.l2i1 e) R λg n b=>Gm (Gm (Gm ?_)))
 refine Gb (BR (hsz:=Yy) ?_);have hsz:g.objs.size=s.heap.objs.size:=by rw[b.1,d.1,i.1]
 refine Gm {0,?_};show Q (.ref g.objs.size) _;rw[hsz];have t:∀c o,g.get? c=Ga o->(g.push {cls:=.type "tuple",data:=.seq #[x,y]}).get? c=Ga o:=λc o e=>Gp _ e;refine N _ (t _ _ (b.extBut _ _ D.i2z.symm (d.extBut _ _ D.i1z.symm p))) (u.keep _ _ _ m λc r o e=>t _ _ ?_) (B.keep _ _ _ n λc r o e=>t _ _ e) (by rw[<-hsz];exact To _ Xb) λc o F G K e=>t _ _ (b.extBut _ _ K (C c o F G e));rcases r with rfl|rfl
 .exact b.extBut _ _ D.i12 e
 .exact b.extBut _ _ D.l1i2 e
theorem Qwp{a N:Gj}{Y:Fin->Gz->Prop}(G:A.handled=Gq)(e:BQ z TI TO i1 i2 l1 l2)(r:iB prog w i1 l1 xs S1)(D:iB prog w i2 l2 ys S2)
  (h:Nb s.heap z TI TO .none\/∃c O X,R4 s.heap z TI TO c O/\s.heap.get? c=Ga X)(R:E5 s.heap TI (.ref i1) (.ref i2))(aa:E5 s.heap TO a N)(P:S1 k s.heap)(Q:S2 k s.heap)(T:xs[k]?=Gq\/ys[k]?=Gq)
  (F:∀p d,(∀c b,c≠z->c≠TO->c≠i1->c≠i2->s.heap.get? c=Ga b->p.get? c=Ga b)->(∃b,p.get? d=Ga b/\b.cls=.type "StopIteration")->E (.ref d) {s with heap:=p}):
  wpAny (TU prog w) A (Builtin.«zip.__next__» {[.ref z],[]}) Y E s:=by
 rcases h with h|⟨p,O,X,h,ha⟩
 .show wpAny _ _ (field (.ref z) 2>>=_) _ _ _;refine Gb (DG h rfl (x:=.bool Gx) rfl ?_);show wpAny _ _ (field (.ref z) 3>>=_) _ _ _;refine Gb (DG h rfl (x:=.ref TI) rfl ?_);refine Gb (Eh R rfl ?_);show wpAny _ _ (Dm (.ref z)>>=_) _ _ _;refine Gb ?_;unfold Dm;refine Gb (DG h rfl (x:=.none) rfl (Gm ?_));simp only[Mo];refine Gb (Fg ?_);refine Gb (DG h rfl (x:=.ref TO) rfl ?_);refine Gb (EX h (by simp) λt B K=>?_);replace B:Nb t z TI TO .ellipsis:=B;have l:∀c b,c≠z->s.heap.get? c=Ga b->t.get? c=Ga b:=λc b g d=>K.extBut _ _ g d;refine Gb ?_;simp only[Bp,BC,LQ,Me];refine Gb (Gb (MA ?_));show wpAny _ _ (T8 (.ref i1)>>=_) _ _ _;have C:=r.keep k _ t P λc n b d=>l c b (by rcases n with rfl|rfl;exact e.i1z;exact e.l1z) d;cases hx:xs[k]? with
  |none=>
   refine Gb (r.fin _ _ _ k _ G C hx λm d i o=>?_);have(M,p,y):=o;have H:Nb m z TI TO .ellipsis:=i _ _ e.i1z.symm B;have J:d≠z:=λx=>by subst x;rw[H]at p;cases p;simp at y
   refine EX H (by simp) λu _ q=>F u d (λc b f _ j _ x=>q.extBut _ _ f (i _ _ j (l _ _ f x))) {M,q.extBut _ _ J p,y}
  |some x=>
   have L:ys[k]?=Gq:=by rcases T with g|g;rw[hx]at g;cases g;exact g
   refine Gb (r.item _ _ _ k x _ C hx λm Z i=>Gm ?_);have S:E5 m TO a N:=i.extBut _ _ e.TOi1 (l _ _ e.TOz aa);refine Gb (Eh S rfl ?_);refine Gb (Ft S λu ad q=>?_);refine Gb (Mr (Gm ?_));have H:∀c b,c≠z->c≠i1->c≠TO->s.heap.get? c=Ga b->u.get? c=Ga b:=λc b f v j d=>q.extBut _ _ j (i.extBut _ _ v (l c b f d));refine Gb (Gb (MA ?_));show wpAny _ _ (T8 (.ref i2)>>=_) _ _ _;refine Gb (D.fin _ _ _ k _ G (D.keep k _ u Q λc n b d=>by
    rcases n with rfl|rfl
    .exact H _ b e.i2z e.i12.symm e.TOi2.symm d
    .exact H _ b e.l2z e.l2i1 e.l2TO d) L λab d U o=>?_)
   have(M,p,y):=o;have W:Nb ab z TI TO .ellipsis:=U _ _ e.i2z.symm (q.extBut _ _ e.TOz.symm (i.extBut _ _ e.i1z.symm B));have J:d≠z:=λx=>by subst x;rw[W]at p;cases p;simp at y
   refine EX W (by simp) λac _ V=>F ac d (λc b f v j I x=>V.extBut _ _ f (U _ _ I (H c b f j v x))) {M,V.extBut _ _ J p,y}
 .show wpAny _ _ (field (.ref z) 2>>=_) _ _ _;refine Gb (DG h rfl (x:=.bool Gx) rfl ?_);show wpAny _ _ (field (.ref z) 3>>=_) _ _ _;refine Gb (DG h rfl (x:=.ref TI) rfl ?_);refine Gb (Eh R rfl ?_);show wpAny _ _ (Dm (.ref z)>>=_) _ _ _;refine Gb (uN h ha λt B K=>?_);have l:∀c b,c≠z->s.heap.get? c=Ga b->t.get? c=Ga b:=λc b g d=>K.extBut _ _ g d;simp only[DK,EB];refine Gb ?_;rw[<-LU];simp only[LQ,Me];refine Gb (Gb (D9 ?_));show wpAny _ _ (T8 (.ref i1)>>=_) _ _ _;have C:=r.keep k _ t P λc n b d=>l c b (by rcases n with rfl|rfl;exact e.i1z;exact e.l1z) d;cases hx:xs[k]? with
  |none=>exact Gb (r.fin _ _ _ k _ G C hx λm d i o=>F m d (λc b f _ j _ x=>i _ _ j (l _ _ f x)) o)
  |some x=>
   have L:ys[k]?=Gq:=by rcases T with g|g;rw[hx]at g;cases g;exact g
   refine Gb (r.item _ _ _ k x _ C hx λm Z i=>Gm (Gm ?_));have p:∀c b,c≠z->c≠i1->s.heap.get? c=Ga b->m.get? c=Ga b:=λc b f v d=>i.extBut _ _ v (l c b f d);refine Gb (Gb (D9 ?_));show wpAny _ _ (T8 (.ref i2)>>=_) _ _ _;exact Gb (D.fin _ _ _ k _ G (D.keep k _ m Q λc n b d=>by
    rcases n with rfl|rfl
    .exact p _ b e.i2z e.i12.symm d
    .exact p _ b e.l2z e.l2i1 d) L λu d q o=>F u d (λc b f _ j I x=>q _ _ I (p c b f j x)) o)
structure oT(S1 S2:Nat->Heap->Prop)(xs ys:Array Gj)(z TI TO i1 i2 S:Gd)(i:Nat)(h:Heap)(acc:List Gj):Prop where
 zip:(i=0/\Nb h z TI TO .none)\/∃c f oa,R4 h z TI TO c f/\h.get? c=Ga oa/\c≠S/\c≠z/\c≠TO/\c≠i1/\c≠i2
 ti:E5 h TI (.ref i1) (.ref i2)
 to:∃a b,E5 h TO a b
 s1:S1 i h
 s2:S2 i h
 len:acc.length=i
 sl:S<h.objs.size
 out:∀(j:Nat)v,acc[j]?=Ga v->∃c x y,v=.ref c/\xs[j]?=Ga x/\ys[j]?=Ga y/\E5 h c x y/\c≠S/\c≠z/\c≠TO/\c≠i1/\c≠i2/\z<c
theorem tG{Q:Option Gj->Gz->Prop}{R:Gj->Gz->Prop}(b:s.TypeIs (.ref z) "zip")(h:wpAny (TU prog w) A.in1 (Builtin.«zip.__next__» {[.ref z],[]}) (λfin s'=>∃v,fin=.done (.ret v)/\Q (Ga v) s') (λe s'=>∃o,(∃a,e=.ref a/\s'.heap.get? a=Ga o/\o.cls=.type "StopIteration")/\Q Gq s') s):wpAny (TU prog w) A (pyNext (.ref z)) Q E s:=by
 unfold pyNext;refine Gb (Fk (DN (name:=EI "__next__") b F.slot_zip_next
  (DC F.slot_zip_next b F.entry_zip_next (ET h (λfin s'⟨v,e,q⟩=>{v,e,Gm q}) λe s'⟨o,⟨a,c,f,d⟩,q⟩=>?_) (F.args_zip_next_1 _))))
 subst c;exact Gb (LB (T:="StopIteration") (b:=Gi) ⟨o,f,d⟩ Nv (Gm q))
theorem oT.type{S:Gd}{h:Heap}{a:List Gj}(x:oT S1 S2 xs ys z TI TO i1 i2 S i h a):CM {s with heap:=h} (.ref z) "zip":=by
 rcases x.zip with⟨_,e⟩|⟨c,f,b,e,_⟩
 .exact{_,e,1}
 .exact{_,e,1}
theorem UM{S:Gd}(hh:A.handled=Gq)(q:BQ z TI TO i1 i2 l1 l2)(F:iB prog w i1 l1 xs S1)(G:iB prog w i2 l2 ys S2)(B:S≠z/\S≠TI/\S≠TO/\S≠i1/\S≠i2/\S≠l1/\S≠l2):
  oq prog w A z S [z,TO,i1,i2] (min xs.size ys.size) (oT S1 S2 xs ys z TI TO i1 i2 S)
   (λh H=>∀(j:Nat)v,H[j]?=Ga v->∃c x y,v=.ref c/\xs[j]?=Ga x/\ys[j]?=Ga y/\E5 h c x y/\c≠S/\z<c):=by
 have E:∀{c:Gd},c≠z->c≠TO->c≠i1->c≠i2->c∉[z,TO,i1,i2]:=λa m c d h=>by simp at h;rcases h with h|h|h|h<;>contradiction
 have u:∀{c:Gd},c∉[z,TO,i1,i2]->c≠z/\c≠TO/\c≠i1/\c≠i2:=λh=>by simp at h;exact h
 refine{λi s H ab ad hi b Z=>?_,λs H ab ad b Z=>?_,λi h f H b k Q=>?_}
 .have hx:xs[i]?=Ga xs[i]:=T6 (by ext);have hy:ys[i]?=Ga ys[i]:=T6 (by ext);have(ta,tb,D):=b.to;have Q:=b.sl;refine tG (R:=λ_ _=>True) b.type ?_;have ac:∀f,(∃c t r,R4 f z TI TO c t/\f.get? c=Ga r/\c≠S/\c≠z/\c≠TO/\c≠i1/\c≠i2)->(∃a m,E5 f TO a m)->S1 (i+1) f->S2 (i+1) f->E5 f s.heap.objs.size xs[i] ys[i]->(∀c g,c≠z->c≠TO->c≠i1->c≠i2->s.heap.get? c=Ga g->f.get? c=Ga g)->ab (Ga (.ref s.heap.objs.size)) {s with heap:=f,toks:=s.toks}:=by
   intro f ag af J K E n;have X:z<s.heap.objs.size:=by rcases b.zip with⟨_,e⟩|⟨c,t,r,e,_⟩<;>exact Tn e
   have aa:TO<s.heap.objs.size:=Tn D;have ah:i1≠s.heap.objs.size:=T2 (F.there _ _ b.s1).1;have ai:i2≠s.heap.objs.size:=T2 (G.there _ _ b.s2).1;refine Z _ f s.toks {.inr ag,n _ _ q.TIz q.TITO q.TIi1 q.TIi2 b.ti,af,J,K,by simp[b.len],Hg Q (Tn E),λj v o=>?_} λm g l e=>n m g (u l).1 (u l).2.1 (u l).2.2.1 (u l).2.2.2 e;rcases Dh j H.length with h|h
   .rw[Tt h]at o;have(c,x,y,M,N,O,P,I,T,U,V,W,L):=b.out j v o;exact{c,x,y,M,N,O,n _ _ T U V W P,I,T,U,V,W,L}
   .rw[TR h]at o;have h0:j - H.length=0:=by have:=(Gg.mp o).1;simp at this;ext
    rw[h0]at o;simp at o;subst o;have:j=i:=by have:=b.len;ext
    subst this;exact{20,hx,hy,E,DB Q,DB X,DB aa,Ta ah,Ta ai,X}
  have X:z<s.heap.objs.size:=by rcases b.zip with⟨_,e⟩|⟨c,t,r,e,_⟩<;>exact Tn e
  have aa:TO<s.heap.objs.size:=Tn D;rcases b.zip with⟨_,p⟩|⟨c,t,r,p,C,R,c2,c3,c4,c5⟩
  .exact Qn4 q F G p b.ti D b.s1 b.s2 hx hy λf Y ae J K E n=>ac f {32,Y,E,DB Q,DB X,DB aa,DB (F.there _ _ b.s1).1,DB (G.there _ _ b.s2).1} {2,ae} J K E n
  .exact PV q F G p C b.ti b.s1 b.s2 hx hy λf Y J K E n=>ac f {c,Gi,r,Y,n _ _ c2 c4 c5 C,R,c2,c3,c4,c5} {2,n _ _ q.TOz q.TOi1 q.TOi2 D} J K E λm g b1 _ b3 b4 e=>n m g b1 b3 b4 e
 .obtain⟨ta,tb,D⟩:=b.to;refine tG (R:=λ_ _=>True) b.type (Qwp (k:=min xs.size ys.size) hh q F G ?_ b.ti D b.s1 b.s2 ?_ λf e n E=>?_)
  .rcases b.zip with⟨_,p⟩|⟨c,t,r,p,C,_⟩
   .exact .inl p
   .exact .inr ⟨c,t,r,p,C⟩
  .rcases Nat.le_total xs.size ys.size with h|h
   .exact .inl (El (by ext))
   .exact .inr (El (by ext))
  .obtain⟨g,J,C⟩:=E;refine{g,⟨e,Xb,J,C⟩,Z f s.toks (λj v o=>?_) λm g l e=>n m g (u l).1 (u l).2.1 (u l).2.2.1 (u l).2.2.2 e};have(c,x,y,M,N,O,P,I,T,U,V,W,L):=b.out j v o;exact{c,x,y,M,N,O,n _ _ T U V W P,I,L}
 .obtain⟨ta,tb,D⟩:=b.to;refine{?_,k _ _ (Ta B.2.1) b.ti,{ta,tb,k _ _ (Ta B.2.2.1) D},F.keep _ _ _ b.s1 λm l g e=>k m g ?_ e,G.keep _ _ _ b.s2 λm l g e=>k m g ?_ e,b.len,Q,λj v o=>?_}
  .rcases b.zip with⟨L,p⟩|⟨c,t,r,p,C,R,E⟩
   .exact .inl {L,k _ _ (Ta B.1) p}
   .exact .inr {c,t,r,k _ _ (Ta B.1) p,k _ _ R C,R,E}
  .rcases l with rfl|rfl
   .exact Ta B.2.2.2.1
   .exact Ta B.2.2.2.2.2.1
  .rcases l with rfl|rfl
   .exact Ta B.2.2.2.2.1
   .exact Ta B.2.2.2.2.2.2
  .obtain⟨c,x,y,M,N,O,P,I,E⟩:=b.out j v o;exact{c,x,y,M,N,O,k _ _ I P,I,E}
end
theorem OZ:typeLookup (.type "zip") "__len__"=pure Gq:=by rw[FD,Lu];kernel_rfl
theorem Qjv:typeLookup (.type "zip") "__length_hint__"=pure Gq:=by rw[FD,Lu];kernel_rfl
section
variable{prog:Gn}{w:Tg}{A:DT}{E:Gj->Gz->Prop}{s:Gz}
theorem XW{z:Gd}{Q:Bool->Gz->Prop}(a:s.TypeIs (.ref z) "zip")(h:Q Gi s):wpAny (TU prog w) A (EE (.ref z)) Q E s:=by unfold EE;refine Gb (Sd a OZ ?_);show wpAny _ A (specialOf (Tk z) (EI "__length_hint__")>>=_) _ _ _;refine Gb (Sd a Qjv ?_);exact Gm h
noncomputable abbrev nI(h:Heap)(l1:Gd):Heap:=h.push {cls:=.type "tuple_iterator",data:=.fields #[.ref l1,.int 0 0]}
noncomputable abbrev oh(h:Heap)(l1 l2:Gd):Heap:=(nI h l1).push {cls:=.type "tuple_iterator",data:=.fields #[.ref l2,.int 0 0]}
noncomputable abbrev nG(h:Heap)(l1 l2:Gd):Heap:=(oh h l1 l2).push {cls:=.type "tuple",data:=.seq #[.ref h.objs.size,.ref (nI h l1).objs.size]}
noncomputable abbrev nj(h:Heap)(l1 l2:Gd):Heap:=(nG h l1 l2).push {cls:=.type "tuple",data:=.seq #[.none,.none]}
noncomputable abbrev jN(h:Heap)(l1 l2:Gd):Heap:=(nj h l1 l2).push {cls:=.type "zip",data:=.fields #[.none,.bool Gx,.bool Gx,.ref (oh h l1 l2).objs.size,.ref (nG h l1 l2).objs.size]}
theorem Qea(a b:Gd)(n o:Array Gj):
  Meets (Builtin.«zip.__new__» {[.type "zip",.ref a,.ref b],[]}) (λ_ R s=>s.heap.IsTuple a n/\s.heap.IsTuple b o/\
   R (.ok (.ret (.ref (nj s.heap a b).objs.size))) {s with heap:=jN s.heap a b}):=
 .of_wp λl w A R s h=>by
  have(j,g,d,m,os):=s;have(f,i,h):=h;have k:=sub_zip;have c:Hj (HN ⟨j,g,d,m,os⟩) a n:=f;have e:Hj (HN {j.push {cls:=.type "tuple_iterator",data:=.fields #[.ref a,.int 0 0]},g,d,m,os}) b o:=I3 i _;wp_walk using FP c,FP e
  exact{0,h}
theorem QV{a b:Gd}{q:Array Gj}(f:s.heap.IsTuple a xs)(g:s.heap.IsTuple b q)
  (h:∀d,Nb d (s.heap.objs.size+4) (s.heap.objs.size+2) (s.heap.objs.size+3) .none->E5 d (s.heap.objs.size+2) (.ref s.heap.objs.size) (.ref (s.heap.objs.size+1))->
   E5 d (s.heap.objs.size+3) .none .none->d.IsTupleIter s.heap.objs.size a 0->d.IsTupleIter (s.heap.objs.size+1) b 0->d.objs.size=s.heap.objs.size+5->
   (∀c o,s.heap.get? c=Ga o->d.get? c=Ga o)->Q (.ref (s.heap.objs.size+4)) {s with heap:=d}):
  wpAny (TU prog w) A (call (.type "zip") [.ref a,.ref b]) Q E s:=by
 refine callType_new F.called_zip (by decide) (F.typeCall_zip_2 _ _) (F.newCall_zip_2 _ _) (λd=>F.args_object_init_3 d _ _) F.entry_zip_new
  (Qea a b xs q) {f,g,?_}
 have i:(nI s.heap a).objs.size=s.heap.objs.size+1:=Sm ..;have j:(oh s.heap a b).objs.size=s.heap.objs.size+2:=by rw[Sm,i]
 have k:(nG s.heap a b).objs.size=s.heap.objs.size+3:=by rw[Sm,j]
 have l:(nj s.heap a b).objs.size=s.heap.objs.size+4:=by rw[Sm,k]
 have t:(jN s.heap a b).objs.size=s.heap.objs.size+5:=by rw[Sm,l]
 have e:(jN s.heap a b).get? (nj s.heap a b).objs.size=Ga _:=To _ rfl;have p:(jN s.heap a b).get? (nG s.heap a b).objs.size=Ga _:=Gp _ (To _ Xb);have n:(jN s.heap a b).get? (oh s.heap a b).objs.size=Ga _:=Gp _ (Gp _ (To _ Xb));have m:(jN s.heap a b).get? (nI s.heap a).objs.size=Ga _:=Gp _ (Gp _ (Gp _ (To _ Xb)));have r:(jN s.heap a b).get? s.heap.objs.size=Ga _:=Gp _ (Gp _ (Gp _ (Gp _ (To _ Xb))));show _/\_;rw[j,k,l]at e;rw[i,j]at n;rw[k]at p;rw[i]at m;rw[l];exact{{_,e,1},h _ e n p {_,r,11} {_,m,11} t λc o x=>Gp _ (Gp _ (Gp _ (Gp _ (Gp _ x))))}
theorem vH{H I:Nat->Heap->Prop}{N O:Gd}{l:Array Gj}{n0:Nat}(V:A.handled=Gq)(B:iB prog w n0 N xs H)(C:iB prog w (n0+1) O l I)(J:N<n0)(K:O<n0)(a:s.heap.objs.size=n0+5)
  (Z:Nb s.heap (n0+4) (n0+2) (n0+3) .none)(m:E5 s.heap (n0+2) (.ref n0) (.ref (n0+1)))(n:E5 s.heap (n0+3) .none .none)(r:H 0 s.heap)(t:I 0 s.heap)(Y:min xs.size l.size<=TH)
  (U:∀g u d c,(∀b o,b<n0->s.heap.get? b=Ga o->g.get? b=Ga o)->g.get? (n0+5)=Ga {cls:=.type "list",dict:=Gq,data:=.seq d c,slots:=#[]}->d.size=min xs.size l.size->
   (∀(j:Nat)v,d.toList[j]?=Ga v->∃c x y,v=.ref c/\xs[j]?=Ga x/\l[j]?=Ga y/\E5 g c x y/\c≠n0+5/\n0<=c)->Q (.ref (n0+5)) {s with heap:=g,toks:=u}):
  wpAny (TU prog w) A (call (.type "list") [.ref (n0+4)]) Q E s:=by
 have D:=Cd (n:=n0) J K;have G:=UM (A:=A.in1.in1) (S:=s.heap.objs.size) V D B C {by rw[a];exact DB (ER _),by rw[a];exact DB (by show n0+2<n0+5;exact SR (by decide) _),by rw[a];exact DB (by show n0+3<n0+5;exact SR (by decide) _),by rw[a];exact DB (MK (by decide)),by rw[a];exact DB (by show n0+1<n0+5;exact SR (by decide) _),by rw[a];exact DB (TZ J (D2 _ _)),by rw[a];exact DB (TZ K (D2 _ _))};refine vw (T:="zip") (hb:=Gi) G (λb hb=>?_) (by rw[a];exact ER _) Y (λP f q=>{.inl {1,f _ _ Z},f _ _ m,{2,f _ _ n},B.keep _ _ _ r λb _ o e=>f b o e,C.keep _ _ _ t λb _ o e=>f b o e,1,q,λj v p=>by simp at p}) (λh d i=>i.type) (by decide) (by decide) (λA E h Q i k=>?_) (λA E h Q i k=>XW i.type k) (λg u d c W L X M=>?_)
 .simp only[Tf,EU,F0]at hb;rw[a];rcases hb with h|h|h|h<;>rw[h]
  .exact ER _
  .exact SR (by decide) _
  .exact MK (by decide)
  .exact SR (by decide) _
 .rcases i.zip with⟨_,e⟩|⟨c,f,q,e,_⟩
  .exact wpAny_pyIter_zip e k
  .refine Ms (s:={s with heap:=h}) {_,e,1} F.slot_zip_iter (DC F.slot_zip_iter {_,e,1} F.entry_zip_iter ?_ (F.args_zip_iter_1 _));show wpAny _ _ (ret (.ref (n0+4))) _ _ _;exact Gm {0,"zip",_,{_,e,1},F.slot_zip_next.lookup,k}
 .rw[a]at L M⊢;refine U g u d c (λb o hb e=>W b o (λz=>?_) e) L X λj v p=>?_
  .simp only[Tf,EU,F0]at z;rcases z with h|h|h|h<;>rw[h]at hb
   .exact absurd hb (RE.mpr (D2 _ _))
   .exact absurd hb (RE.mpr (D2 _ _))
   .exact absurd hb (EF _)
   .exact absurd hb (RE.mpr (D2 _ _))
  .obtain⟨c,x,y,f,q,P,R,S,T⟩:=M j v p;exact{c,x,y,f,q,P,R,S,FG (Sj (D2 _ _) T)}
end
end PySem
namespace L2
open PySem PySem.Spec PyProof.Rows
theorem zv.UU{X:Cx}{a:List (Gd×S8)}{l:List (Option V)}{H f:Hp}{s:Gz}{h:Heap}{m:Nat}(I:zv X a l H s)(k:∀b u,s.heap.get? b=Ga u->h.get? b=Ga u)(d:∀b,b<s.heap.objs.size->f b=H b)
  (i:∀b o,s.heap.objs.size<=b->f b=Ga o->Yj X.prog X.w f h b o):zv X a l f {s with heap:=h,toks:=m}:=by
 have g:∀b o,H b=Ga o->f b=Ga o:=λb o e=>by rw[d b (I.Yc b o e).lt];exact e
 refine I.un {λb u q _ _ _=>k b u q,λb u q _ _ _=>{u.slots,k b u q},λb u q n _=>by rw[d b (Tn q)];exact n,λb u q _=>{u,k b u q},λb p e=>g b _ e,λb o u e=>g b _ e,λb r e=>{#[],by rw[g b _ e];simp}} λb o e=>?_;by_cases j:b<s.heap.objs.size
 .rw[d b j]at e;exact(I.Yc b o e).jy (λc u _ q=>k c u q) (λc q=>g c _ q) λc p q=>g c _ q
 .exact i b o (Bk j) e
def lO(H:Hp)(v:V)(p:V×V):Prop:=∃c,v=.ref c/\H c=Ga (.tup [p.1,p.2])
def Pa(K:Gf):List V->Hp->VK->Prop:=λa H Q=>∃p q xs ys,a=[.ref p,.ref q]/\((Uw K H p xs/\Uw K H q ys)\/(hB K H p xs/\hB K H q ys))/\
 ∀(r:Gd)(es:List V)(H':Hp),Q9 H H'->H r=Gq->H' r=Ga (.lst es)->Dg (lO H') es (xs.zip ys)->Q (.ref r) H'
open Classical in
noncomputable def iW(H:Hp)(r:Gd)(es:List V)(xs ys:List V):Hp:=λb=>if b=r then Ga (.lst es)else if h:∃p:V×V,∃j:Nat,es[j]?=Ga (.ref b)/\xs[j]?=Ga p.1/\ys[j]?=Ga p.2 then Ga (.tup [(Fh h).1,(Fh h).2])else H b
section
variable{X:Cx}{zq:List (Gd×S8)}{σ:St}{H:Hp}{s:Gz}
theorem AQ{E:Heap}{tk c:Nat}{g:Nat}{e:Array Gj}{l m:List V}{us ws:List Gj}(T:zv X zq σ H s)(I:s.heap.objs.size=g)(rx:Yg l us)(ry:Yg m ws)(hk:∀a D,a<g->s.heap.get? a=Ga D->E.get? a=Ga D)
  (hS:E.get? (g+5)=Ga {cls:=.type "list",dict:=Gq,data:=.seq e c,slots:=#[]})(C:e.size=min us.length ws.length)(q:l.length<=TH)
  (Y:∀(j:Nat)v,e.toList[j]?=Ga v->∃c x y,v=.ref c/\us[j]?=Ga x/\ws[j]?=Ga y/\E5 E c x y/\c≠g+5/\g<=c):
  ∃d J,zv X zq σ J {s with heap:=E,toks:=tk}/\Q9 H J/\H (g+5)=Gq/\J (g+5)=Ga (.lst d)/\Dg (lO J) d (l.zip m):=by
 have lx:=rx.length;have ly:=ry.length;have ex:∀j:Nat,j<e.size->∃c,e.toList[j]?=Ga (Tk c):=λj z=>by
  have b:e.toList[j]?=Ga e[j]:=by rw[Ed,T6 z]
  have(c,x,y,f,_):=Y j _ b;exact{c,by rw[b,f]}
 let d:List V:=(ES e.size).map λj=>match e.toList[j]? with|some (Tk c)=>V.ref c|_=>V.non
 have U:∀(j:Nat)c,e.toList[j]?=Ga (Tk c)->d[j]?=Ga (V.ref c):=λj c b=>by
  have z:j<e.size:=by rw[<-DF];exact(Gg.mp b).1
  show((ES e.size).map _)[j]?=_;rw[Ts,List.getElem?_range z,D0];simp only[b]
 have ad:∀(j:Nat)a,d[j]?=Ga (V.ref a)->e.toList[j]?=Ga (Tk a):=λj a b=>by
  have z:j<e.size:=by have:=(Gg.mp b).1;simpa[d]using this
  have(c,K):=ex j z;rw[U j c K]at b;cases b;exact K
 have W:d.length=e.size:=by simp[d]
 have lz:e.size=(l.zip m).length:=by rw[LR,C,lx,ly]
 have L:∀a(p:V×V)(j:Nat),d[j]?=Ga (.ref a)->l[j]?=Ga p.1->m[j]?=Ga p.2->∃u v,zu p.1 u/\zu p.2 v/\E5 E a u v/\a≠g+5/\g<=a:=λa p j f k r=>by have(c,x,y,B,M,N,O,P,Q):=Y j _ (ad j a f);cases B;have(u,q,R):=rx.get k;have(v,A,S):=ry.get r;rw[M]at q;cases q;rw[N]at A;cases A;exact⟨x,y,R,S,O,P,Q⟩
 have aa:∀a(p:V×V)(j:Nat),d[j]?=Ga (.ref a)->l[j]?=Ga p.1->m[j]?=Ga p.2->iW H (g+5) d l m a=Ga (.tup [p.1,p.2]):=λa p j f k r=>by have(u,v,r1,r2,n,o,_):=L a p j f k r;have B:∃p:V×V,∃j:Nat,d[j]?=Ga (.ref a)/\l[j]?=Ga p.1/\m[j]?=Ga p.2:=⟨p,j,f,k,r⟩;unfold iW;rw[Gs o,dif_pos B];have(Q,M,N,O):=Ng B;have(u',v',R,S,P,_):=L a (Fh B) Q M N O;have:({cls:=.type "tuple",data:=.seq #[u,v]}:S8)={cls:=.type "tuple",data:=.seq #[u',v']}:=T3 (n.symm.trans P);injection this with _ _ q;injection q with q;injection q with q;injection q with F w;injection w with w;subst F w;rw[r1.inj R,r2.inj S]
 have ab:∀a,a<g->iW H (g+5) d l m a=H a:=λa o=>by unfold iW;rw[Gs (T2 (TZ o (D2 _ _))),dif_neg];rintro⟨p,j,f,k,r⟩;have(_,_,_,_,_,_,q):=L a p j f k r;exact absurd o (RE.mpr q)
 have ac:∀a,g<=a->H a=Gq:=λa o=>T.Yc.fresh (by rw[I];exact o);exists d,iW H (g+5) d l m,?_,λa D b=>?_,ac _ (D2 _ _),(by unfold iW;rw[GV rfl])
 .refine T.UU (λa u b=>hk a u (by rw[<-I];exact Tn b) b) (λa o=>ab a (by rw[<-I];exact o)) λa D o b=>?_;by_cases F:a=g+5
  .subst F;have:D=.lst d:=by unfold iW at b;rw[GV rfl]at b;exact(T3 b).symm
   subst this;refine{by rw[W,lz,LR];lia,e.toList,c,?_,by rw[SD];exact hS};have all:∀(h:List Gj)(i:List V),h.length=i.length->(∀j:Nat,∀v,h[j]?=Ga v->∃c,v=.ref c/\i[j]?=Ga (V.ref c))->Yg i h:=by
    intro h;induction h with
    |nil=>intro i q _;cases i with
     |nil=>exact .nil
     |cons _ _=>simp at q
    |cons v h Z=>intro i q G;cases i with
     |nil=>simp at q
     |cons x i=>have(t,f,k):=G 0 v rfl;simp at k;subst f k;exact .cons rfl (Z i (by simpa using q) λj v A=>by have:=G (j+1) v (by simpa using A);simpa using this)
   refine all e.toList d (by rw[W,DF]) λj v A=>?_;have(t,x,y,f,_):=Y j v A;subst f;exact{t,1,U j t A}
  .by_cases w:∃p:V×V,∃j:Nat,d[j]?=Ga (.ref a)/\l[j]?=Ga p.1/\m[j]?=Ga p.2
   .obtain⟨p,j,f,k,r⟩:=w;rw[aa a p j f k r]at b;cases b;have(u,v,r1,r2,n,_):=L a p j f k r;exact{Yy,[u,v],.cons r1 (.cons r2 .nil),_,n,10}
   .exfalso;unfold iW at b;rw[Gs F,dif_neg w,ac a (by rw[<-I];exact o)]at b;cases b
 .rw[ab a (by rw[<-I];exact(T.Yc a D b).lt)];exact b
 .have all:∀(i:List V)(h:List (V×V)),i.length=h.length->(∀(j:Nat)p,h[j]?=Ga p->∃v,i[j]?=Ga v/\lO (iW H (g+5) d l m) v p)->Dg (lO (iW H (g+5) d l m)) i h:=by
   intro i;induction i with
   |nil=>intro h C _;cases h with
    |nil=>exact .nil
    |cons _ _=>simp at C
   |cons v i Z=>intro h C G;cases h with
    |nil=>simp at C
    |cons p h=>have(v',f,k):=G 0 p rfl;simp at f;subst f;exact .cons k (Z h (by simpa using C) λj p n=>by have:=G (j+1) p (by simpa using n);simpa using this)
  refine all d (l.zip m) (by rw[W,lz]) λj p n=>?_;rw[LF]at n;have z:j<e.size:=by have F:=(Gg.mp n.1).1;have w:=(Gg.mp n.2).1;rw[lz,LR];lia
  have(t,K):=ex j z;have:=U j t K;exact{.ref t,this,t,1,aa t p j this n.1 n.2}
end
section
variable{X:Cx}{a b:D4}{ta:TA}{p1 p2 pos1 pos2:M3}
theorem v8(hc:X.calm=Gi)(ad:Gl X "list")(af:X.mg "list"=Gq)(ae:Gl X "zip")(ag:X.mg "zip"=Gq)(ha:PA X [a,b] ta)
  (T:T4 [JN (.Name "zip" p2) [a,b] [] pos2] X.env=(Gx,eval (.Call (.Name "zip" p2) [a,b] [] pos2) X.env)::T4 [] X.env:=by rfl)(ac:T4 [a,b] X.env=(Gx,eval a X.env)::T4 [b] X.env:=by rfl)
  (ah:(Sf pos1 (T4 ([]:List D4) X.env)).any (·.1)=Gx:=by rfl)(ai:(Sf pos2 (T4 [b] X.env)).any (·.1)=Gx:=by rfl):
  PE X (.Call (.Name "list" p1) [.Call (.Name "zip" p2) [a,b] [] pos2] [] pos1) (tCB (Pa X.K) ta):=by
 intro al s am Y an v aa;refine Eg (Uy v ad af boot_list ?_);refine callWith_type1 ?_ T ah;rw[T];show wpAny _ _ (spliced ((Gx,eval (.Call (.Name "zip" p2) [a,b] [] pos2) X.env)::Sf pos1 (T4 ([]:List D4) X.env))) _ _ s;refine FT ?_;refine Eg (Uy v ae ag boot_zip ?_);refine callWith_type1 (Xg (ha pos2 al s am Y _ v aa) λS f⟨vs,H1,i,r1,q1⟩=>?_) ac ai;have(p,q,xs,ys,rfl,hq,V):=q1;have(u,t,rfl,ru,rv):=vals2 r1;cases(show u=Tk p from ru);cases(show t=Tk q from rv);have U:=i.ok.hd hc;rcases hq with⟨A,B⟩|⟨A,B⟩
 .obtain⟨S,o,g,aj⟩:=i.list A;have(W,R,h,ak):=i.list B;have m:p<f.heap.objs.size:=by have(_,d,_):=g.isList;exact Tn d
  have n:q<f.heap.objs.size:=by have(_,d,_):=h.isList;exact Tn d
  have lx:=o.length;refine call_zip_2 g.isList h.isList λz Q D E G H O k=>L3 ?_;refine vH (s:={f with heap:=z}) (n0:=f.heap.objs.size) U (wR (T2 m)) (wR (T2 (TZ n (D2 _ _)))) m n O Q D E {G,Heap.IsList.at g.isList (λe d=>k _ e d)} {H,Heap.IsList.at h.isList (λe d=>k _ e d)} (by rw[Tq,Tq];lia) λab tk Z c I C J L=>?_;have(x,l,w,y,K,N,M):=AQ (tk:=tk) i rfl o R (λb e F d=>I b e F (k b e d)) C (by simpa using J) (by lia) (λj t P=>by simpa using L j t P);exact{.ref (f.heap.objs.size+5),l,w,1,V _ x l y K N M}
 .obtain⟨S,o,g,aj⟩:=i.tuple A;have(W,R,h,ak):=i.tuple B;have g:f.heap.IsTuple p S.toArray:=g;have h:f.heap.IsTuple q W.toArray:=h;have m:p<f.heap.objs.size:=by have(_,d,_):=g;exact Tn d
  have n:q<f.heap.objs.size:=by have(_,d,_):=h;exact Tn d
  have lx:=o.length;refine QV g h λz Q D E G H O k=>L3 ?_;refine vH (s:={f with heap:=z}) (n0:=f.heap.objs.size) U (vi (T2 m)) (vi (T2 (TZ n (D2 _ _)))) m n O Q D E {G,let⟨e,d,r⟩:=g;{e,k _ e d,r}} {H,let⟨e,d,r⟩:=h;{e,k _ e d,r}} (by rw[Tq,Tq];lia) λab tk Z c I C J L=>?_;have(x,l,w,y,K,N,M):=AQ (tk:=tk) i rfl o R (λb e F d=>I b e F (k b e d)) C (by simpa using J) (by lia) (λj t P=>by simpa using L j t P);exact{.ref (f.heap.objs.size+5),l,w,1,V _ x l y K N M}
end
end L2
namespace PySem
theorem ZM:typeLookup (.type "list_reverseiterator") "__len__"=pure Gq:=by rw[FD,Lu];kernel_rfl
theorem Qlp:typeLookup (.type "list_reverseiterator") "__length_hint__"=pure (Ga (.builtin "list_reverseiterator.__length_hint__")):=by rw[FD,Lu];kernel_rfl
section
variable{prog:Gn}{w:Tg}{A:DT}{E:Gj->Gz->Prop}{s:Gz}
theorem Qu0{z:Gd}{Q:Bool->Gz->Prop}(b:s.TypeIs (.ref z) "list_reverseiterator")(h:Q Gx s):wpAny (TU prog w) A (EE (.ref z)) Q E s:=by
 unfold EE;refine Gb (Sd b ZM ?_);show wpAny _ A (specialOf (Tk z) (EI "__length_hint__")>>=_) _ _ _;refine Gb (Sd b Qlp ?_);generalize hid:("list_reverseiterator.__length_hint__":String)=c
 wp_delta
 rw[show splitId c=Ga ("list_reverseiterator","__length_hint__")from by subst hid;decide+kernel];subst hid;refine Gb (LB (T:="list_reverseiterator") (b:=Gi) b (by rw[isSubtype_type];kernel_rfl) ?_);refine FC (λa=>absurd a (by decide)) (λ_=>?_);refine FC (λ_=>?_) (λa=>absurd (by decide+kernel) a);refine FC (λa=>absurd a (by decide+kernel)) (λ_=>?_);exact Gm h
structure Q8w(xs:Array Gj)(it l S:Gd)(i:Nat)(h:Heap)(acc:List Gj):Prop where
 rv:h.IsRevIter it l ((xs.size:Int) - 1 - (i:Int))
 ls:h.IsList l xs
 acc:acc=xs.toList.reverse.take i
theorem Qye{xs:Array Gj}{f l S:Gd}(v:A.handled=Gq)(q:S≠f/\S≠l)(n:l≠f):oq prog w A f S [f] xs.size (Q8w xs f l S) (λ_ d=>d=xs.toList.reverse):=by
 refine{λi s d Q E hi c j=>?_,λs d Q E c j=>?_,λi h g d c k _=>?_}
 .have r:xs[xs.size - 1 - i]?=Ga xs[xs.size - 1 - i]:=T6 (by ext);have e:(xs.size:Int) - 1 - (i:Int)=((xs.size - 1 - i:Nat):Int):=by ext
  have a:=c.rv;rw[e]at a;refine Nh a c.ls r λg p t=>?_;have x:xs.toList.reverse[i]?=Ga xs[xs.size - 1 - i]:=by rw[EN (by rw[DF];exact hi),DF,Ed];exact r
  refine j _ g s.toks {?_,c.ls.extBut t.extBut n,?_} λb o m e=>t.extBut b o (λz=>m (by simp[z])) e
  .have u:((xs.size - 1 - i:Nat):Int) - 1=(xs.size:Int) - 1 - ((i+1:Nat):Int):=by ext
   rw[<-u];exact p
  .rw[c.acc,TF,x];rfl
 .have a:=c.rv;rw[show(xs.size:Int) - 1 - (xs.size:Int)= -1 by ext]at a;refine Nx v a λg p=>j g s.toks ?_ λb o m e=>p b o (λz=>m (by simp[z])) e;rw[c.acc,<-DF,<-SS,Tz]
 .exact{c.rv.at λo e=>k f o (Ta q.1) e,c.ls.at λo e=>k l o (Ta q.2) e,c.acc}
end
end PySem
namespace L2
open PySem PySem.Spec PyProof.Rows
def YY(K:Gf):List V->Hp->VK->Prop:=λa H Q=>∃p xs,a=[.ref p]/\Uw K H p xs/\∀r,H r=Gq->Q (.ref r) (zj H r (.lst xs.reverse))
theorem tP:∀{b:List V}{a:List Gj},Yg b a->Yg b.reverse a.reverse
 |_,_,.nil=>.nil
 |_,_,.cons h t=>by rw[SE,SE];exact(tP t).append (.cons h .nil)
theorem UI{X:Cx}{a:D4}{T:TA}{p1 x k g:M3}(n:X.calm=Gi)(G:Gl X "list")(K:X.mg "list"=Gq)(J:Gl X "reversed")(L:X.mg "reversed"=Gq)(Z:PA X [a] T)
  (p:T4 [JN (.Name "reversed" x) [a] [] g] X.env=(Gx,eval (.Call (.Name "reversed" x) [a] [] g) X.env)::T4 [] X.env:=by rfl)(F:T4 [a] X.env=(Gx,eval a X.env)::T4 [] X.env:=by rfl)
  (M:(Sf k (T4 ([]:List D4) X.env)).any (·.1)=Gx:=by rfl)(N:(Sf g (T4 ([]:List D4) X.env)).any (·.1)=Gx:=by rfl):
  PE X (.Call (.Name "list" p1) [.Call (.Name "reversed" x) [a] [] g] [] k) (tCB (YY X.K) T):=by
 intro l s V H Q I h;refine Eg (Uy I G K boot_list ?_);refine callWith_type1 ?_ p M;rw[p];show wpAny _ _ (spliced ((Gx,eval (.Call (.Name "reversed" x) [a] [] g) X.env)::Sf k (T4 ([]:List D4) X.env))) _ _ s;refine FT ?_;refine Eg (Uy I J L CL ?_);refine callWith_type1 (Xg (Z g l s V H _ I h) λus f⟨vs,W,w,r1,q1⟩=>?_) F N;have(b,xs,rfl,t,q):=q1;have(u,rfl,ru):=vals1 r1;cases(show u=Tk b from ru);have(d,S,O,hz):=w.list t;have hl:=S.length;have P:b<f.heap.objs.size:=by have(_,e,_):=O.isList;exact Tn e
 refine RA O.isList (L3 ?_);have j:(f.heap.push (revObj b ((d.toArray.size:Int) - 1))).objs.size=f.heap.objs.size+1:=Sm ..;have C:(f.heap.push (revObj b ((d.toArray.size:Int) - 1))).objs.size≠f.heap.objs.size:=by rw[j];exact Bo _
 have D:(f.heap.push (revObj b ((d.toArray.size:Int) - 1))).objs.size≠b:=by rw[j];exact DB (RW P)
 refine vw (s:={f with heap:=f.heap.push (revObj b ((d.toArray.size:Int) - 1))}) (T:="list_reverseiterator") (hb:=Gx) (Qye (xs:=d.toArray) (l:=b) (w.ok.hd n) ⟨C,D⟩ (T2 P)) (λc n=>?_) (by show f.heap.objs.size<(f.heap.push _).objs.size;rw[j];exact ER _) (by rw[Tq];lia)
  (λh2 R _=>{?_,O.isList.at λo e=>R _ o (Gp _ e),by simp}) (λh m v=>let⟨o,r,n,_⟩:=v.rv;⟨o,r,n⟩) (by decide) (by decide) (λA E h Q v t=>Fp (s:={f with heap:=h}) v.rv t) (λA E h Q v t=>Qu0 (s:={f with heap:=h}) (let⟨o,r,n,_⟩:=v.rv;⟨o,r,n⟩) t) (λy U m c hk B aa r=>?_)
 .have e:c=f.heap.objs.size:=by simpa using n
  rw[e];show f.heap.objs.size<(f.heap.push _).objs.size;rw[j];exact ER _
 .have i:(d.toArray.size:Int) - 1 - ((0:Nat):Int)=(d.toArray.size:Int) - 1:=by lia
  rw[i];exact{_,R _ _ (To _ Xb),11}
 .have B:y.get? (f.heap.push (revObj b ((d.toArray.size:Int) - 1))).objs.size=Ga {cls:=.type "list",dict:=Gq,data:=.seq m c,slots:=#[]}:=B;have i:f.heap.objs.size<=(f.heap.push (revObj b ((d.toArray.size:Int) - 1))).objs.size:=by rw[j];exact LW _
  have Y:zv X l V (zj W (f.heap.push (revObj b ((d.toArray.size:Int) - 1))).objs.size (.lst xs.reverse)) {f with heap:=y,toks:=U}:=
   w.laid (t':=U) (λc o e=>hk c o (λz=>by
    have:c=f.heap.objs.size:=by simpa using z
    exact absurd (Tn e) (by rw[this];exact EF _)) (Gp _ e)) i
    (show Yj X.prog X.w _ y _ (.lst _)from{by rw[SS];lia,m.toList,c,by rw[r];exact tP S,by rw[SD];exact B})
  exact{.ref (f.heap.push (revObj b ((d.toArray.size:Int) - 1))).objs.size,_,Y,1,q _ (w.Yc.fresh i)}
end L2
namespace Nt
inductive kU:Nat->List (Nat×Nat)->Nat->Prop
 |nil (p:Nat):kU p [] p
 |cons {p q z:Nat} {r:List (Nat×Nat)}:kU q r z->kU p ((p,q)::r) z
theorem yY:∀{l:List Nat}{p z:Nat},l.head?=Ga p->l.getLast?=Ga z->kU p (l.zip (l.drop 1)) z
 |[],_,_,h,_=>by simp at h
 |[x],p,z,a,b=>by simp at a b;subst a b;exact .nil _
 |x::y::r,p,z,a,b=>by simp at a;subst a;have c:=yY (l:=y::r) (p:=y) (z:=z) rfl (by rw[List.getLast?_cons_cons]at b;exact b);simp only[NG,Nz,Md]at c⊢;exact .cons c
theorem Ch.last{c:Nat->Option Nat}{p:Nat}{l:List Nat}(h:Ch c p l):∃a,l=a++[Yf l]:=by have b:=h.ne;exists l.dropLast;unfold Yf;rw[LD,Es b];exact(Lo b).symm
inductive ip(up:Nat->Option Nat)(one other:Nat)(st:List (Nat×Nat)):Prop
 |mk (l1:List Nat) (l2:List Nat) (P:List Nat) (Q:List Nat) (s:List Nat) (m:Nat) (h0:Ch up one l1) (h1:Ch up other l2) (h2:l1=P++m::s) (h3:l2=Q++m::s) (h4:(P=[]\/Q=[]\/P.getLast?≠Q.getLast?)) (h5:st=(P++m::Q.reverse).zip ((P++m::Q.reverse).drop 1)):ip up one other st
theorem xa{P d s c:List Nat}{m g:Nat}(h:P++m::s=d++g::c)(f:s.length<c.length):∃u,P=d++g::u/\c=u++m::s:=by
 rcases List.append_eq_append_iff.mp h with⟨a,e,b⟩|⟨a,e,b⟩
 .have:=congrArg E1 b;simp at this;cases a with
  |nil=>simp at b;rw[b.2]at f;ext
  |cons y a=>simp at this;ext
 .cases a with
  |nil=>simp at b;rw[b.2]at f;ext
  |cons y a=>simp only[Dp,Db]at b;exact{a,by rw[e,b.1],b.2}
theorem ip.uniq{D:Nat->Option Nat}{h c:Nat}{C i:List (Nat×Nat)}(a:ip D h c C)(b:ip D h c i):C=i:=by
 have(T,U,P,Q,s,m,F,G,H,I,t,rfl):=a;have(J,K,j,k,d,g,l,n,o,p,w,rfl):=b;have N:=F.uniq l;have O:=G.uniq n;subst N O;have q:P++m::s=j++g::d:=by rw[<-H,o]
 have r:Q++m::s=k++g::d:=by rw[<-I,p]
 have e:∀{P Q j k s d:List Nat}{m g:Nat},P++m::s=j++g::d->Q++m::s=k++g::d->(P=[]\/Q=[]\/P.getLast?≠Q.getLast?)->¬s.length<d.length:=λx y t f=>by
  have(u,A,L):=xa x f;have(v,B,M):=xa y f;have:u=v:=by have:=L.symm.trans M;exact My this
  subst this;rcases t with z|z|z
  .rw[A]at z;simp at z
  .rw[B]at z;simp at z
  .rw[A,B,SF,SF,Es (List.cons_ne_nil _ _)]at z;exact z rfl
 have f:s.length=d.length:=by have x:=e q r t;have y:=e q.symm r.symm w;lia
 have(R,E):=Bq q (by simp[f]);have(S,_):=Bq r (by simp[f]);simp only[Db]at E;rw[R,S,E.1]
structure Way(x:ia W ρ)(one other:Nat)(st:List (Nat×Nat)):Prop where
 path:kU one st other
 lk:∀p q,(p,q)∈st->∃k,x.Xt p q=Ga k/\∀n,Cn (x.zt.take n) one other->k<n
 len:st.length<=2*x.S.length
 rel:ip x.up one other st
end Nt
namespace K06
open PySem L2 Sb Nt
def ox(H:Hp)(v:V)(p:Nat×Nat):Prop:=∃c,v=.ref c/\H c=Ga (.tup [jv p.1,jv p.2])
inductive t9(P:Gn)(w:Tg)(C:Gd)(vs:List V)(H:Hp)(Q:VK):Prop
 |mk (n:Gd) (A:Na) (fs:List Fm) (tb:Nat) (x:Nn) (one:Nat) (other:Nat) (h0:vs=[.ref n,jv one,jv other]) (h1:Yn P w C H n A fs tb x) (h2:Wx (Yr fs) (Zw fs) x []) (h3:one∈x.S) (h4:other∈x.S) (h5:x.zg one=x.zg other) (h6:x.S.length<=1000) (h7:∀(r:Gd)(es:List V)(st:List (Nat×Nat))(H':Hp),Q9 H H'->H r=Gq->H' r=Ga (.lst es)->Dg (ox H') es st->Way x one other st->Q (.ref r) H'):t9 P w C vs H Q
def oQ(P:Gn)(w:Tg)(C:Gd):Sp:=λa H Q _=>t9 P w C a H Q
theorem yp(P:List Nat)(a m:Nat):Oh ((P++[a,m]).map jv) (-2:Int)=Ga (jv a):=by
 unfold Oh ixN;rw[Gs (by decide),GV (by simp;lia)];have e:((-2:Int)+(((P++[a,m]).map jv).length:Int)).toNat=P.length:=by simp;lia
 rw[e];simp
theorem XA(Q:List Nat)(m:Nat):Jf ((Q++[m]).map jv) Gq (Ga (-1:Int))=Q.map jv:=by
 unfold Jf;rw[HT.Rt];have e:HT.Vc ((Q++[m]).map jv).length ((Q++[m]).map jv).length (Ga (-1:Int))=Q.length:=by show(if(-1:Int)<0 then((-1:Int)+(((Q++[m]).map jv).length:Int)).toNat else min (-1:Int).toNat ((Q++[m]).map jv).length)=_;rw[GV (by decide)];simp;lia
 rw[e];simp
theorem YF(l:List V):Jf l (Ga 1) Gq=l.drop 1:=by
 cases l with
 |nil=>rfl
 |cons x r=>rw[iH];rfl
theorem oV{H:Hp}:∀{a:List V}{l m:List Nat},Dg (lO H) a ((l.map jv).zip (m.map jv))->Dg (ox H) a (l.zip m)
 |_,[],m,h=>by simp at h;cases h;simp;exact .nil
 |_,x::l,[],h=>by simp at h;cases h;simp;exact .nil
 |_,x::l,y::m,h=>by
  simp only[Tp,Md]at h⊢;cases h with
  |cons h t=>exact .cons h (oV t)
theorem QH{A G g:Prop}(k:(A->G)->g)(f:A->G):g:=k f
theorem Q8k{c d:Type}{A G:c->d->Prop}{g:Prop}(k:(∀a b,A a b->G a b)->g)(f:∀a b,A a b->G a b):g:=k f
section
variable{P:Gn}{w:Tg}{K:Gf}{mg:TQ->Option Gj}{base:Heap}
theorem uz:Q8 ["self","one","other","climb","descent","stops"] ["self","one","other"] (Qo jJ):=by eq_refl
theorem Q2h{ak fU T:Gd}{fd al:Do}(F:Wg K "way" "Net.way" jJ ak fd)(aj:Jj K mg T)(B:Ra mg)(mU:Yq K T "way_up" fU)(GU:Q3 P w K mg base Ya 1 fU al ["self","place"] (tj P w T))(bU:zk K al ["self","place"] []):
  Q3 P w K mg base Ya 2 ak fd ["self","one","other"] (oQ P w T):=by
 refine F.ok uz (λv Z h f J=>?_) (λy A H s Z v h f g J=>?_)
 .obtain⟨n,A,fs,tb,x,G,u,rfl,_⟩:=J;rfl
 have(n,A,fs,tb,x,G,u,rfl,X,C,oS,tS,he,hS,q):=J;have am:Yl 1 _:=g.mono (by ext);have nd:=uz.nd;show∃t,W0 ?my _ t/\_;let w5:Xk ?my jJ 4:={_,Qg (Qt (v8 rfl rfl B.list rfl B.zip (Qa {5} (Qa (Z3 Wo {5} (Yd Qi) Yu) Qd))))}
 let w4:Xk ?my jJ 3:={_,Qc (Qz 5 nd (Zf Wc {3} (UI rfl rfl B.list rfl B.reversed (Qa (Z3 Wo {4} Yu (Yd (Js Ud Qi))) Qd)))) w5.2}
 let w3:Xk ?my jJ 2:=⟨_,Qc (Ww Tj (PW.pt (Ii (Qp ou (Qm Zo rfl B.len GX (Qa {3} Qd)) Qi (Qu _)) (Ii (Qp ou (Qm Zo rfl B.len GX (Qa {4} Qd)) Qi (Qu _))
    (Jk (Qp Xu (Qn Zd {3} (Js Ud Qi)) (Qn Zd {4} (Js Ud Qi)) (Qu _))))))
   (Qc (Zl (O0 Te Et Eu O3 {3}))
   (Qg (Zl (O0 Te Et Eu O3 {4}))))) w4.2⟩
 let w2:Xk ?my jJ 1:={_,Qc (Qz 4 nd (Zn {0} aj.cl mU GU am bU .nil Q5 (Qa {2} Qd))) w3.2}
 exists _,Qc (Qz 3 nd (Zn {0} aj.cl mU GU am bU .nil Q5 (Qa {1} Qd))) w2.2;have(E,l):=C.fst.chain G oS;have(N,m):=C.fst.chain u tS;have ap:=C.fst.chS l oS;have aq:=C.fst.chS m tS;have aA:=Xy l.nodup ap;have aB:=Xy m.nodup aq;have(dx,o1):=X.ob;refine{0,n,dx,0,o1,A0 _,0,n,A,fs,tb,x,G,E,1,X,l,ap,by ext,λk H1 V c1 e1=>?_};refine{0,n,dx,0,V _ _ o1,A0 _,0,n,A,fs,tb,x,u,N,1,X.same V,m,aq,by ext,λi H2 g2 d2 e2=>?_};have aw:=V.trans g2;have az:Z i=Gq:=V.free d2;have ao:k≠i:=Qe e1 d2;have er:Yf E=Yf N:=(C.root G u E N oS tS l m).mp he;have(P0,f1):=l.last;have(Q0,f2):=m.last;dsimp only[Ui];exists λan ar j=>iC λ(d b W:List Nat)(e:Nat)=>jC (an=d.length) (E=d++e::W) (N=b++e::W) (ar=[Ga (.ref n),Ga (jv G),Ga (jv u),Ga (.ref k),Ga (.ref i),Gq]) (Q9 Z j) (j k=Ga (.lst ((d++[e]).map jv))) (j i=Ga (.lst ((b++[e]).map jv))),
  {_,P0,Q0,[],Yf E,1,f1,by rw[er];exact f2,1,aw,by rw[<-f1];exact g2 _ _ e1,by rw[er,<-f2];exact e2}
 rintro an ar j ⟨d,b,W,e,rfl,L,M,rfl,g3,D,U⟩;have lc:((d++[e]).map jv).length=d.length+1:=by simp
 have ld:((b++[e]).map jv).length=b.length+1:=by simp
 have lP:d.length+1<=E.length:=by rw[L];simp
 have lQ:b.length+1<=N.length:=by rw[M];simp
 have ax:(d++e::b.reverse).head?=Ga G:=by
  have(aa,g):=l.head;rw[L]at g;cases d with
  |nil=>simp at g⊢;exact g.1
  |cons a d=>simp at g⊢;exact g.1
 have ay:(d++e::b.reverse).getLast?=Ga u:=by
  have(aa,g):=m.head;rw[M]at g;rw[SF];have:(e::b.reverse).getLast?=Ga u:=by
   cases b with
   |nil=>simp at g⊢;exact g.1
   |cons a b=>simp at g;rw[SE,<-Dp,SH,g.1]
  rw[this];rfl
 apply QH (A:=d=[]\/b=[]\/d.getLast?≠b.getLast?)
 .intro R;exists 0,k,0,.inl (Qk D),3010;rw[lc];by_cases v:d=[]
  .have r:d=[]\/b=[]\/d.getLast?≠b.getLast?:=.inl v;rw[Td (by rw[v];decide)];refine Q4 (Q4 ?_);exact R r
  rw[Ti (by have:0<d.length:=LG.mpr v;ext)];refine Yp {0,i,0,.inl (Qk U),3010,?_};rw[ld];by_cases y:b=[]
  .have r:d=[]\/b=[]\/d.getLast?≠b.getLast?:=.inr (.inl y);rw[Td (by rw[y];decide)];refine Q4 (Q4 ?_);exact R r
  rw[Ti (by have:0<b.length:=LG.mpr y;ext)];subst_vars;obtain⟨f,a,O⟩:∃f a,d=f++[a]:={d.dropLast,d.getLast v,(Lo v).symm};obtain⟨h,H,Q⟩:∃h H,b=h++[H]:={b.dropLast,b.getLast y,(Lo y).symm};and_intros;have au:j k=Ga (.lst ((f++[a,e]).map jv)):=by rw[D,O];simp
  have av:j i=Ga (.lst ((h++[H,e]).map jv)):=by rw[U,Q];simp
  refine Yp {0,{0,k,201,Qk au,yp _ _ _,0,{0,i,201,Qk av,yp _ _ _,10,?_}}};rw[nO];by_cases S:a=H
  .subst S;subst O Q;rw[Ti rfl];refine Yp {_,λ_ _ J=>J,?_};have ad:((f++[a]++[e]).map jv)[((f++[a]++[e]).map jv).length - 1]?=Ga (jv e):=by simp
   have ae:((h++[a]++[e]).map jv)[((h++[a]++[e]).map jv).length - 1]?=Ga (jv e):=by simp
   have ab:((f++[a]++[e]).map jv).dropLast=(f++[a]).map jv:=by rw[TY (l₂:=[e])];simp
   have ac:((h++[a]++[e]).map jv).dropLast=(h++[a]).map jv:=by rw[TY (l₂:=[e])];simp
   exists 0,.inl {13,Qk D},k,301,D,ad;rw[ab];have Y:(zj j k (.lst ((f++[a]).map jv))) i=Ga (.lst ((h++[a]++[e]).map jv)):=by rw[Qh (Ta ao)];exact U
   exists 0,.inl {13,Qk Y},i,301,Y,ae;rw[ac];refine{f.length,by simp,f,h,e::W,a,1,by rw[L];simp,by rw[M];simp,1,λc o I=>?_,?_,Qb}
   .rw[Qh (Qe I az),Qh (Qe I c1)];exact g3 c o I
   .rw[Qh ao,Qb]
  .have r:d=[]\/b=[]\/d.getLast?≠b.getLast?:=.inr (.inr (by rw[O,Q,SH,SH];intro z;exact S (T3 z)));rw[Td S];refine Q4 ?_;exact R r
 .intro r;refine{0000,{i,0,Qk U,λO v=>?_}};rw[XA];have S:=Ql (o:=.lst (_root_.List.map jv b)) D (Qe D v);refine{O,0,Qk Qb,λQ y=>?_};have z2:=Ql (o:=.lst (_root_.List.map jv b).reverse) S (Qe S y);refine{k,Q,301,z2,Qb,small (by rw[SS,Gv,Gv,Gk];simp only[TB,Lh];ext),λf ah=>?_};have af:Fu jv (d++[e])++(Fu jv b).reverse=(d++e::b.reverse).map jv:=by simp
  rw[af];dsimp only[Ui];refine{00,{0,{f,0,Qk Qb,λh H=>?_}}};rw[YF];have ai:f≠h:=Qe Qb H;have R:Q9 j (zj (zj (zj (zj j O (.lst (Fu jv b))) Q (.lst (Fu jv b).reverse)) f (.lst ((d++e::b.reverse).map jv))) h (.lst (((d++e::b.reverse).map jv).drop 1))):=((Qf v _).trans (Qf y _)).trans ((Qf ah _).trans (Qf H _));refine{f,h,30,.inl {Qk (Ql Qb ai),Qk Qb},λaa es Y sm r0 ag I=>?_};rw[<-CQ]at I;exact q aa es _ Y (g3.trans (R.trans sm)) (g3.free (R.free r0)) ag (oV I) {yY ax ay,λp q' hm=>C.fst.way l m L M r p q' hm,by rw[LR,Gk,TB,SS];ext,222,l,m,L,M,r,1}
end
end K06
namespace PySem
section
variable{prog:Gn}{w:Tg}{A:DT}{E:Gj->Gz->Prop}{s:Gz}{d v:Gd}{es:Array Lz}{ep:Nat}
theorem ZC{Q:Gj->Gz->Prop}(f:s.heap.IsValuesView v d)(j:s.heap.I9 d es ep)
  (h:Q (.ref s.heap.objs.size) {s with heap:=s.heap.push {cls:=.type "dict_valueiterator",data:=.fields #[.ref d,.int 0 0,.int es.size 0,.int ep 0]}}):
  wpAny (TU prog w) A (pyIter (.ref v)) Q E s:=by
 have(ov,e,i,c):=id f;have(o,g,k,a):=id j;refine Ms f.typeIs F.slot_dict_values_iter (DC F.slot_dict_values_iter f.typeIs F.entry_dict_values_iter ?_ (F.args_dict_values_iter_1 _));unfold Builtin.«dict_values.__iter__»;refine Gb (Gm ?_);refine Gb ?_;unfold Ce;refine Gb (DG e c (x:=.ref d) rfl (Gm ?_));refine Gb ?_;unfold Br;refine Gb (EJ g a ?_);refine Gb (Lj g a ?_);have b:Ez "dict_valueiterator"=Gx:=by decide
 simp only[b,DK,EB];refine DD (Gm {0,"dict_valueiterator",_,{_,To _ Xb,1},F.slot_dict_valueiterator_next.lookup,?_});simpa[rawInt]using h
theorem Qqv{c:Gd}{i:Nat}{e:Lz}{Q:Option Gj->Gz->Prop}(a:s.heap.IsValIter c d i es.size ep)(u:s.heap.I9 d es ep)(m:es[i]?=Ga e)
  (p:∀h,h.IsValIter c d (i+1) es.size ep->Ew c s.heap h->Q (Ga e.val) {s with heap:=h}):
  wpAny (TU prog w) A (pyNext (.ref c)) Q E s:=by
 have(o,n,q,l):=id a;have(v,j,r,g):=id u;unfold pyNext;refine Gb (Fk (DN (name:=EI "__next__") a.typeIs F.slot_dict_valueiterator_next
  (DC F.slot_dict_valueiterator_next a.typeIs F.entry_dict_valueiterator_next ?_ (F.args_dict_valueiterator_next_1 _))))
 refine Gb (Gm ?_);refine Gb ?_;refine Gb ?_;first|refine Gb (E6 a.typeIs (Gm ?_))|refine Gb (SN a.typeIs (Gm ?_))
 refine Gb (Ma n l ?_);have k:Ez "dict_valueiterator"=Gx:=by decide
 simp only[k,DK,EB];show wpAny _ _ (if(Tk d==DE)=Gi then _ else _) _ _ s;rw[Gs (show¬((Tk d==DE)=Gi)from TD)];refine Gb (Gm ?_);refine Gb (EJ j g ?_);rw[Gs (by simp)];refine Gb (Gm ?_);refine Gb (Lj j g ?_);rw[Gs (by simp)];refine Gm ?_;have f:i<es.size:=by
  rcases Dh i es.size with h|h
  .exact h
  .rw[El h]at m;cases m
 have t:es[i]=e:=by rw[T6 f]at m;exact T3 m
 simp only[show¬((i:Int)<0)from by lia,EB,Er,T6 f];refine Gb ?_;first|refine Gb (E6 a.typeIs (Gm ?_))|refine Gb (SN a.typeIs (Gm ?_))
 refine Gb (Fe a.typeIs ?_);show wpAny _ _ (setField (.ref c) 1 (rawInt ((i:Int)+1))>>=_) _ _ s;refine Gb (Lx n l (by simp) ?_);have b:(s.heap.update c (Fl (·.setIfInBounds 1 (rawInt ((i:Int)+1))))).IsValIter c d (i+1) es.size ep:=
  {_,DU _ n (Fd (So l _)),(Mt ..).trans q,by rw[So l];simp[rawInt]}
 refine Gb (D9 ?_);refine Gb (Fe (s:={s with heap:=s.heap.update c (Fl (·.setIfInBounds 1 (rawInt ((i:Int)+1))))}) b.typeIs ?_);refine Gb (Fe (s:={s with heap:=s.heap.update c (Fl (·.setIfInBounds 1 (rawInt ((i:Int)+1))))}) b.typeIs ?_);show wpAny _ _ (pure es[i].val) _ _ _;rw[t];exact Gm (Gm {0,Gm (p _ b (Eb ..))})
theorem XB{f:Gd}{i:Nat}{Q:Option Gj->Gz->Prop}(n:A.handled=Gq)(a:s.heap.IsValIter f d i es.size ep)(p:s.heap.I9 d es ep)(g:es.size<=i)
  (l:∀h,Nu f s.heap h->Q Gq {s with heap:=h}):wpAny (TU prog w) A (pyNext (.ref f)) Q E s:=by
 have(o,k,h,j):=id a;have(q,c,m,b):=id p;unfold pyNext;refine Gb (Fk (DN (name:=EI "__next__") a.typeIs F.slot_dict_valueiterator_next
  (DC F.slot_dict_valueiterator_next a.typeIs F.entry_dict_valueiterator_next ?_ (F.args_dict_valueiterator_next_1 _))))
 refine Gb (Gm ?_);refine Gb ?_;refine Gb ?_;first|refine Gb (E6 a.typeIs (Gm ?_))|refine Gb (SN a.typeIs (Gm ?_))
 refine Gb (Ma k j ?_);have e:Ez "dict_valueiterator"=Gx:=by decide
 simp only[e,DK,EB];show wpAny _ _ (if(Tk d==DE)=Gi then _ else _) _ _ s;rw[Gs (show¬((Tk d==DE)=Gi)from TD)];refine Gb (Gm ?_);refine Gb (EJ c b ?_);rw[Gs (by simp)];refine Gb (Gm ?_);refine Gb (Lj c b ?_);rw[Gs (by simp)];refine Gm ?_;simp only[show¬((i:Int)<0)from by ext,EB,Er,El g];refine Gb ?_;first|refine Gb (E6 a.typeIs (Gm ?_))|refine Gb (SN a.typeIs (Gm ?_))
 show wpAny _ _ (setField (.ref f) 0 .none>>=_) _ _ s;refine Gb (Lx k j (by simp) ?_);show wpAny _ _ (newExc (.type "StopIteration") []>>=_) _ _ _;refine Gb ?_;simp only[newExc,newTuple];refine Gb (DD ?_ (by size_fits));refine Gb (m:=firstArgMember _ _) (Bs (a:=DE) (by first|rfl|(simp only[firstArgMember];rfl)) ?_);refine DD ?_ (by size_fits);simp only[raiseNew];refine Gb (NP ?_);rw[show A.in1.handled=Gq from n];refine Gb (Gm (Bt ?_));refine Gb (LB (T:="StopIteration") (b:=Gi) {_,To _ Xb,1} Nv ?_);exact Gm (l _ (((Eb ..).extBut.push _).push _))
theorem Walks.OX(t:A.handled=Gq)(I d:Gd)(n:d≠I)(c:Array Lz)(p:Nat):
  Walks prog w A I [I,d] [I] c.size (λi v=>∃e,c[i]?=Ga e/\v=e.val) (λi h=>h.IsValIter I d i c.size p/\h.I9 d c p) where
 sub:=λb f=>by simp at f;simp[f]
 frame:=λ_ _ _ a q=>{a.1.at λo e=>q I (by simp) o e,a.2.at λo e=>q d (by simp) o e}
 item:=λi s Q E hi a g=>by have r:c[i]?=Ga c[i]:=T6 hi;refine Qqv a.1 a.2 r λl j k=>?_;exact g _ l s.toks {_,r,1} {j,a.2.at λo e=>(k.2 d n).trans e} λb o f e=>k.extBut b o (λh=>f (by simp[h])) e
 done:=λs Q E a g=>XB t a.1 a.2 (GJ _) λl m=>g l s.toks λb o f e=>m b o (λh=>f (by simp[h])) e
 self:=λ_ _ _ _ a g=>wpAny_pyIter_valiter a.1 g
theorem XO:BN prog w "dict_values" v d es.size (λi x=>∃e,es[i]?=Ga e/\x=e.val) (λh=>h.IsValuesView v d/\h.I9 d es ep) where
 type:=λ_ a=>a.1.typeIs
 there:=λ_ a=>{let⟨_,ho,_⟩:=a.1;Tn ho,a.2.lt}
 keep:=λ_ _ a c=>{let⟨o,ho,x⟩:=a.1;{o,c v (.inl Xb) o ho,x},a.2.at λo e=>c d (.inr Xb) o e}
 notList:=by decide
 notTuple:=by decide
 hint:=λ_ _ _ _ a b=>C3 a.1.typeIs b
 iter:=λ_ _ f a=>{2,(λ_ _ b=>ZC a.1 a.2 b),Walks.OX f _ d (T2 a.2.lt) es ep,{{_,To _ Xb,11},a.2.at λo e=>Gp _ e}}
end
end PySem
namespace L2
open PySem PySem.Spec PyProof.Rows
variable{P:Gn}{w:Tg}{H:Hp}{X:Cx}{σ:St}{a:Gd}{zw:List (Wi×V)}{tg:D4}
def vvw(v d:Gd):HO:=.ext λh=>h.IsValuesView v d
theorem Q1{h:Heap}{v d:Gd}(x:h.IsValuesView v d):Yj P w H h v (vvw v d):=by
 exists x,?_
 .obtain⟨o,a,_⟩:=x;exact⟨o,a⟩
 .rintro b c ⟨o,a,r⟩ k;exact{o,k o a,r}
section
variable{X:Cx}{o:D4}{to:TE}{name:TQ}{apos cpos:M3}{id:String}{r:V->List V->Hp->VK->Prop}
def Q55(P:Gn)(w:Tg)(r:V->List V->Hp->VK->Prop)(to:TE):TE:=λσ H Q=>to σ H λx H1=>(∃d zw,x=.ref d/\H1 d=Ga (Uv P w d zw))/\r x [] H1 Q
theorem XP(slot:Slot "dict" name id)(e:typeOf (.builtin id)=pure (.type "method_descriptor"))(m:iO X id r)(n:PE X o to)
  (b:attributeBase o name X.env (eval o X.env)=eval o X.env:=by rfl)(c:(apos.endLine==cpos.line)=Gi:=by rfl):PE X (.Call (.Attribute o name apos) [] [] cpos) (Q55 X.prog X.w r to):=by
 intro a s g H Q I h;refine MH b c (Xg (n a s g H _ I h) λv u⟨x,i,f,t,ty,q⟩=>?_);have(d,p,rfl,j):=ty;cases(show v=Tk d from t);have(k,l):=uZ f j;exact{"dict",id,SX,slot,e,k,l,Lc rfl (NE (m a u g i (.ref d) [] _ [] Q f rfl .nil q))}
inductive xg(P:Gn)(w:Tg)(x:V)(vs:List V)(H:Hp)(Q:VK):Prop
 |mk (d:_) (zw:_) (h0:x=.ref d) (h1:vs=[]) (h2:DH P w H d zw) (h3:∀v,H v=Gq->Q (.ref v) (zj H v (vvw v d))):xg P w x vs H Q
def OA(P:Gn)(w:Tg):V->List V->Hp->VK->Prop:=λx a H Q=>xg P w x a H Q
theorem YC:iO X "dict.values" (OA X.prog X.w):=by intro c s y H x u v t Q I l k h;have(d,i,rfl,rfl,D,q):=h;cases(show v=Tk d from l);cases k;have(z,g,w,j,o,n,m,e,f,p,r,a):=kr I D.at_;have b:s.TypeIs (.ref d) "dict":={o,e,f.1};refine DC MC b Cf ?_ (BS _);refine Gb ?_;unfold HV;refine Gb (Fc b ?_);show wpAny _ _ (pure d) _ _ s;refine Gm ?_;show wpAny _ _ (Ls d>>=_) _ _ s;unfold Ls;rw[Gs (by rw[g];exact TD)];refine Gb (Gm ?_);refine Gb (DD (Gm {0,?_}));exact{.ref s.heap.objs.size,_,I.laid (a:=s.heap.objs.size) (o:=vvw s.heap.objs.size d) (t':=s.toks) (λ_ _ q=>Gp _ q) (GJ _) (Q1 {_,To _ Xb,11}),1,q _ (I.Yc.fresh (GJ _))}
theorem QU(K:X.calm=Gi):Ur X (.type "list") (λxs H Q=>∃v d b,xs=[.ref v]/\H v=Ga (vvw v d)/\DH X.prog X.w H d b/\∀l,H l=Gq->Q (.ref l) (zj H l (.lst (b.map λp=>p.2.2)))):=by
 intro m s R H xs V Q I r h;have(v,d,b,rfl,l,D,q):=h;have(u,rfl,O):=vals1 r;cases(show u=Tk v from O);have(z,S,P,n,o,es,ep,E,F,G,w,j):=kr I D.at_;have x:s.heap.IsValuesView v d:=(I.Yc v _ l).1;have e:es.size=b.length:=by rw[GQ n,<-Gv (f:=entryOfKey (V3 X.prog X.w)),<-w,DF]
 refine Bm (XO (es:=es) (ep:=ep)) (I.ok.hd K) ⟨x,o,E,F,G⟩ (by rw[e];exact z) λy A a C N J c=>?_;have g:(b.map λp=>p.2.2).length<=TH:=by rw[Gv];exact z
 have l:Yg (b.map λp=>p.2.2) a.toList:=by
  have k:es.toList.map (·.val)=P.map λq=>q.2.2:=by rw[w,Dj];rfl
  have f:a.toList=es.toList.map (·.val):=by
   refine L8 λi=>?_;by_cases hi:i<a.size
   .obtain⟨M,L,l⟩:=c.2 i a[i] (T6 hi);rw[Ed,T6 hi,Ts,Ed,L,l];rfl
   .have L:=c.1;rw[Df (by simp;lia),Df (by simp;lia)]
  rw[f,k];clear q z w k f g e c D j;induction n with
  |nil=>exact .nil
  |@cons p q T U L t M=>rw[Tp,Tp];exact .cons L.2.2 M
 have B:zv X m R (zj H s.heap.objs.size (.lst (b.map λp=>p.2.2))) {s with heap:=y,toks:=A}:=
  I.laid (t':=A) N (GJ _) (show Yj X.prog X.w _ y _ (.lst _)from{g,a.toList,C,l,by rw[SD];exact J})
 exact{.ref s.heap.objs.size,_,B,1,q _ (I.Yc.fresh (GJ _))}
end
def yo:HO->Prop
 |.dK _=>True
 |.frz _ (.dK _)=>True
 |_=>False
theorem zv.swap{g:List (Gd×S8)}{s:Gz}{u j:HO}(I:zv X g σ H s)(e:H a=Ga u)(k:yo u)(b:yo j)(D:∀o v,X.H₀ a≠Ga (.frz o v))(l:Yj X.prog X.w (zj H a j) s.heap a j):zv X g σ (zj H a j) s:=by
 have i:∀b,H b=Gq->b≠a:=λb d z=>by rw[z,e]at d;cases d
 have w:∀b f,H b=Ga (.tup f)->b≠a:=λb f d z=>by rw[z,e]at d;cases d;exact k
 have E:∀b y,H b=Ga (.own y)->b≠a:=λb f d z=>by rw[z,e]at d;cases d;exact k
 have F:∀b r,H b=Ga (.tbl r)->b≠a:=λb f d z=>by rw[z,e]at d;cases d;exact k
 refine{I.ok,I.os,I.bare,{I.base.keep,I.base.slot,λb o A n C=>?_,I.base.there,λb f h=>?_,λb o v h=>?_,λb r h=>?_},I.loc,I.cell,?_,λx c h=>?_,λp h=>?_,λb o h=>?_,I.len}
 .have:=I.base.free b o A n C;rw[Qh (i b this)];exact this
 .have:=I.base.Qv b f h;rw[Qh (w b f this)];exact this
 .have m:b≠a:=λz=>D o v (z▸h);rw[Qh m];exact I.base.Qat b o v h
 .obtain⟨m,t⟩:=I.base.Qc6 b r h;exact{m,by rw[Qh (F _ _ t)];exact t}
 .rw[Qh (i _ I.free)];exact I.free
 .rw[Qh (i _ (I.I8 x c h))];exact I.I8 x c h
 .obtain⟨t,m,B⟩:=I.pin p h;exact{t,by rw[Qh (i _ m)];exact m,B}
 .by_cases d:b=a
  .subst d;rw[Qb]at h;cases h;exact l
  .rw[Qh d]at h;exact(I.Yc b o h).jy (λc v _ q=>q) (λc q=>by rw[Qh (E c b q)];exact q) λc f q=>by rw[Qh (w c f q)];exact q
def fz(o:S8)(zw:List (Wi×V)):HO:=.frz o (.dK zw)
theorem UA{b:Hp}{h:Heap}(x:Yj P w H h a (.dK zw)):Yj P w b h a (.dK zw):=x
def lD(a:Gd)(o:S8)(zw:List (Wi×V)):It:={λi H=>i<zw.length/\H a=Ga (fz o zw),λi H x H'=>H'=H/\∃p,zw[i]?=Ga p/\x=kV p.1,λi H=>zw.length<=i/\H a=Ga (fz o zw)}
theorem OV{k:Wi}{u:Gj}(h:jH k u=Gi):zu (kV k) u:=by
 rcases Xn h with⟨i,t,rfl,rfl⟩|⟨x,t,rfl,rfl⟩
 .exact⟨t,Xb⟩
 .exact⟨t,Xb⟩
theorem ZZ{c:List (Wi×Gj)}(r:KV zw c){i:Nat}{p:Wi×V}(h:zw[i]?=Ga p):∃u,c[i]?=Ga (p.1,u):=by
 unfold KV at r;induction r generalizing i with
 |nil=>simp at h
 |@cons a b g k e t f=>
  cases i with
  |zero=>simp at h;subst h;have(j,d):=b;exact{d,by simp[e.1]}
  |succ i=>simp only[SY]at h⊢;exact f h
theorem K9{K:Gf}(a f:Gd)(b:S8)(n:List (Wi×V))(D:Array Lz)(t:Nat)(y:b.data=.dict D t):jf P w K tg (lD a b n) [f] f (λi h=>h.IsKeyIter f a i n.length t) where
 mem:=by simp
 obj:=λi h g j l=>by
  have e:j=f:=by simpa using l
  subst e;have(b,e,c,d):=g;exact{b,e,λR z=>by rw[d]at z;cases z}
 keep:=λi h v g k=>g.at λb e=>k f (by simp) b e
 item:=by
  intro X L hw J T i W s Y B Z m x g N;subst L hw J;have(hi,O):=N;have(o,z,hd,A,r,C):=m.Yc a _ O;have(aa,o',ab,q,M,p,Q):=C.dictAt;rw[o]at q;cases q;rw[y]at p;cases p;have U:n[i]?=Ga n[i]:=Ge hi;have(u,hu):=ZZ r U;have(E,F,f2,G,H,I):=x f (by simp);have S:s.heap.IsKeyIter f a i A.length t:=by rw[<-r.length];exact g
  refine wpAny_pyNext_dict_item (knd:=Xc X.prog X.w) S ⟨b,D,o,M,y,Q⟩ hu λac v hk R sb=>?_;have I1:zv X W Y B {s with heap:=v}:=m.turned (t':=s.toks) (λj b l e=>(sb.2 j l).trans e) E F G H I;rw[<-r.length]at R;have(o2,e2,c2,d2):=id R;exact{ac,1,kX (s:={s with heap:=v}) e2 c2 d2 (by decide) {kV n[i].1,B,I1,OV hk,{13,U,1},R,λj l=>(x j l).1}}
 done:=by
  intro X L hw J T i W s Y B Z m x g N;subst L hw J;have(hi,O):=N;have(o,z,hd,A,r,C):=m.Yc a _ O;have(aa,o',ab,q,M,p,Q):=C.dictAt;rw[o]at q;cases q;rw[y]at p;cases p;have(E,F,f2,G,H,I):=x f (by simp);have U:n.length=A.length:=r.length;have S:s.heap.IsKeyIter f a i A.length t:=by rw[<-U];exact g
  exact wpAny_pyNext_dict_end (knd:=Xc X.prog X.w) (m.ok.hd T) S ⟨b,D,o,M,y,Q⟩ (Df (by lia)) λv R=>{1,m.turned (t':=s.toks) (λj b l e=>R j b l e) E F G H I}
 self:=λ_ _ _ _ _ g h=>Nw g h
inductive ud(R:It->Hp->Prop)(x:V)(H1:Hp):Prop
 |mk (a:_) (zw:_) (h0:x=.ref a) (h1:((H1 a=Ga (.dK zw)/\∀o,R (lD a o zw) (zj H1 a (fz o zw))))):ud R x H1
def Q59(te:TE):TI:=λσ H R=>te σ H λx H1=>ud R x H1
inductive xt(t:TS)(D:Ends)(σ:St)(H:Hp):Prop
 |mk (a:_) (zw:_) (h0:H a=Ga (.dK zw)) (h1:t {nx:=(λσ' H'=>∃o,H' a=Ga (fz o zw)/\D.nx σ' (zj H' a (.dK zw))),rt:=(λv H'=>∃o,H' a=Ga (fz o zw)/\D.rt v (zj H' a (.dK zw))),bk:=(λσ' H'=>∃o,H' a=Ga (fz o zw)/\D.bk σ' (zj H' a (.dK zw))),ct:=(λσ' H'=>∃o,H' a=Ga (fz o zw)/\D.ct σ' (zj H' a (.dK zw)))} σ H):xt t D σ H
def OE(t:TS):TS:=λD σ H=>xt t D σ H
section
variable{X:Cx}{tg:D4}
theorem zv.wL{b:List (Gd×S8)}{s:Gz}(I:zv X b σ H s)(e:H a=Ga (.dK zw)):∀o v,X.H₀ a≠Ga (.frz o v):=λo v z=>by rw[I.base.Qat a o v z]at e;cases e
theorem uQ{e:D4}{u:TE}(D:PE X e u):PI X tg e (Q59 u):=by
 intro d s w H R I h;refine Xg (D d s w H _ I h) λv i⟨x,y,j,F,E⟩=>?_;have(a,f,e,l,q):=E;subst e;cases F;have(z,p,G,g,m):=nh j.Yc l;have(A,o,n,t,C,c,r):=m.dictAt;refine wpAny_pyIter_dict (knd:=Xc X.prog X.w) p ⟨o,n,t,C,c,r⟩ ?_;have k:zv X d w (zj y a (fz o f)) i:=j.swap l trivial trivial (j.wL l) ⟨t,z,p,G,g,m⟩;refine{i.heap.objs.size,[i.heap.objs.size],20,k.kept (t':=i.toks) λb o e=>Gp _ e,K9 a _ o f n A c,?_,λb B=>?_,q o}
 .rw[g.length];exact{_,To _ Xb,11}
 .have e:b=i.heap.objs.size:=by simpa using B
  subst e;exact k.jk (GJ _) (k.Yc.fresh (GJ _))
theorem wM{m:DR}{t:TS}(h:PS X m t):PS X m (OE t):=by
 intro c s w H D I n;have(a,k,e,q):=n;have p:=I.wL e;have un:∀{b:St}{i:Hp}{l:Gz}{o:S8},zv X c b i l->i a=Ga (fz o k)->zv X c b (zj i a (.dK k)) l:=λd g=>d.swap g trivial trivial p (by have(_,r):=d.Yc a _ g;exact UA r)
 refine Xg (h c s w H _ I q) λf l r=>?_;cases f with
 |next=>have(b,i,d,o,g,j):=r;exact⟨b,_,un d g,j⟩
 |cont=>have(b,i,d,o,g,j):=r;exact{b,_,un d g,j}
 |brk=>have(b,i,d,o,g,j):=r;exact{b,_,un d g,j}
 |ret v=>have(x,b,i,d,u,o,g,j):=r;exact{x,b,_,un d g,u,j}
end
theorem vN{o:S8}{g:TG}{k:TS}{D:Ends}(b:Nat->St->Hp->Prop)(l:b 0 σ H)(r:∀i σ H,i<=zw.length->b i σ H->H a=Ga (fz o zw))
  (hs:∀i p σ H,zw[i]?=Ga p->b i σ H->g (kV p.1) σ H λf H2=>k {D with nx:=b (i+1),ct:=b (i+1),bk:=D.nx} f H2)(n:∀σ H,b zw.length σ H->D.nx σ H):
  ∃W:Nat->Nat->St->Hp->Prop,(∃m,W 0 m σ H)/\∀i m σ H,W i m σ H->
   ((lD a o zw).stop i H/\D.nx σ H)\/((lD a o zw).go i H/\∃N:St->Hp->Prop,(∀d c,N d c->∃j,j<m/\W (i+1) j d c)/\∀x c,(lD a o zw).yld i H x c->g x σ c λf H2=>k {D with nx:=N,ct:=N,bk:=D.nx} f H2):=by
 exists λi m σ H=>m=zw.length - i/\i<=zw.length/\b i σ H,{zw.length,by simp,Tu _,l};rintro i m σ H ⟨rfl,hi,p⟩;have q:=r i σ H hi p;by_cases h:i<zw.length
 .refine .inr {⟨h,q⟩,b (i+1),λd c t=>{zw.length - (i+1),by ext,1,h,t},λx c y=>?_};have(e,y,s,j):=y;subst e j;exact hs i y σ _ s p
 .have e:i=zw.length:=by ext
  subst e;exact .inl {{GJ _,q},n σ H p}
def lL(lo:Int)(n:Nat):It:={λi _=>i<n,λi H x H'=>H'=H/\x=.int (lo - i),λi _=>n<=i}
theorem K7{K:Gf}(c:Gd)(m:Int)(n:Nat):jf P w K tg (lL m n) [c] c (λi h=>Np h c (m+(i:Nat)*(-1)) ((n:Int) - (i:Nat)) (-1)) where
 mem:=by simp
 obj:=λi h a b f=>by
  have e:b=c:=by simpa using f
  subst e;exact{_,a,λv z=>by have g:Hx _=I7 v:=z;cases g}
 keep:=λi h j a k=>k c (by simp) _ a
 item:=by intro X A hw y B i d s F H E I l a C;subst A hw y;have(p,q,J,r,u,x):=l c (by simp);have W:=Hy (prog:=X.prog) (w:=X.w) (I.ok.hd B) c m (-1) n;refine W.item i s _ _ C a λv j D L g M=>?_;have(t,rfl):=L;have G:zv X d F H {s with heap:=j,toks:=D}:=I.turned (λb o f e=>M b o (by simpa using f) e) p q r u x;refine{0,kX (s:={s with heap:=j,toks:=D}) (n:="range_iterator") g rfl rfl (by decide) {.int (m - i),H,G,{t,?_},⟨Xb,Xb⟩,g,λb f=>(l b f).1}};congr 1;lia
 done:=by intro X A hw y B i d s F H E I l a C;subst A hw y;have(p,q,J,r,u,x):=l c (by simp);exact MQ (I.ok.hd B) a (by have:n<=i:=C;lia) λj g=>{1,I.turned (t':=s.toks) (λb o f e=>g b o f e) p q r u x}
 self:=λ_ _ _ _ _ a h=>MR a h
theorem rangeSize_down(n:Nat):SU ((n:Int) - 1) (-1) (-1)=n:=by unfold SU;simp only[show¬((-1:Int)>0) by decide,EB,show -(-1:Int)=1 by decide,Hc];split<;>lia
theorem small_down{n:Nat}(h:n<=1000000):NH ((n:Int) - 1) (-1) (-1)=Gi:=by unfold NH;rw[rangeSize_down];simp only[BF,T5,Bool.or_eq_true,decide_eq_true_eq,FS,show¬((-1:Int)>0) by decide,EB];lia
inductive vq(R:It->Hp->Prop)(vs:List V)(H1:Hp):Prop
 |mk (n:Nat) (h0:vs=[.int ((n:Int) - 1),.int (-1),.int (-1)]) (h1:n<=1000000) (h2:R (lL ((n:Int) - 1) n) H1):vq R vs H1
def Q6r(ta:TA):TI:=λσ H R=>ta σ H λa H1=>vq R a H1
theorem YB{a b c:D4}{v:TA}{p j:M3}(C:Gl X "range")(D:X.mg "range"=Gq)(A:PA X [a,b,c] v)(hs:T4 [a,b,c] X.env=[(Gx,eval a X.env),(Gx,eval b X.env),(Gx,eval c X.env)]:=by rfl)(i:T4 [b,c] X.env=[(Gx,eval b X.env),(Gx,eval c X.env)]:=by rfl):
  PI X tg (.Call (.Name "range" p) [a,b,c] [] j) (Q6r v):=by
 intro f s w H R I h;refine JV (Uy I C D IB (ED (Xg (A j f s w H _ I h) λK g⟨L,u,x,J,F⟩=>?_) (by rw[hs,i]) (by rw[i];rfl)));have(n,e,E,q):=F;subst e;cases J with
 |cons r k=>
  cases k with
  |cons G k=>
   cases k with
   |cons m k=>
    cases k;have(t,rfl):=r;have(t',rfl):=G;have(d,rfl):=m;refine call_range_3 (by decide) ?_ (.inl (MT (by ext)));refine NT (Hz ..) (small_down E) ?_;have l:zv X f w u {g with heap:=g.heap.push {cls:=.type "range",data:=.fields #[.int ((n:Int) - 1) t,.int (-1) t',.int (-1) d]},toks:=g.toks}:=x.kept λb o e=>Gp _ e;refine⟨(g.heap.push {cls:=.type "range",data:=.fields #[.int ((n:Int) - 1) t,.int (-1) t',.int (-1) d]}).objs.size,[(g.heap.push {cls:=.type "range",data:=.fields #[.int ((n:Int) - 1) t,.int (-1) t',.int (-1) d]}).objs.size],_,_,u,Xb,
     l.kept (t':=g.toks) λb o e=>Gp _ e,K7 _ ((n:Int) - 1) n,?_,λb B=>?_,q⟩
    .have y:((n:Int) - 1)+((0:Nat):Int)*(-1)=(n:Int) - 1:=by simp
     have z:(n:Int) - ((0:Nat):Int)=SU ((n:Int) - 1) (-1) (-1):=by rw[rangeSize_down];simp
     show Np _ _ (((n:Int) - 1)+((0:Nat):Int)*(-1)) ((n:Int) - ((0:Nat):Int)) (-1);rw[y,z];exact To _ rfl
    .have e:b=(g.heap.push {cls:=.type "range",data:=.fields #[.int ((n:Int) - 1) t,.int (-1) t',.int (-1) d]}).objs.size:=by simpa using B
     subst e;exact l.jk (GJ _) (l.Yc.fresh (GJ _))
theorem Qvl{h:Int}{n:Nat}{g:TG}{k:TS}{D:Ends}(b:Nat->St->Hp->Prop)(l:b 0 σ H)
  (hs:∀i σ H,i<n->b i σ H->g (.int (h - i)) σ H λf H2=>k {D with nx:=b (i+1),ct:=b (i+1),bk:=D.nx} f H2)(o:∀σ H,b n σ H->D.nx σ H):
  ∃W:Nat->Nat->St->Hp->Prop,(∃m,W 0 m σ H)/\∀i m σ H,W i m σ H->
   ((lL h n).stop i H/\D.nx σ H)\/((lL h n).go i H/\∃N:St->Hp->Prop,(∀d a,N d a->∃j,j<m/\W (i+1) j d a)/\∀x a,(lL h n).yld i H x a->g x σ a λf H2=>k {D with nx:=N,ct:=N,bk:=D.nx} f H2):=by
 exists λi m σ H=>m=n - i/\i<=n/\b i σ H,{n,by simp,Tu _,l};rintro i m σ H ⟨rfl,hi,p⟩;by_cases c:i<n
 .refine .inr {c,b (i+1),λd a j=>{n - (i+1),by ext,1,c,j},λx a y=>?_};have(e,y):=y;subst e y;exact hs i σ _ c p
 .have e:i=n:=by ext
  subst e;exact .inl {GJ _,o σ H p}
inductive tD(vs:List V)(H:Hp)(Q:VK):Prop
 |mk (d:_) (zw:_) (ks:_) (h0:vs=[.ref d]) (h1:H d=Ga (.dK zw)) (h2:zw.map (·.1)=ks.map FI) (h3:zw.length<64) (h4:∀(r:Gd)(ns:List Int),H r=Gq->ns.Perm ks->ns.Pairwise (·<=·)->Q (.ref r) (zj H r (.lst (ns.map V.int)))):tD vs H Q
def YJ:List V->Hp->VK->Prop:=λa H Q=>tD a H Q
theorem Qyo{h:Heap}:∀{b:List (Wi×V)}{d:List (Wi×Gj)}{c:List Int}{a:List Gj},KV b d->b.map (·.1)=c.map FI->a.length=d.length->(∀(i:Nat)(u:Gj),a[i]?=Ga u->∃k x,d[i]?=Ga (k,x)/\(Xc P w).is k u=Gi)->MY a c:=by
 intro b;induction b with
 |nil=>
  intro d c a t e f _;cases t;cases a with
  |cons=>cases f
  |nil=>
   cases c with
   |nil=>exact .nil
   |cons=>cases e
 |cons p b n=>
  intro d c a t e f g;cases t with
  |cons r t=>
   cases c with
   |nil=>cases e
   |cons k c=>
    cases a with
    |nil=>cases f
    |cons u a=>
     simp only[Tp,Db]at e;have(o,x,j,l):=g 0 u rfl;simp at j;have:o=FI k:=by rw[<-e.1,r.1,j]
     subst this;have(q,rfl):=RF (k:=k) (v:=u) l;exact .cons _ _ (n t e.2 (by simpa using f) λi u m=>g (i+1) u m)
theorem ZN{a:List Gj}{b:List Int}(h:MY a b):Yg (b.map V.int) a:=by
 induction h with
 |nil=>exact .nil
 |cons n t r c=>exact .cons {40} c
theorem K5(M:X.calm=Gi):Ur X (.builtin "sorted") YJ:=by
 intro m s U H Y W Q I r h;have(d,zw,D,rfl,R,C,P,q):=h;have(u,rfl,T):=vals1 r;cases(show u=Tk d from T);have(z,N,y,n,K):=nh I.Yc R;have(ep,t):=K.dictAt;have c:zw.length=y.length:=n.length;refine Mh kind_sorted plain_sorted entry_sorted (args_sorted1 _) ?_;unfold Builtin.«sorted»;refine Gb (m:=checkCount "sorted" 1 1 _) (Gm ?_);refine Gb (HW (A:=X.A.in1) (JO (knd:=Xc X.prog X.w) (kvs:=y) (ep:=ep) N) (I.ok.hd M) t (by rw[<-c];exact z) λf E a w g=>?_);have j:a.toList.length=y.length:=by rw[DF];exact g.1
 have L:MY a.toList D:=Qyo (P:=X.prog) (w:=X.w) (h:=f) n C j λi u S=>g.2 i u (by rw[<-Ed];exact S);have A:zv X m U H {s with heap:=f,toks:=E}:=I.kept w;refine Gb (wpAny_newList ?_ (by rw[j,<-c];exact z));have v:(f.push {cls:=.type "list",data:=.seq a.toList.toArray}).get? f.objs.size=Ga (seqObj "list" a.toList.toArray 0):=To _ rfl;refine Gb (D9 ?_);refine DC Hk {_,v,1} C4 ?_ (CT _);refine list_sort_tree v L (by rw[j,<-c];exact P) λout l G B J=>?_;exists 40;refine Gm {0,?_};have(e,O):=sortedHeap_at (out:=out) v;have k:∀b o,f.get? b=Ga o->(sortedHeap (f.push {cls:=.type "list",data:=.seq a.toList.toArray}) f.objs.size a.toList out).get? b=Ga o:=λb o p=>by rw[sortedHeap_old (T2 (Tn p)) (by rw[size_push'];exact RW (Tn p))];exact Gp _ p
 have x:l.length<=TH:=by
  rw[B.length_eq];have:D.length=zw.length:=by have:=congrArg E1 C;simpa using this.symm
  rw[this];exact z
 have F:=A.laid (a:=f.objs.size) (o:=.lst (l.map V.int)) (t':=E) k (GJ _) {by rw[Gv];exact x,out.toList,e,ZN G,by rw[SD];exact O};exact{.ref f.objs.size,_,F,1,q _ _ (A.Yc.fresh (GJ _)) B J}
end L2
namespace K06
open PySem L2 Sb Nt
variable{X:Gd->Prop}{H H' H1:Hp}{v:V}{k a b p q tb m j:Nat}{fs:List Fm}{x:Nn}{N:Nat->Nat->Option Nat}{f C r n L d D fW fB M fR fL f0 fI fN CP CB fA:Gd}{fd fdW fdB fdR fdL fdI fdN fdA:Do}{A:Na}{lks:List Lk}{ys:List V}{P:Gn}{w:Tg}{ts U:List Th}{t:Th}{ens:List En}{tl:Tl}
inductive xq(C:Gd)(vs:List V)(H:Hp)(Q:VK):Prop
 |mk (n:Gd) (A:Na) (fs:List Fm) (x:Nn) (p:Nat) (h0:vs=[.ref n,jv p]) (h1:(∃dx,H n=Ga (.ins C dx (Xs A)))) (h2:(∃ws,H A.f=Ga (.lst ws)/\Dg (Oj H) ws fs)) (h3:Rd H A.l (.dK (dS x.S λp=>jv (x.zg p)))) (h4:p<fs.length) (h5:(∀q∈Zw fs p,q∈x.S)) (h6:(Zw fs p).length<=1000000) (h7:∀(c:Gd)(H':Hp),Q9 H H'->H c=Gq->Oj H' (.ref c) (Zv (Yr fs) (Zw fs) x.zg p)->Q (.ref c) H'):xq C vs H Q
def zK(C:Gd):Sp:=λa H Q _=>xq C a H Q
abbrev Row:=TQ×List Nat×Nat
inductive Uz(H:Hp)(X:Gd->Prop)(v:V)(r:Row):Prop
 |mk (c:_) (l:_) (h0:v=.ref c) (h1:H c=Ga (.tup [.str r.1,.ref l,jv r.2.2])) (h2:H l=Ga (.lst (r.2.1.map jv))) (h3:¬X l):Uz H X v r
theorem Uz.kp(i:∀{c:Gd}{a:List V},H c=Ga (.tup a)->H' c=Ga (.tup a))(g:∀{c:Gd}{a:List V},H c=Ga (.lst a)->¬X c->H' c=Ga (.lst a)){r:Row}(h:Uz H X v r):Uz H' X v r:=by have(c,l,d,e,f,b):=h;exact{c,l,d,i e,g f b,b}
theorem Uz.ex{Y:Gd->Prop}(f:∀c a,H c=Ga (.lst a)->¬X c->¬Y c){r:Row}(h:Uz H X v r):Uz H Y v r:=by have(c,l,b,d,a,e):=h;exact{c,l,b,d,a,f _ _ a e}
inductive Jb(H:Hp)(X:Gd->Prop)(v:V)(rs:List Row):Prop
 |mk (r:_) (es:_) (h0:v=.ref r) (h1:H r=Ga (.lst es)) (h2:¬X r) (h3:Dg (Uz H X) es rs):Jb H X v rs
theorem Jb.kp{X:Gd->Prop}{H b:Hp}(l:∀{c:Gd}{a:List V},H c=Ga (.tup a)->b c=Ga (.tup a))(e:∀{c:Gd}{a:List V},H c=Ga (.lst a)->¬X c->b c=Ga (.lst a)){v:V}{f:List Row}(h:Jb H X v f):Jb b X v f:=by have(r,g,i,j,d,k):=h;exact{r,g,i,e j d,d,Qr k λ_ _ h=>h.kp l e}
theorem Jb.ex{X Y:Gd->Prop}{H:Hp}(b:∀c a,H c=Ga (.lst a)->¬X c->¬Y c){v:V}{d:List Row}(h:Jb H X v d):Jb H Y v d:=by have(r,e,f,a,g,i):=h;exact{r,e,f,a,b _ _ a g,Qr i λ_ _ h=>h.ex b}
noncomputable def Vy(fs:List Fm)(x:Nn)(N:Nat->Nat)(p:Nat):Row:=(Yr fs p,(Zw fs p).map (λq=>N (x.zg q)),N (x.zg p))
structure uX(fs:List Fm)(x:Nn)(rs:List Row):Prop where
 ex:∃N:Nat->Nat,(∀p∈x.S,∀q∈x.S,N (x.zg p)=N (x.zg q)->x.zg p=x.zg q)/\(∀p∈x.S,Vy fs x N p∈rs)/\∀r∈rs,∃p∈x.S,r=Vy fs x N p
 nd:(rs.map λr=>(r.1,r.2.1)).Nodup
inductive sT(P:Gn)(w:Tg)(C:Gd)(vs:List V)(H:Hp)(Q:VK):Prop
 |mk (n:Gd) (A:Na) (fs:List Fm) (tb:Nat) (x:Nn) (h0:vs=[.ref n]) (h1:Yn P w C H n A fs tb x) (h2:iM fs x.S) (h3:Wx (Yr fs) (Zw fs) x []) (h4:x.S.length<=1000) (h5:∀(v:V)(rs:List Row)(H':Hp),Q9 H H'->Jb H' (λb=>∃o,H b=Ga o) v rs->uX fs x rs->Q v H'):sT P w C vs H Q
def yu(P:Gn)(w:Tg)(C:Gd):Sp:=λa H Q _=>sT P w C a H Q
theorem WM{a:List Nat}{l:Nat}(c:l∉a)(b:k∈a++[l]):(a++[l]).idxOf k=if k=l then a.length else a.idxOf k:=by
 rw[RU];by_cases h:k=l
 .subst h;rw[Gs c,GV rfl];simp
 .have:k∈a:=by
   rcases Gh.mp b with z|z
   .exact z
   .exact absurd (by simpa using z) h
  rw[GV this,Gs h]
theorem qq{c:List Nat}(f:a∈c)(g:b∈c)(h:c.idxOf a=c.idxOf b):a=b:=by have d:=Mb (Sh f);have e:=Mb (Sh g);rw[<-d,<-e];simp only[h]
def jm(fs:List Fm)(x:Nn)(N:Nat->Nat)(X:Gd->Prop)(H:Hp)(e:KE)(p:Nat):Prop:=e.1=Xp (Zv (Yr fs) (Zw fs) x.zg p)/\Uz H X e.2.2 (Vy fs x N p)
theorem zp{N:Nat->Nat}{d:List KE}{f:List Nat}(h:Dg (jm fs x N X H) d f)(k:Fm):(Yt d (Xp k)).isSome=Gi↔∃p∈f,Zv (Yr fs) (Zw fs) x.zg p=k:=by
 induction h with
 |nil=>simp[Yt]
 |@cons e p d f g t i=>
  by_cases c:e.1=Xp k
  .rw[Y9 c];simp only[NY,true_iff];exact{p,Tc,J9 (g.1.symm.trans c)}
  .rw[Y2 c,i];constructor
   .rintro⟨q,a,b⟩;exact{q,Gr _ a,b}
   .rintro⟨q,a,b⟩;rcases Tf.mp a with rfl|a
    .exact absurd (by rw[g.1,b]) c
    .exact⟨q,a,b⟩
theorem UN{N:Nat->Nat}{f:List KE}{b:List Nat}(i:Uz H X v (Vy fs x N p))(a:∀q∈b,Zv (Yr fs) (Zw fs) x.zg q=Zv (Yr fs) (Zw fs) x.zg p->Vy fs x N q=Vy fs x N p)(h:Dg (jm fs x N X H) f b):
  Dg (jm fs x N X H) (f.map λe=>if e.1=Xp (Zv (Yr fs) (Zw fs) x.zg p)then(e.1,e.2.1,v)else e) b:=by
 induction h with
 |nil=>exact .nil
 |@cons e q f b d t j=>
  refine .cons ?_ (j λq g=>a q (Gr _ g));dsimp only;by_cases c:e.1=Xp (Zv (Yr fs) (Zw fs) x.zg p)
  .rw[GV c];exists d.1;rw[a q Tc (J9 (d.1.symm.trans c))];exact i
  .rw[Gs c];exact d
theorem Qzi{a:Gd}{u:HO}(r:Rd H a u)(g:Q9 H H'):Rd H' a u:=by
 rcases r with r|⟨o,r⟩
 .exact .inl (g _ _ r)
 .exact .inr {o,g _ _ r}
theorem rM{a:Gd}{S:List Nat}{f:Nat->V}(h:Rd H a (.dK (dS S f)))(b:p∈S):Vu H a (jv p) (Ga (f p)):=.inl {_,ki p,h,1,(j6 b).symm}
section
variable{P:Gn}{w:Tg}{K:Gf}{mg:TQ->Option Gj}{base:Heap}
theorem Qqt(F:Wg K "key_of" "Net.key_of" jX f fd)(h:Jj K mg C)(M:Ra mg):Q3 P w K mg base Ya 1 f fd ["self","place"] (zK C):=by
 refine F.ok oj (λvs o O N d=>?_) (λab e ac s o vs O N X d=>?_)
 .obtain⟨n,e,a,x,p,rfl,_⟩:=d;rfl
 have(n,e,a,x,p,rfl,(t,H),(J,S,u),le,B,W,hl,T):=d;have Y:=Jw X;have nd:=oj.nd;exists _,Qc (Qz 2 nd (Qn Zd (Qx {0} rfl) {1}))
  (Qg (Qt (Ze (Qa (Qn Qs {2} Qi) (Qa (X0 Uh rfl M.tuple Di (Qa
   (Ug (te:=mf (nQ K (Ul 1) "leads") (Ul 0)) (own:=["part"]) (fv:=[(0,"self")]) rfl (S:=(by eq_refl:Wb (Qo jX) _)) (.cons rfl (DX Xb) rfl .nil) (Jd (Qn Qs {2} Qi))
    (λ_ _ _ _ _=>Yz (i:=0) Ak rfl (DX Xb) (Sq Xb)) (λ_ _ _ _ _=>Wk) (λ_ _ _ _ _=>Ye Y (Qx {1} rfl) {0} (λ_ _=>rfl))) Qd)) Qd)))))
 have hw:p<J.length:=by rw[GQ u];exact B
 subst_vars;have(y,E,c,j,R,v,z):=Qy u (Ge hw);and_intros;rw[kK B]at E;cases E;have Q:Oh [V.str (Yr a p),V.ref j] (1:Int)=Ga (.ref j):=Xv;exists 0,n,C,t,30,H,h.cl,h.Qe8,Jz _,0,e.f,J,301,Qk S,Zk (Ge hw);rw[R];refine{0,c,201,Qj v,Ol _ _,0,c,201,Qj v,Q,j,1,{_,Qj z},λaa D=>?_};have s3:=Qf D (.lst []);refine Ib (K:=K) (a:=j) (xs:=(Zw a p).map jv) (small (by rw[Gv];ext)) (λi l m g=>(∃L,m=[L,Ga (.ref n)])/\Q9 o g/\l=((Zw a p).take i).map λq=>jv (x.zg q))
  {{40},s3,by simp} (λi l m g _ d=>Qj (d.2.1 _ _ z)) ?_ ?_
 .rintro i y l m g hi Z ⟨⟨L,rfl⟩,b,rfl⟩ k;rw[Ts]at hi;cases eq:(Zw a p)[i]? with
  |none=>rw[eq]at hi;cases hi
  |some q=>
   rw[eq]at hi;cases hi;exists 0,n,C,t,30,b _ _ H,h.cl,h.Vz,Xd _,0,e.l,0,rM (Qzi le b) (W q (Gc eq)),k,{40},λA G r=>?_
   .rw[Qh (Qe r D)];exact b _ _ r
   .rw[TF,eq,TY];rfl
 .rintro l m g Z ⟨_,b,rfl⟩ k;rw[Gv,Tz]at k;refine{aa,0,.inl {Qk k,λG U=>?_}};have s4:=Qf U (.tup ((Zw a p).map λq=>jv (x.zg q)));refine{Yy,λr A=>?_};have I:=Qf A (.tup [.str (Yr a p),.ref G]);refine T r _ ((b.trans s4).trans I) (b.free (s4.free A)) {r,G,1,Qb,?_};rw[I _ _ Qb];simp only[Zv,Dj];rfl
theorem uI{S:List Nat}{f:Nat->V}{i:Nat}{a:Wi×V}(h:(dS S f)[i]?=Ga a):∃p,S[i]?=Ga p/\a=(ki p,f p):=by
 unfold dS at h;rw[Ts]at h;cases e:S[i]? with
 |none=>rw[e]at h;cases h
 |some p=>rw[e]at h;cases h;exact⟨p,Xb,Xb⟩
theorem Kd:Q8 ["self","numbers","place","found","key"] ["self"] (Qo jo):=by eq_refl
theorem Q8x:(["lead","numbers"]:List TQ).Nodup:=by decide+kernel
theorem Q0i{fK:Gd}{aI:Do}(F:Wg K "rows" "Net.rows" jo f fd)(Z:Jj K mg C)(aG:Ra mg)(mK:Yq K C "key_of" fK)(GK:Q3 P w K mg base Ya 1 fK aI ["self","place"] (zK C))(bK:zk K aI ["self","place"] []):
  Q3 P w K mg base Ya 2 f fd ["self"] (yu P w C):=by
 refine F.ok Kd (λO L M H g=>?_) (λS l W s L O M H Q g=>?_)
 .obtain⟨n,l,e,tb,x,rfl,_⟩:=g;rfl
 have(n,l,e,tb,x,rfl,X,FO,aH,hS,q):=g;have hu:=Jw Q;have a6:=Q.units;have a5:Yl 1 _:=Q.mono (by lia);have nd:=Kd.nd;show∃t,W0 ?my _ t/\_;let w5:Xk ?my jo 4:={_,Qg (Qt (X0 (QU Xb) rfl aG.list T9 (Qa (XP MC CU YC {3}) Qd)))}
 let w4:Xk ?my jo 3:=⟨_,Qc (wM (Yb Tj rfl (uQ (Qx {0} rfl)) (Z5 2 nd)
   (Qc (Qz 4 nd (Zn {0} Z.cl mK GK a5 bK .nil Q5 (Qa {2} Qd)))
   (Qg (Rk (Ze (Qa (Qn Qs {4} Qi) (Qa
     (Ug (te:=mf (Ul 1) (Ul 0)) (own:=["lead"]) (fv:=[(1,"numbers")]) rfl (S:=(by eq_refl:Wb (Qo jo) _)) (.cons rfl (DX Xb) rfl .nil) (Jd (Qn Qs {4} Qi))
      (λ_ _ _ _ _=>Yz (i:=0) Q8x rfl (DX Xb) (Sq Xb)) (λ_ _ _ _ _=>Wk) (λ_ _ _ _ _=>Ye hu {1} {0} (λ_ _=>rfl)))
     (Qa (Ye hu {1} (Ye hu (Qx {0} rfl) {2} (λ_ _=>rfl)) (λ_ _=>rfl)) Qd))))
    (ke {3} {4} (kj a6))))))) w5.2⟩
 let w3:Xk ?my jo 2:={_,Qc (V5 (i:=3) (te:=pG P w) nd rfl (DX Xb) Rn) w4.2}
 let w2:Xk ?my jo 1:=⟨_,Qc (wM (Yb Tj rfl (uQ (Qx {0} rfl)) (Z5 2 nd)
   (Qg (Zl (X6 SX Ll Lm Qmt {1} (Qa (Ye hu (Qx {0} rfl) {2} (λ_ _=>rfl)) (Qa (Qm Qsx rfl aG.len GX (Qa {1} Qd)) Qd))))))) w3.2⟩
 exists _,Qc (V5 (i:=1) nd rfl (Sq Xb) Jt) w2.2;have(dx,o1):=X.ob;intro num ao;have s1:=Qf ao (.dK []);have X1:=X.same s1;have nl:num≠l.l:=Ta (Qe X.le ao);have nn:num≠n:=Ta (Qe o1 ao);have ln:n≠l.l:=Ys o1 X.le nofun;exists l.l,_,X1.le;refine⟨_,Xb,n,C,dx,_,_,Xb,s1 _ _ o1,Z.cl,Z.Vz,Xd _,l.l,_,Xb,X1.le,λh=>vN (λi N Y=>kg λ(x2:Option V)(A:List Nat)=>jC (N=[Ga (.ref n),Ga (.ref num),x2,Gq,Gq]) (Y num=Ga (.dK (dS A λk=>jv (A.idxOf k)))) (A.Nodup) (A.length<=i) (∀p∈x.S.take i,x.zg p∈A) (Y l.l=Ga (fz h (dS x.S λp=>jv (x.zg p)))) (∀d u,L d=Ga u->d≠l.l->Y d=Ga u))
  {_,[],1,Ql Qb nl,SV,Tu _,by simp,Qb,λd u b J=>Ql (s1 _ _ b) J} (by rintro i N Y _ ⟨_,_,_,_,_,_,_,g,_⟩;exact g) ?_ ?_⟩
 .rintro i pr N Y hi ⟨x2,A,rfl,ae,aE,aL,ad,ak,fr⟩;have(p,m,rfl):=uI hi;have pS:p∈x.S:=Gc m;have a2:i<x.S.length:=(Gg.mp m).1;refine{0,.inr (.inr (.inl {1,.inl {_,ae}})),0,n,C,dx,30,fr _ _ o1 ln,Z.cl,Z.Vz,Xd _,0,l.l,0,rM (.inr ⟨h,ak⟩) pS,0,num,0,ae,num,ki (x.zg p),301,ae,by rw[V8,TJ];lia,λR hv=>?_,λhv=>?_}
  .have U:x.zg p∈A:=by refine Ci λz=>?_;rw[qT z]at hv;cases hv
   refine{_,A,1,ae,aE,by lia,λE Q=>?_,ak,fr};rw[TF,m]at Q;rcases Gh.mp Q with g|g
   .exact ad E g
   .have:E=p:=by simpa using g
    rw[this];exact U
  .have U:x.zg p∉A:=λz=>by rw[j6 z]at hv;cases hv
   have eo:V2 (dS A λk=>jv (A.idxOf k)) (ki (x.zg p)) (.int ((dS A λk=>jv (A.idxOf k)).length:Int))=dS (A++[x.zg p]) λk=>jv ((A++[x.zg p]).idxOf k):=by rw[jY U,V8];refine Vp λk H=>?_;rw[WM U H];split<;>rfl
   rw[eo];refine{_,A++[x.zg p],1,Qb,DQ.mpr {aE,by simp,λa ha d J=>by simp at J;subst J;exactλz=>U (z▸ha)},by rw[Gk,Gy];lia,λE Q=>?_,Ql ak (Ta nl),λd u b J=>Ql (fr d u b J) (Qe b ao)};rw[TF,m]at Q;rcases Gh.mp Q with g|g
   .exact Gu _ (ad E g)
   .have:E=p:=by simpa using g
    rw[this];simp
 rintro N Y ⟨x2,A,rfl,ae,aE,aL,ad,ak,fr⟩;rw[V8,Tz]at ad;rw[V8]at aL;exists h,ak;have t2:∀d u,L d=Ga u->(zj Y l.l (.dK (dS x.S λp=>jv (x.zg p)))) d=Ga u:=λd u b=>by
  by_cases g:d=l.l
  .subst g;rw[Qb,<-b];exact X.le.symm
  .exact Ql (fr d u b g) g
 generalize a3:(dS A λk=>jv (A.idxOf k))=ar at ae;have aq:∀p∈x.S,Xq ar (ki (x.zg p))=Ga (jv (A.idxOf (x.zg p))):=λp m=>by rw[<-a3];exact j6 (ad p m)
 generalize aJ:(λk=>A.idxOf k)=o;have aq:∀p∈x.S,Xq ar (ki (x.zg p))=Ga (jv (o (x.zg p))):=λp m=>by rw[<-aJ];exact aq p m
 have aK:∀p∈x.S,∀q∈x.S,o (x.zg p)=o (x.zg q)->x.zg p=x.zg q:=λp m q G b=>by rw[<-aJ]at b;exact qq (ad p m) (ad q G) b
 have aF:(zj Y l.l (.dK (dS x.S λp=>jv (x.zg p)))) num=Ga (.dK ar):=Ql ae nl;generalize zj Y l.l (.dK (dS x.S λp=>jv (x.zg p)))=H3 at t2 aF;intro v an;have s4:=Qf an (Uv P w v []);have g4:Q9 L (zj H3 v (Uv P w v [])):=λd u b=>s4 _ _ (t2 d u b);have X4:=X.same g4;have nf:num≠v:=Qe aF an;have fl:l.l≠v:=Qe (t2 _ _ X.le) an;exists l.l,_,X4.le;refine⟨_,Xb,n,C,dx,_,_,Xb,g4 _ _ o1,Z.cl,Z.Vz,Xd _,l.l,_,Xb,X4.le,λh=>vN (λi N I=>kL λ(x2 x4:Option V)(B:List KE)=>mV (N=[Ga (.ref n),Ga (.ref num),x2,Ga (.ref v),x4]) (DH P w I v B) (∃r:List Nat,r.length<=i/\Dg (jm e x o (λd=>∃h,L d=Ga h) I) B r/\(r.map λp=>Zv (Yr e) (Zw e) x.zg p).Nodup/\(∀p∈r,p∈x.S)/\∀p∈x.S.take i,∃p'∈r,Zv (Yr e) (Zw e) x.zg p'=Zv (Yr e) (Zw e) x.zg p) (I num=Ga (.dK ar)) (I l.l=Ga (fz h (dS x.S λp=>jv (x.zg p)))) (∀d u,L d=Ga u->d≠l.l->I d=Ga u))
  {2,[],1,{Ql Qb (Ta fl),(λp m=>nomatch m)},{[],Tu _,.nil,SV,(λp m=>nomatch m),by simp},Ql (Ql aF nf) nl,Qb,λd u b J=>Ql (g4 _ _ b) J} (by rintro i N I _ ⟨_,_,_,_,_,_,_,g,_⟩;exact g) ?_ ?_⟩
 .rintro i pr N I hi ⟨x2,x4,B,rfl,D5,⟨r,a4,ap,au,af,aj⟩,aM,ab,ac⟩;subst_vars;have(p,m,rfl):=uI hi;have pS:p∈x.S:=Gc m;have a2:i<x.S.length:=(Gg.mp m).1;have a8:=FO.few p;have(ws,f1,f2):=X.fo;and_intros;have tu:Q7 L I:=λd xs b=>ac d _ b (Ys b X.le nofun);have fA:I l.f=Ga (.lst ws):=ac _ _ f1 (Ys f1 X.le nofun);have o5:=ac _ _ o1 ln;refine{0,n,dx,0,o5,pU _,0,n,l,e,x,p,1,⟨dx,o5⟩,{ws,fA,Qr f2 λ_ _ g=>g.Qv tu},.inr ⟨h,ab⟩,FO.lt p pS,FO.pts p pS,by lia,λc H6 M a7 fm=>?_};subst_vars;have(c',b,ec,h1,T):=id fm;and_intros;cases ec;simp only[Zv]at h1 T;have am:=M _ _ aM;have D6:DH P w H6 v B:={M _ _ D5.at_,Zp (Q7.of M) D5.keys};refine{0,c,201,Qj h1,Ol _ _,0,c,201,Qj h1,Rh _ _ _,b,1,{_,Qj T},λE al=>?_};have s7:=Qf al (.lst []);have a9:=GQ ap;refine Ib (K:=K) (a:=b) (xs:=((Zw e p).map x.zg).map jv) (small (by rw[Gv,Gv];lia)) (λi ys N H=>(∃x0,N=[x0,Ga (.ref num)])/\Q9 H6 H/\ys=((Zw e p).take i).map λq=>jv (o (x.zg q))) {{40},s7,by simp} (λi ys N H _ g=>Qj (g.2.1 _ _ T)) ?_ ?_
  .rintro j y ys N H O a1 ⟨⟨x0,rfl⟩,W,rfl⟩ ai;rw[Ts,Ts]at O;cases eq:(Zw e p)[j]? with
   |none=>rw[eq]at O;cases O
   |some S=>rw[eq]at O;cases O;have hv:=aq S (FO.pts p pS S (Gc eq));exists 00,num,0,(by have:=Vu.k (k:=ki (x.zg S)) (W _ _ am);rw[hv]at this;exact this),ai,{40},λd h eb=>Ql (W _ _ eb) (Qe eb al);rw[TF,eq,TY];rfl
  .rintro ys N H a1 ⟨_,W,rfl⟩ ai;rw[Gv,Gv,Tz]at ai;have hv:=aq p pS;have aZ:=W _ _ am;have dg:Vu H num (jv (x.zg p)) (Ga (jv (o (x.zg p)))):=by have:=Vu.k (k:=ki (x.zg p)) aZ;rw[hv]at this;exact this
   refine{00,n,C,dx,30,W _ _ (M _ _ o5),Z.cl,Z.Vz,Xd _,0,l.l,0,rM (.inr {h,W _ _ (M _ _ ab)}) pS,num,0,dg,Vm,λD hm=>?_};generalize aX:jv (o (x.zg p))=R;have s8:=Qf hm (.tup [.str (Yr e p),.ref E,R]);have O:Q9 H6 (zj H D (.tup [.str (Yr e p),.ref E,R])):=W.trans s8;have D8:DH P w (zj H D (.tup [.str (Yr e p),.ref E,R])) v B:={O _ _ D6.at_,Zp (Q7.of O) D6.keys};have k8:=(fm.Qv (Q7.of O)).key (FO.str p);exists 00,v,c,_,B,11,D8,k8,(by rw[TJ];lia);have a0:∀d h,L d=Ga h->∃u,H6 d=Ga u:=λd h eb=>by
    by_cases J:d=l.l
    .rw[J];exact{_,M _ _ ab}
    .exact{h,M _ _ (ac d h eb J)}
   have aC:Uz (zj H D (.tup [.str (Yr e p),.ref E,R])) (λd=>∃h,L d=Ga h) (.ref D) (Vy e x o p):=⟨D,E,Xb,by rw[<-aX];exact Qb,by
    show _=Ga (HO.lst (((Zw e p).map λq=>o (x.zg q)).map jv));rw[Dj];exact s8 _ _ ai,λ⟨h,eo⟩=>by
    have(u,aa):=a0 _ _ eo;rw[al]at aa;cases aa⟩
   generalize aB:Vo B (Xp (Zv (Yr e) (Zw e) x.zg p)) c (.ref D)=ah;have aD:∀{d:Gd}{xs:List V},(zj H D (.tup [.str (Yr e p),.ref E,R])) d=Ga (.tup xs)->(zj (zj H D (.tup [.str (Yr e p),.ref E,R])) v (Uv P w v ah)) d=Ga (.tup xs):=λb=>Ql b (Ys b D8.at_ nofun);have aY:∀{d:Gd}{xs:List V},(zj H D (.tup [.str (Yr e p),.ref E,R])) d=Ga (.lst xs)->(zj (zj H D (.tup [.str (Yr e p),.ref E,R])) v (Uv P w v ah)) d=Ga (.lst xs):=λb=>Ql b (Ys b D8.at_ nofun);have ag:Dg (jm e x o (λd=>∃h,L d=Ga h) (zj H D (.tup [.str (Yr e p),.ref E,R]))) B r:=Qr ap λ_ _ g=>{g.1,g.2.kp (λb=>O _ _ (M _ _ b)) (λb _=>O _ _ (M _ _ b))};have aW:∀q∈r,Zv (Yr e) (Zw e) x.zg q=Zv (Yr e) (Zw e) x.zg p->Vy e x o q=Vy e x o p:=λq G b=>by have hl:=aH.cong (af q G) pS b;simp only[Zv,Ek]at b;unfold Vy;rw[b.1,hl];congr 2;have:=congrArg (Fu o) b.2;rw[Dj,Dj]at this;exact this
   have aV:∃S:List Nat,S.length<=i+1/\Dg (jm e x o (λd=>∃h,L d=Ga h) (zj H D (.tup [.str (Yr e p),.ref E,R]))) ah S/\(S.map λp=>Zv (Yr e) (Zw e) x.zg p).Nodup/\(∀p∈S,p∈x.S)/\∀q∈x.S.take (i+1),∃p'∈S,Zv (Yr e) (Zw e) x.zg p'=Zv (Yr e) (Zw e) x.zg q:=by
    rw[<-aB];unfold Vo;by_cases U:(Yt B (Xp (Zv (Yr e) (Zw e) x.zg p))).isSome=Gi
    .rw[GV U];refine{r,by lia,UN aC aW ag,au,af,λq G=>?_};rw[TF,m]at G;rcases Gh.mp G with g|g
     .exact aj q g
     .have:q=p:=by simpa using g
      rw[this];exact(zp ag _).mp U
    .rw[Gs U];have az:∀q∈r,Zv (Yr e) (Zw e) x.zg q≠Zv (Yr e) (Zw e) x.zg p:=λq G b=>U ((zp ag _).mpr ⟨q,G,b⟩);refine{r++[p],by rw[Gk,Gy];lia,E2 ag ⟨Xb,aC⟩,?_,λq G=>?_,λq G=>?_}
     .rw[TY];refine DQ.mpr {au,by simp,λa ha d J=>?_};have(q,G,rfl):=Tw.mp ha;have:d=Zv (Yr e) (Zw e) x.zg p:=by simpa using J
      rw[this];exact az q G
     .rcases Gh.mp G with g|g
      .exact af q g
      .have:q=p:=by simpa using g
       rw[this];exact pS
     .rw[TF,m]at G;rcases Gh.mp G with g|g
      .obtain⟨p',h1,T⟩:=aj q g;exact{p',Gu _ h1,T}
      .have:q=p:=by simpa using g
       rw[this];exact{p,by simp,1}
   subst_vars;have(S,aP,aQ,aR,aT,aU):=aV;and_intros;exact{2,ah,1,{Qb,Zp (λd xs b=>aD b) (by rw[<-aB];exact D8.keys.put k8)},{S,aP,Qr aQ λ_ _ g=>{g.1,g.2.kp aD (λb _=>aY b)},aR,aT,aU},Ql (O _ _ am) nf,Ql (O _ _ (M _ _ ab)) fl,λd u b J=>Ql (O _ _ (M _ _ (ac d u b J))) (Qe (t2 _ _ b) an)}
 .rintro N I ⟨x2,x4,B,rfl,D5,⟨r,a4,ap,au,af,aj⟩,aM,ab,ac⟩;rw[V8,Tz]at aj;exists h,ab;have t6:Q9 L (zj I l.l (.dK (dS x.S λp=>jv (x.zg p)))):=λd u b=>by
   by_cases g:d=l.l
   .subst g;rw[Qb,<-b];exact X.le.symm
   .exact Ql (ac d u b g) g
  have ay:∀{d:Gd}{xs:List V},I d=Ga (.tup xs)->(zj I l.l (.dK (dS x.S λp=>jv (x.zg p)))) d=Ga (.tup xs):=λb=>Ql b (Ys b ab nofun);have aO:∀{d:Gd}{xs:List V},I d=Ga (.lst xs)->(zj I l.l (.dK (dS x.S λp=>jv (x.zg p)))) d=Ga (.lst xs):=λb=>Ql b (Ys b ab nofun);have D6:DH P w (zj I l.l (.dK (dS x.S λp=>jv (x.zg p)))) v B:={Ql D5.at_ (Ta fl),Zp (λd xs b=>ay b) D5.keys};have aw:Dg (jm e x o (λd=>∃h,L d=Ga h) (zj I l.l (.dK (dS x.S λp=>jv (x.zg p))))) B r:=Qr ap λ_ _ g=>{g.1,g.2.kp ay (λb _=>aO b)};generalize zj I l.l (.dK (dS x.S λp=>jv (x.zg p)))=H6 at t6 D6 aw;refine{0,{v,B,1,D6.at_},v,B,11,D6,λS aN=>?_};have s7:=Qf aN (vvw S v);have D7:DH P w (zj H6 S (vvw S v)) v B:={s7 _ _ D6.at_,Zp (Q7.of s7) D6.keys};refine{S,v,B,1,Qb,D7,λH hl=>?_};have s8:=Qf hl (.lst (B.map λp=>p.2.2));have ax:=s7.trans s8;refine q (.ref H) (r.map (Vy e x o)) _ (t6.trans ax) {H,0,Qb,(by rintro⟨h,eo⟩;rw[s7.free hl|>t6.free]at eo;cases eo),?_} {{o,aK,λp m=>?_,λE Q=>?_},?_}
  .have av:∀{M:Hp},Q9 H6 M->∀{B:List KE}{r:List Nat},Dg (jm e x o (λd=>∃h,L d=Ga h) H6) B r->Dg (Uz M (λd=>∃h,L d=Ga h)) (B.map λp=>p.2.2) (r.map (Vy e x o)):=λ{M}O{B r}g=>by
    induction g with
    |nil=>exact .nil
    |cons g t W=>exact .cons (g.2.kp (λb=>O _ _ b) (λb _=>O _ _ b)) W
   exact av ax aw
  .obtain⟨p',h1,T⟩:=aj p m;have hl:=aH.cong (af p' h1) m T;refine Tw.mpr {p',h1,?_};simp only[Zv,Ek]at T;unfold Vy;rw[T.1,hl];congr 2;have:=congrArg (Fu o) T.2;rw[Dj,Dj]at this;exact this
  .obtain⟨p,m,rfl⟩:=Tw.mp Q;exact{p,af p m,1}
  .rw[Dj];have:∀{r:List Nat},(∀p∈r,p∈x.S)->(r.map λp=>Zv (Yr e) (Zw e) x.zg p).Nodup->(r.map ((λE:Row=>(E.1,E.2.1))∘Vy e x o)).Nodup:=by
    intro r O nd;unfold IM at nd⊢;rw[RX]at nd⊢;refine CV (λ{a d}ha J g z=>g ?_) nd;simp only[CK,Vy,Ek]at z;simp only[Zv,Ek];exists z.1;have aS:=O a ha;have bS:=O d J;have aA:∀{H D:List Nat},(∀q∈H,q∈x.S)->(∀q∈D,q∈x.S)->H.map (λq=>o (x.zg q))=D.map (λq=>o (x.zg q))->H.map x.zg=D.map x.zg:=by
     intro H;induction H with
     |nil=>intro D _ _ b;cases D with
      |nil=>rfl
      |cons _ _=>simp at b
     |cons u H W=>
      intro D hl hm b;cases D with
      |nil=>simp at b
      |cons M D=>simp only[Tp,Db]at b⊢;exact{aK u (hl u Tc) M (hm M Tc) b.1,W (λq G=>hl q (Gr _ G)) (λq G=>hm q (Gr _ G)) b.2}
    exact aA (FO.pts a aS) (FO.pts d bS) z.2
   exact this af au
end
def Wu(fs:List Fm)(a:Lk):List (Nat×Nat):=match a.2.2 with
 |none=>(Zw fs a.1).zip (Zw fs a.2.1)
 |some _=>[]
inductive xc(P:Gn)(w:Tg)(C:Gd)(vs:List V)(H:Hp)(Q:VK):Prop
 |mk (n:Gd) (A:Na) (fs:List Fm) (tb:Nat) (x:Nn) (v:V) (lk:Lk) (h0:vs=[.ref n,v]) (h1:Yn P w C H n A fs tb x) (h2:On H v lk) (h3:lk.1<fs.length) (h4:lk.2.1<fs.length) (h5:∀(r:Gd)(es:List V)(H':Hp),Q9 H H'->H r=Gq->H' r=Ga (.lst es)->Dg (ox H') es (Wu fs lk)->Q (.ref r) H'):xc P w C vs H Q
def qZ(P:Gn)(w:Tg)(C:Gd):Sp:=λa H Q _=>xc P w C a H Q
structure Nd(fs:List Fm)(x:Nn)(one other:Nat)(ns:List Nat):Prop where
 lt:∀k∈ns,k<x.zt.length
 top:∀st,ip x.up one other st->∀p q,(p,q)∈st->∀k,x.Xt p q=Ga k->k∈ns
 low:∀k∈ns,∀lk,x.zt[k]?=Ga lk->∀p q,(p,q)∈Wu fs lk->∀st,ip x.up p q st->∀u v,(u,v)∈st->∀j,x.Xt u v=Ga j->j∈ns/\j<k
 only:∀k∈ns,∃st p q j,ip x.up one other st/\(p,q)∈st/\x.Xt p q=Ga j/\k<=j
inductive vt(P:Gn)(w:Tg)(C:Gd)(vs:List V)(H:Hp)(Q:VK):Prop
 |mk (n:Gd) (A:Na) (fs:List Fm) (tb:Nat) (x:Nn) (one:Nat) (other:Nat) (h0:vs=[.ref n,jv one,jv other]) (h1:Yn P w C H n A fs tb x) (h2:Wx (Yr fs) (Zw fs) x []) (h3:iM fs x.S) (h4:one∈x.S) (h5:other∈x.S) (h6:x.zg one=x.zg other) (h7:x.S.length<=1000) (h8:x.zt.length<64) (h9:∀(r:Gd)(ns:List Nat)(H':Hp),Q9 H H'->H r=Gq->H' r=Ga (.lst (ns.map jv))->ns.Nodup->ns.Pairwise (·<=·)->Nd fs x one other ns->Q (.ref r) H'):vt P w C vs H Q
def vf(P:Gn)(w:Tg)(C:Gd):Sp:=λa H Q _=>vt P w C a H Q
theorem uY{r:Option Ie}(h:kP H v r):decide (v=V.non)= !r.isSome:=by
 cases r with
 |none=>rw[show v=V.non from h];rfl
 |some r=>
  cases r with
  |told n=>have(c,rfl,_):=h;rfl
  |asked=>have(c,rfl,_):=h;rfl
theorem oe(I:Wx (Yr fs) (Zw fs) x []){d:Lk}(g:x.zt[k]?=Ga d)(c:(p,q)∈Wu fs d):p∈x.S/\q∈x.S/\Cn (x.zt.take k) p q:=by
 have(a,b,r):=d;have(e,f,h):=I.lnk k a b r g;cases r with
 |some r=>simp[Wu]at c
 |none=>simp only[Wu]at c;have(_,j,h):=h rfl;have(i,hi):=Dl.mp c;rw[LF]at hi;exact{I.pt_ a e p (Gc hi.1),I.pt_ b f q (Gc hi.2),h i p q hi.1 hi.2}
section
variable{P:Gn}{w:Tg}{K:Gf}{mg:TQ->Option Gj}{base:Heap}
theorem vD:Q8 ["net","link"] ["net","link"] (Qo sr):=by eq_refl
theorem VM(F:Wg K "pairs_below" "pairs_below" sr f fd)(d:Jj K mg C)(j:Ra mg):Q3 P w K mg base Ya 1 f fd ["net","link"] (qZ P w C):=by
 refine F.ok vD (λvs E H D h=>?_) (λab b ac s E vs H D hr h=>?_)
 .obtain⟨n,b,S,tb,x,aa,y,rfl,_⟩:=h;rfl
 have(n,b,S,tb,x,aa,y,rfl,X,(c,A,rfl,i,Z),u,v,q):=h;have nd:=vD.nd;exists _,Qc (Zb (Qp lW (Qn Qs {1} Qi) U7 (Qu _)) (Qg (Qt (Zt Qd))) Qw)
  (Qg (Qt (v8 rfl rfl j.list rfl j.zip (Qa (Qn Qs (Qn Zd (Qx {0} rfl) (Qn Qs {1} Qi)) Qi) (Qa (Qn Qs (Qn Zd (Qx {0} rfl) (Qn Qs {1} Qi)) Qi) Qd)))))
 exists 0,c,201,Qj i,jt _ _ _ _,10;rw[uY Z];have(a,I,B):=y;cases B with
 |some B=>refine Yp {Tu _,λp e=>?_};exact q p [] _ (Qf e _) e Qb .nil
 |none=>
  refine Q4 ?_;have(k,z):=X.ob;have(g,l,e):=X.fo;have m:a<g.length:=by rw[GQ e];exact u
  have o:I<g.length:=by rw[GQ e];exact v
  have(y1,r,J,M,O,T,V):=Qy e (Ge m);have(y2,t,L,N,Q,U,W):=Qy e (Ge o);rw[kK u]at r;rw[kK v]at t;cases r;cases t;exists 0,n,C,k,30,z,d.cl,d.Qe8,Jz _,0,c,201,Qj i,Ol _ _,b.f,g,301,Qk l,Zk (Ge m),J,32,O,1,Qj T,Rh _ _ _;exists 0,n,C,k,30,z,d.cl,d.Qe8,Jz _,0,c,201,Qj i,Rh _ _ _,b.f,g,301,Qk l,Zk (Ge o),L,32,Q,1,Qj U,Rh _ _ _;exact{M,N,30,.inr {Qj V,Qj W},λA R G sm r0 Y pr=>q A R G sm r0 Y (oV pr)}
theorem AR(Z:Jj K mg C){J:List V}{h:List (Nat×Nat)}{N0:List Nat}{R S g T U Y:Option V}{v:Ends}
  (X:Yn P w C H n A fs tb x)(g1:Q9 H H1)(d0:H d=Gq)(M:H1 d=Ga (.dK (dS N0 λ_=>V.bl Gi)))(hL:H1 L=Ga (.lst J))(ac:Dg (ox H1) J h)(N:∀p q,(p,q)∈h->∃k,x.Xt p q=Ga k/\k<m)(am:N0.Nodup)(o:m<=64)(hN:∀k∈N0,k<64)
  (q:∀b g f,b.Nodup->(∀k∈N0,k∈b)->(∀k∈b,k∈N0\/(k<m/\∃p q,(p,q)∈h/\x.Xt p q=Ga k))->(∀p q k,(p,q)∈h->x.Xt p q=Ga k->k∈b)->Of d H1 f->f d=Ga (.dK (dS b λ_=>V.bl Gi))->v.nx [Ga (.ref n),R,S,Ga (.ref d),g,T,U,Y] f):
  ∃W:Nat->Nat->St->Hp->Prop,(∃m,W 0 m [Ga (.ref n),R,S,Ga (.ref d),g,T,U,Y] H1)/\∀i m l H,W i m l H->
   ((iT K L).stop i H/\v.nx l H)\/((iT K L).go i H/\∃b:St->Hp->Prop,(∀s f,b s f->∃o,o<m/\W (i+1) o s f)/\∀x f,(iT K L).yld i H x f->Ui 4 x l f λB H2=>Kj (Ul 3) (mf (nQ K (Ul 0) "link_at") (Ul 4)) (tC (V.bl Gi)) {v with nx:=b,ct:=b,bk:=v.nx} B H2):=by
 have(dx,o1):=X.ob;have(ar,D,ap,ah):=X.at_;have Ld:L≠d:=Ys hL M nofun;let ao:Nat->St->Hp->Prop:=λi l H2=>kg λ(g:Option V)(b:List Nat)=>jC (l=[Ga (.ref n),R,S,Ga (.ref d),g,T,U,Y]) (b.Nodup) (∀k∈N0,k∈b) (∀k∈b,k∈N0\/(k<m/\∃p q,(p,q)∈h/\x.Xt p q=Ga k)) (∀p q k,(p,q)∈h.take i->x.Xt p q=Ga k->k∈b) (Of d H1 H2) (H2 d=Ga (.dK (dS b λ_=>V.bl Gi)))
 refine Yw (K:=K) (a:=L) (xs:=J) ao
  {g,N0,1,am,λ_ e=>e,λ_ e=>.inl e,by simp,Of.refl,M} (by rintro i l H2 _ ⟨_,_,_,_,_,_,_,aa,_⟩;exact Qk (aa _ _ hL Ld)) ?_ ?_
 .rintro i y l H2 hi ⟨g,b,rfl,t,F,u,G,r,I⟩;have((p,o),he,c,rfl,hc):=Qy ac hi;have ae:(p,o)∈h:=Gc he;have(k,O,ak):=N p o ae;have nd1:n≠d:=Qe o1 d0;have al:A.a≠d:=Qe D d0;have o2:=r _ _ (g1 _ _ o1) nd1;have ag:=r _ _ (g1 _ _ D) al;have ai:=r _ _ hc (Ys hc M nofun);have dg:Vu H2 A.a (.ref c) (Ga (jv k)):=by have:=Vu.t (k:=[ki p,ki o]) ag (show H2 c=Ga (.tup ([ki p,ki o].map kV))from ai);rw[ah p o,O]at this;exact this
  have aq:b.length<=64:=by have:b.length<=(ES 64).length:=Xy t λk N=>Sk.mpr ((u k N).elim (hN k) (λe=>by have:=e.1;ext));rwa[E8]at this
  have dp:=Oi.k (k:=ki k) (v:=V.bl Gi) I (by rw[V8,TJ];ext);exists 00,n,C,dx,30,o2,Z.cl,Z.Qde,qC _,0,A.a,0,dg,d,0,dp;have ab:Of d H1 (zj H2 d (.dK (V2 (dS b λ_=>V.bl Gi) (ki k) (V.bl Gi)))):=λc an af e=>Ql (r c an af e) e;have tk:∀{B:List Nat},(∀j∈b,j∈B)->k∈B->∀p q k,(p,q)∈h.take (i+1)->x.Xt p q=Ga k->k∈B:=λ{B}hs aj p' q' k' ad Q=>by
   rw[TF,he]at ad;rcases Gh.mp ad with e|e
   .exact hs _ (G p' q' k' e Q)
   .have:(p',q')=(p,o):=by simpa using e
    cases this;rw[O]at Q;cases Q;exact aj
  by_cases E:k∈b
  .exists _,b,1,t,F,u,tk (λ_ e=>e) E,ab;rw[Qb,oK E];congr 2;exact Vp λp _=>by split<;>rfl
  .exists _,b++[k],1,DQ.mpr {t,by simp,λa D aa hb=>by simp at hb;subst hb;exactλz=>E (z▸D)},λj s=>Gu _ (F j s),λj s=>?_,tk (λj s=>Gu _ s) (by simp),ab
   .rcases Gh.mp s with e|e
    .exact u j e
    .have:j=k:=by simpa using e
     rw[this];exact .inr ⟨ak,p,o,ae,O⟩
   .rw[Qb,jY E];congr 2;exact Vp λp _=>by split<;>rfl
 .rintro l H2 ⟨g,b,rfl,t,F,u,G,r,I⟩;rw[GQ ac,Tz]at G;exact q b g H2 t F u G r I
theorem xb:Q8 ["net","one","other","needed","step","number","part","twin"] ["net","one","other"] (Qo Og):=by eq_refl
theorem KQ(F:Wg K "links_needed" "links_needed" Og f fd)(L:Jj K mg C)(aq:Ra mg)(mW:Yq K C "way" fW)(GW:Q3 P w K mg base Ya 2 fW fdW ["self","one","other"] (oQ P w C))(bW:zk K fdW ["self","one","other"] [])
  (GB:Q3 P w K mg base Ya 1 fB fdB ["net","link"] (qZ P w C))(kB:KI K fB)(bB:zk K fdB ["net","link"] [])(mB:MG mg "pairs_below" fB):
  Q3 P w K mg base Ya 3 f fd ["net","one","other"] (vf P w C):=by
 refine F.ok xb (λS ah l h b=>?_) (λax T ay s ah S l h hr b=>?_)
 .obtain⟨n,T,G,tb,x,ak,al,rfl,_⟩:=b;rfl
 have(n,T,G,tb,x,ak,al,rfl,X,ab,FO,oS,tS,he,hS,a5,q):=b;have hu:=Jw hr;have aU:Yl 1 _:=hr.mono (by ext);have nd:=xb.nd;show∃t,W0 ?my _ t/\_;let w4:Xk ?my Og 3:={_,Qg (Qt (Qm (K5 Xb) rfl aq.sorted CY (Qa {3} Qd)))}
 let w3:Xk ?my Og 2:=⟨_,Qc (Yb Tj rfl (YB rfl aq.range (Qa (Zf Rm (Qm Zo rfl aq.len GX (Qa (Qx {0} rfl) Qd)) Qi) (Qa (Js Ud Qi) (Qa (Js Ud Qi) Qd)))) (Z5 5 nd)
   (Qg (Zb (Oy (si hu {5} {3}))
    (Qg (Yb Tj rfl (Yh (Za GB aU rfl mB kB bB .nil Q5 (Qa {0} (Qa (Qn Zd (Qx {0} rfl) {5}) Qd)))) (Uc rfl (Zr (Z5 6 nd) (Zr (Z5 7 nd) Wp)))
     (Qg (Yb Tj rfl (Yh (Zn {0} L.cl mW GW hr bW .nil Q5 (Qa {6} (Qa {7} Qd)))) (Z5 4 nd)
      (Qg (Vt hu {3} (Ye hu (Qx {0} rfl) {4} (λ_ _=>rfl)) Z9 Xb)))))) Qw))) w4.2⟩
 let w2:Xk ?my Og 1:=⟨_,Qc (Yb Tj rfl (Yh (Zn {0} L.cl mW GW hr bW .nil Q5 (Qa {1} (Qa {2} Qd)))) (Z5 4 nd)
   (Qg (Vt hu {3} (Ye hu (Qx {0} rfl) {4} (λ_ _=>rfl)) Z9 Xb))) w3.2⟩
 exists _,Qc (Qz 3 nd Jt) w2.2;intro d d0;have s1:=Qf d0 (.dK []);have(dx,o1):=X.ob;have(ls,aH,aI):=X.li;have aW:=GQ aI;have aV:∀p q k,x.Xt p q=Ga k->k<x.zt.length:=λp q k b=>by obtain⟨Q,b|b⟩:=ab.fst.Qib p q k b<;>exact(Gg.mp b).1
 refine{0,n,dx,0,s1 _ _ o1,oZ _,00,n,T,G,tb,x,ak,al,1,X.same s1,ab,oS,tS,he,hS,λaR es v H2 g2 L0 hL aT W=>{aR,1,{_,Qk hL},?_}};refine AR L X (s1.trans g2) d0 (N0:=[]) (g2 _ _ Qb) hL aT (m:=x.zt.length) (λp q b=>?_) SV (by ext) (λk e=>nomatch e) λg J H3 Y i1 i2 i3 bt e3=>?_
 .obtain⟨k,r,o⟩:=W.lk p q b;exact{k,r,aV _ _ _ r}
 have g3:Q9 ah H3:=λD ar A=>bt _ _ (g2 _ _ (s1 _ _ A)) (Qe A d0);exists 0,n,C,dx,30,g3 _ _ o1,L.cl,L.zt,J1 _,T.k,0,.inl (Qk (g3 _ _ aH)),30100,x.zt.length,by rw[aW],(by ext);let aX:Nat->St->Hp->Prop:=λi R H4=>iK λ(J x5 x6 x7:Option V)(g:List Nat)=>ir (R=[Ga (.ref n),Ga (jv ak),Ga (jv al),Ga (.ref d),J,x5,x6,x7]) (Q9 ah H4) (H4 d=Ga (.dK (dS g λ_=>V.bl Gi))) (g.Nodup) (∀k∈g,k<x.zt.length) (∀p q k,(p,q)∈v->x.Xt p q=Ga k->k∈g) (∀k∈g,∃p q j,(p,q)∈v/\x.Xt p q=Ga j/\k<=j) (∀k∈g,x.zt.length - i<=k->∀B,x.zt[k]?=Ga B->∀p q,(p,q)∈Wu G B->∀v,ip x.up p q v->∀u m,(u,m)∈v->∀j,x.Xt u m=Ga j->j∈g/\j<k)
 refine Qvl aX
  {22,g,1,g3,e3,Y,λk e=>(i2 k e).elim nofun (·.1),i3,λk e=>(i2 k e).elim nofun (by rintro⟨_,p,q,r,o⟩;exact{p,q,k,r,o,GJ _}),λk e b=>?_} ?_ ?_
 .have:=(i2 k e).elim nofun (·.1);ext
 .rintro i R H4 hi ⟨J,x5,x6,x7,g,rfl,E,U,Y,ac,aj,ae,ai⟩;have aQ:((x.zt.length:Int) - 1 - (i:Int))=((x.zt.length - 1 - i:Nat):Int):=by ext
  rw[aQ];generalize a4:x.zt.length - 1 - i=h;have kl:h<x.zt.length:=by ext
  have dg:Vu H4 d (jv h) (Xq (dS g λ_=>V.bl Gi) (ki h)):=Vu.k (k:=ki h) U;exists 00,d,0,dg,0;rw[AO];by_cases af:h∈g
  .rw[Ti af];refine Yp ?_;have aw:h<ls.length:=by ext
   subst_vars;have(B,ad,aM):=Qy aI (Ge aw);have aN:=aM.Qv (Q7.of E);have(a,D,rs):=B;have(aS,bS,_):=ab.lnk h a D rs ad;and_intros;refine{00,n,C,dx,30,E _ _ o1,L.cl,L.zt,J1 _,0,T.k,ls,301,Qk (E _ _ aH),Zk (Ge aw),n,T,G,tb,x,_,(a,D,rs),1,X.same E,aN,FO.lt a aS,FO.lt D bS,λL5 aL H5 g5 aJ au av=>{L5,1,{_,Qk au},?_}};have aK:L5≠d:=Ta (Qe U aJ);have aO:∀{l:List Nat}{i':Nat},(∀k∈g,k∈l)->(∀k∈l,k∈g\/k<h)->(∀p q,(p,q)∈Wu G (a,D,rs)->∀v,ip x.up p q v->∀u m,(u,m)∈v->∀j,x.Xt u m=Ga j->j∈l/\j<h)->
     ∀k∈l,x.zt.length - (i+1)<=k->∀B,x.zt[k]?=Ga B->∀p q,(p,q)∈Wu G B->∀v,ip x.up p q v->∀u m,(u,m)∈v->∀j,x.Xt u m=Ga j->j∈l/\j<k:=λ{l i'}a1 a2 a3 k e b B am p q H Z I u m N j M=>by
    rcases Dh k (x.zt.length - i)with o|o
    .have:k=h:=by ext
     subst this;rw[ad]at am;cases am;exact a3 p q H Z I u m N j M
    .have ag:k∈g:=(a2 k e).elim id λz=>by ext
     have(b1,b2):=ai k ag o B am p q H Z I u m N j M;exact{a1 _ b1,b2}
   let aP:Nat->St->Hp->Prop:=λi5 R S=>iC λ(J x6 x7:Option V)(l:List Nat)=>jC (R=[Ga (.ref n),Ga (jv ak),Ga (jv al),Ga (.ref d),J,Ga (jv h),x6,x7]) (Of d H5 S) (S d=Ga (.dK (dS l λ_=>V.bl Gi))) (l.Nodup) (∀k∈g,k∈l) (∀k∈l,k∈g\/k<h) (∀p q,(p,q)∈(Wu G (a,D,rs)).take i5->∀v,ip x.up p q v->∀u m,(u,m)∈v->∀j,x.Xt u m=Ga j->j∈l/\j<h)
   refine Yw (K:=K) (a:=L5) (xs:=aL) aP
    {32,g,1,Of.refl,g5 _ _ U,Y,λ_ b=>b,λ_ b=>.inl b,by simp} (by rintro i5 R S _ ⟨_,_,_,_,_,bt,_⟩;exact Qk (bt _ _ au aK)) ?_ ?_
   .rintro i5 y R S aD ⟨J,x6,x7,l,rfl,aa,e6,an,sub,only,done⟩;subst_vars;have((p,Q),ap,c,rfl,hc):=Qy av aD;have aF:(p,Q)∈Wu G (a,D,rs):=Gc ap;have(pS,rS,cn):=oe ab ad aF;and_intros;have g6:Q9 ah S:=λD ar A=>aa _ _ (g5 _ _ (E _ _ A)) (Qe A d0);have aE:x.zg p=x.zg Q:=(ab.conn p pS Q rS).mpr (cn.mono λz hz=>Dq hz);have c6:=aa _ _ hc (Ys hc (g5 _ _ U) nofun);exists c,0,Qj c6,130301;refine{0,n,dx,0,g6 _ _ o1,oZ _,00,n,T,G,tb,x,p,Q,1,X.same g6,ab,pS,rS,aE,hS,λL7 aZ a0 H7 g7 aY ao aC W7=>{L7,1,{_,Qk ao},?_}};refine AR L X (g6.trans g7) d0 (N0:=l) (g7 _ _ e6) ao aC (m:=h) (λp q b=>?_) an (by ext) (λk e=>?_) λN8 J H8 aG i1 i2 i3 aB e8=>?_
    .obtain⟨k,r,o⟩:=W7.lk p q b;exact{k,r,o h cn}
    .rcases only k e with b|b
     .have:=ac k b;ext
     .ext
    .refine{32,N8,1,λD ar A b=>aB _ _ (g7 _ _ (aa _ _ A b)) b,e8,aG,λk e=>i1 k (sub k e),λk e=>(i2 k e).elim (only k) (λb=>.inr b.1),λp' O H Z I u m N j M=>?_};rw[TF,ap]at H;rcases Gh.mp H with b|b
     .obtain⟨b1,b2⟩:=done p' O b Z I u m N j M;exact{i1 _ b1,b2}
     .have:(p',O)=(p,Q):=by simpa using b
      cases this;have:=I.uniq W7.rel;subst this;have(k,r,o):=W7.lk u m N;rw[M]at r;cases r;exact{i3 u m j N M,o h cn}
   .rintro R S ⟨J,x6,x7,l,rfl,aa,e6,an,sub,only,done⟩;rw[GQ av,Tz]at done;exact{22,l,1,λD ar A=>aa _ _ (g5 _ _ (E _ _ A)) (Qe A d0),e6,an,λk e=>(only k e).elim (ac k) (λb=>by ext),λp q k r o=>sub _ (aj p q k r o),λk e=>(only k e).elim (ae k) (λb=>by have(p,q,j,r,o,h3):=ae h af;exact{p,q,j,r,o,by ext}),aO (i':=0) sub only done}
  .rw[Td af];refine Q4 {22,g,1,E,U,Y,ac,aj,ae,λk e b=>?_};rcases Dh k (x.zt.length - i)with o|o
   .have:k=h:=by ext
    exact absurd (this▸e) af
   .exact ai k e o
 .rintro R H4 ⟨J,x5,x6,x7,g,rfl,E,U,Y,ac,aj,ae,ai⟩;have aA:g.length<64:=by have:g.length<=(ES x.zt.length).length:=Xy Y λk e=>Sk.mpr (ac k e);rw[E8]at this;ext
  refine{0,d,_,g.map (λk:Nat=>(k:Int)),1,U,?_,by rw[V8];exact aA,λQ h r0 S hs=>?_}
  .unfold dS;rw[Dj,Dj];rfl
  have az:h=(h.map E9).map (λk:Nat=>(k:Int)):=by rw[Dj];refine(Fq h).symm.trans (TX λz hz=>?_);have:=S.mem_iff.mp hz;have(k,_,rfl):=Tw.mp this;rfl
  have l:(h.map E9).Perm g:=by
   have:=S.map E9;rw[Dj]at this;have A:(g.map (E9∘λk:Nat=>(k:Int)))=g:=by refine(TX λk _=>?_).trans (Fq g);rfl
   rwa[A]at this
  have eo:HO.lst (h.map V.int)=HO.lst ((h.map E9).map jv):=by
   congr 1
   conv=>lhs;rw[az]
   rw[Dj];rfl
  have pw:(h.map E9).Pairwise (·<=·):=by rw[RX];exact hs.imp λb=>by ext
  rw[eo];refine q Q (h.map E9) _ (E.trans (Qf r0 _)) (E.free r0) Qb (l.nodup_iff.mpr Y) pw {λk e=>ac k (l.mem_iff.mp e),λZ I p O H k e=>?_,λk e B ad p O H Z I u m N j M=>?_,λk e=>?_}
  .have:=I.uniq W.rel;subst this;exact l.mem_iff.mpr (aj p O k H e)
  .obtain⟨b1,b2⟩:=ai k (l.mem_iff.mp e) (by ext) B ad p O H Z I u m N j M;exact{l.mem_iff.mpr b1,b2}
  .subst_vars;have(p,O,j,r,o,h3):=ae k (l.mem_iff.mp e);and_intros;exact{v,p,O,j,W.rel,r,o,h3}
end
inductive Lr where
 |told (n:Nat)
 |asked
 |turn (k:Nat)
 |chain (ks:List Nat)
 |like (ks:List Nat)
abbrev Ln:=Nat×Nat×Lr
variable{ls:List Ln}
def nJ(a:List Ln):Nat->List Nat->Nat->Prop
 |p,[],q=>p=q
 |p,k::b,q=>∃m r,a[k]?=Ga (p,m,r)/\nJ a m b q
def js(fs:List Fm)(d:List Lk)(c:List Ln)(a b:Nat):Lr->Prop
 |.told n=>(a,b,Ga (.told n))∈d
 |.asked=>(a,b,Ga .asked)∈d
 |.turn k=>∃r,c[k]?=Ga (b,a,r)
 |.chain e=>nJ c a e b
 |.like e=>Yr fs a=Yr fs b/\(Zw fs a).length=(Zw fs b).length/\e.length=(Zw fs a).length/\∀j k p q:Nat,e[j]?=Ga k->(Zw fs a)[j]?=Ga p->(Zw fs b)[j]?=Ga q->∃r,c[k]?=Ga (p,q,r)
def iZ(fs:List Fm)(c:List Lk)(ls:List Ln):Prop:=∀(i a b:Nat)r,ls[i]?=Ga (a,b,r)->js fs c (ls.take i) a b r
theorem iZ.nil:iZ fs lks []:=λi a b r h=>by simp at h
theorem iZ.snoc{r:Lr}(g:iZ fs lks ls)(h:js fs lks ls a b r):iZ fs lks (ls++[(a,b,r)]):=λi e f j hi=>by
 rcases Dh i ls.length with c|c
 .rw[Tt c]at hi;rw[E4 (by lia)];exact g i e f j hi
 .rw[TR c]at hi;have:i=ls.length:=by
   rcases Dh (i - ls.length) 1 with d|d
   .lia
   .rw[Df (by simpa using d)]at hi;cases hi
  subst this;simp at hi;have(rfl,rfl,rfl):=hi;rw[List.take_left];exact h
def Ro(H:Hp)(X:Gd->Prop)(v:V):Lr->Prop
 |.told n=>∃c,v=.ref c/\H c=Ga (.tup [.str "told",jv n])
 |.asked=>∃c,v=.ref c/\H c=Ga (.tup [.str "asked"])
 |.turn k=>∃c,v=.ref c/\H c=Ga (.tup [.str "turn",jv k])
 |.chain a=>∃c l,v=.ref c/\H c=Ga (.tup [.str "chain",.ref l])/\H l=Ga (.lst (a.map jv))/\¬X l/\a.length<=1000000
 |.like a=>∃c l,v=.ref c/\H c=Ga (.tup [.str "like",.ref l])/\H l=Ga (.lst (a.map jv))/\¬X l/\a.length<=1000000
inductive iY(H:Hp)(X:Gd->Prop)(us:List V)(v:V)(l:Ln):Prop
 |mk (c:_) (v1:_) (v2:_) (rv:_) (h0:v=.ref c) (h1:H c=Ga (.tup [v1,v2,rv])) (h2:us[l.1]?=Ga v1) (h3:us[l.2.1]?=Ga v2) (h4:Ro H X rv l.2.2):iY H X us v l
structure Rb(L M:Gd)(H H':Hp):Prop where
 keep:∀b o,H b=Ga o->b≠L->b≠M->H' b=Ga o
 there:∀b,H' b=Gq->H b=Gq
theorem Rb.refl:Rb L M H H:={λ_ _ e _ _=>e,λ_ h=>h}
theorem Rb.trans{d:Hp}(a:Rb L M H H1)(b:Rb L M H1 d):Rb L M H d:={λc o e f g=>b.keep c o (a.keep c o e f g) f g,λc h=>a.there c (b.there c h)}
theorem Rb.of(g:Q9 H H1):Rb L M H H1:={λc o e _ _=>g c o e,λc h=>g.free h}
theorem Ro.kp(e:∀{c:Gd}{f:List V},H c=Ga (.tup f)->H' c=Ga (.tup f))(j:∀{c:Gd}{f:List V},H c=Ga (.lst f)->¬X c->H' c=Ga (.lst f)):∀{r:Lr},Ro H X v r->Ro H' X v r:=by
 intro r h;cases r with
 |told n=>have(c,a,b):=h;exact{c,a,e b}
 |asked=>have(c,a,b):=h;exact{c,a,e b}
 |turn k=>have(c,a,b):=h;exact{c,a,e b}
 |chain m=>have(c,l,a,b,g,d,i):=h;exact{c,l,a,e b,j g d,d,i}
 |like m=>have(c,l,a,b,g,d,i):=h;exact{c,l,a,e b,j g d,d,i}
theorem iY.kp{X:Gd->Prop}{H b:Hp}(d:∀{c:Gd}{a:List V},H c=Ga (.tup a)->b c=Ga (.tup a))(m:∀{c:Gd}{a:List V},H c=Ga (.lst a)->¬X c->b c=Ga (.lst a)){e:List V}{v:V}{l:Ln}(h:iY H X e v l):iY b X e v l:=by have(c,o,p,n,f,g,i,j,k):=h;exact{c,o,p,n,f,d g,i,j,k.kp d m}
theorem Ro.ex{Y:Gd->Prop}(g:∀c a,H c=Ga (.lst a)->¬X c->¬Y c):∀{r:Lr},Ro H X v r->Ro H Y v r:=by
 intro r h;cases r with
 |told n=>exact h
 |asked=>exact h
 |turn k=>exact h
 |chain i=>have(c,l,b,d,a,e,f):=h;exact{c,l,b,d,a,g _ _ a e,f}
 |like i=>have(c,l,b,d,a,e,f):=h;exact{c,l,b,d,a,g _ _ a e,f}
theorem iY.ex{X Y:Gd->Prop}{H:Hp}(i:∀c b,H c=Ga (.lst b)->¬X c->¬Y c){a:List V}{v:V}{l:Ln}(h:iY H X a v l):iY H Y a v l:=by have(c,k,m,j,b,d,e,f,g):=h;exact{c,k,m,j,b,d,e,f,g.ex i}
structure Sv where
 sh:Gd
 n:Gd
 t:Gd
 L:Gd
 M:Gd
 A:Na
 fs:List Fm
 tb:Nat
 x:Nn
 us:List V
 H0:Hp
 Ex:Gd->Prop
noncomputable def jr(v:Sv):List (TQ×V):=[("things",.ref v.t),("net",.ref v.n),("lines",.ref v.L),("numbers",.ref v.M)]
structure Vv(P:Gn)(w:Tg)(C D:Gd)(v:Sv)(H:Hp)(ls:List Ln)(N:Nat->Nat->Option Nat):Prop where
 ob:∃dx,H v.sh=Ga (.ins D dx (jr v))
 sam:Q9 v.H0 H
 L0:v.H0 v.L=Gq
 M0:v.H0 v.M=Gq
 net:Yn P w C v.H0 v.n v.A v.fs v.tb v.x
 th:v.H0 v.t=Ga (.lst v.us)
 li:∃vs,H v.L=Ga (.lst vs)/\Dg (iY H v.Ex v.us) vs ls
 nu:∃zw,H v.M=Ga (.dT zw)/\zw.length<=ls.length/\∀i j:Nat,Xq zw [ki i,ki j]=(N i j).map jv
 ok:∀i j k,N i j=Ga k->∃r,ls[k]?=Ga (i,j,r)
 good:iZ v.fs v.x.zt ls
 exL:v.Ex v.L
 exA:∀b,v.Ex b->∃o,H b=Ga o
theorem Rb.tp{a:List (List Wi×V)}{f:List V}(F:Rb L M H H')(d:H M=Ga (.dT a))(b:H L=Ga (.lst f)){c:Gd}(e:H c=Ga (.tup ys)):H' c=Ga (.tup ys):=F.keep _ _ e (Ys e b nofun) (Ys e d nofun)
theorem Rb.lp{a:List (List Wi×V)}(F:Rb L M H H')(d:H M=Ga (.dT a))(b:X L){c:Gd}(e:H c=Ga (.lst ys))(h:¬X c):H' c=Ga (.lst ys):=F.keep _ _ e (λz=>h (z▸b)) (Ys e d nofun)
theorem Vv.fr{v:Sv}(S:Vv P w C D v H ls N)(g:Q9 H H'):Vv P w C D v H' ls N:=by have(c,j):=S.ob;have(k,f,i):=S.li;have(a,n1,n2,n3):=S.nu;exact{{c,g _ _ j},S.sam.trans g,S.L0,S.M0,S.net,S.th,{k,g _ _ f,Qr i λ_ _ h=>h.kp (λe=>g _ _ e) (λe _=>g _ _ e)},{a,g _ _ n1,n2,n3},S.ok,S.good,S.exL,λb d=>let⟨o,e⟩:=S.exA b d;{o,g _ _ e}}
theorem Vv.more{v:Sv}(S:Vv P w C D v H ls N)(g:H r=Gq):Vv P w C D {v with Ex:=λb=>v.Ex b\/b=r} (zj H r (.lst [])) ls N:=by
 have a:=S.fr (Qf g (.lst []));have(n,k,l):=S.li;have(i,d,m):=a.li;have:i=n:=by rw[Qf g (.lst []) _ _ k]at d;cases d;rfl
 subst this;refine{a.ob,a.sam,a.L0,a.M0,a.net,a.th,{i,d,Qr l λ_ _ h=>(h.ex (Y:=λb=>v.Ex b\/b=r) λc o e j z=>?_).kp (λe=>Qf g _ _ _ e) (λe _=>Qf g _ _ _ e)},a.nu,a.ok,a.good,.inl a.exL,λb f=>?_}
 .rcases z with z|z
  .exact j z
  .rw[z,g]at e;cases e
 .rcases f with f|f
  .exact a.exA b f
  .exact{_,by rw[f];exact Qb}
theorem Vv.less{v:Sv}(S:Vv P w C D {v with Ex:=λb=>v.Ex b\/b=r} H ls N)(a:v.Ex v.L):Vv P w C D v H ls N:=by have(j,g,i):=S.li;exact{S.ob,S.sam,S.L0,S.M0,S.net,S.th,{j,g,Qr i λ_ _ h=>h.ex λc k e f z=>f (.inl z)},S.nu,S.ok,S.good,a,λb d=>S.exA b (.inl d)}
theorem Vv.grow{v:Sv}{s:List V}(S:Vv P w C D v H ls N)(m:v.Ex r)(c:H r=Ga (.lst ys))(j:r≠v.L)(i:v.H0 r=Gq):Vv P w C D v (zj H r (.lst s)) ls N:=by
 have(g,f):=S.ob;have(q,n,p):=S.li;have(d,n1,n2,n3):=S.nu;refine{{g,Ql f (Ys f c nofun)},λb o e=>Ql (S.sam _ _ e) (Qe e i),S.L0,S.M0,S.net,S.th,{q,Ql n (Ta j),Qr p λ_ _ h=>h.kp (λe=>Ql e (Ys e c nofun)) (λe l=>Ql e (λz=>l (z▸m)))},{d,Ql n1 (Ys n1 c nofun),n2,n3},S.ok,S.good,S.exL,λb k=>?_};by_cases a:b=r
 .exact{_,by rw[a];exact Qb}
 .obtain⟨o,e⟩:=S.exA b k;exact{o,Ql e a}
theorem Vv.same{v:Sv}(S:Vv P w C D v H ls N)(F:Rb v.L v.M H H'):Q9 v.H0 H':=λb o e=>F.keep b o (S.sam b o e) (Qe e S.L0) (Qe e S.M0)
def putN(N:Nat->Nat->Option Nat)(a b m:Nat):Nat->Nat->Option Nat:=λi j=>if i=a/\j=b then Ga m else N i j
structure jS(K:Gf)(D:Gd):Prop where
 cl:ic K D
 things:Xf K D "things"
 net:Xf K D "net"
 lines:Xf K D "lines"
 Iy:Xf K D "numbers"
theorem Ke(v:Sv):(jr v).lookup ("things":TQ)=Ga (.ref v.t):=by rfl
theorem Kw(v:Sv):(jr v).lookup ("net":TQ)=Ga (.ref v.n):=by rfl
theorem qk(v:Sv):(jr v).lookup ("lines":TQ)=Ga (.ref v.L):=by rfl
theorem V0(v:Sv):(jr v).lookup ("numbers":TQ)=Ga (.ref v.M):=by rfl
theorem pz(v:Sv):(jr v).lookup ("write":TQ)=Gq:=by rfl
theorem Qih(v:Sv):(jr v).lookup ("write_link":TQ)=Gq:=by rfl
theorem O1(v:Sv):(jr v).lookup ("line_for":TQ)=Gq:=by rfl
inductive vO(P:Gn)(w:Tg)(C:Gd)(D:Gd)(vs:List V)(H:Hp)(Q:VK):Prop
 |mk (v:Sv) (ls:List Ln) (N:Nat->Nat->Option Nat) (a:Nat) (b:Nat) (rv:V) (r:Lr) (h0:vs=[.ref v.sh,jv a,jv b,rv]) (h1:Vv P w C D v H ls N) (h2:a<v.us.length) (h3:b<v.us.length) (h4:Ro H v.Ex rv r) (h5:js v.fs v.x.zt ls a b r) (h6:ls.length<=1000000) (h7:∀H',Vv P w C D v H' (ls++[(a,b,r)]) (putN N a b ls.length)->Rb v.L v.M H H'->Q .non H'):vO P w C D vs H Q
def qD(P:Gn)(w:Tg)(C D:Gd):Sp:=λa H Q _=>vO P w C D a H Q
section
variable{P:Gn}{w:Tg}{K:Gf}{mg:TQ->Option Gj}{base:Heap}
theorem SC:Q8 ["self","one","other","reason"] ["self","one","other","reason"] (Qo rm):=by eq_refl
theorem ON(F:Wg K "write" "Showing.write" rm f fd)(g:jS K D)(X:Ra mg):Q3 P w K mg base Ya 1 f fd ["self","one","other","reason"] (qD P w C D):=by
 refine F.ok SC (λh l aa Y b=>?_) (λah af aj s l h aa Y hr b=>?_)
 .obtain⟨v,ls,Z,a,d,A,R,rfl,_⟩:=b;rfl
 have(v,ls,Z,a,d,A,R,rfl,S,al,bl,ae,Yc,ai,q):=b;have hu:=Jw hr;exists _,Qc (Vt hu (Qx {0} rfl) (Ze (Qa {1} (Qa {2} Qd))) (Qm Zo rfl X.len GX (Qa (Qx {0} rfl) Qd)) rfl)
  (Qg (Zl (X6 Te Tx TC Z4 (Qx {0} rfl) (Qa (Ze (Qa (Qn Zd (Qx {0} rfl) {1}) (Qa (Qn Zd (Qx {0} rfl) {2}) (Qa {3} Qd)))) Qd))))
 subst_vars;have(m,p):=S.ob;have(h,o,O):=S.li;have(I,n1,n2,n3):=S.nu;and_intros;have ad:=GQ O;refine{0,v.sh,D,m,30,p,g.cl,g.lines,qk _,v.L,h,1,.inl (Qk o),0,v.sh,D,m,30,p,g.cl,g.Iy,V0 _,00,Yy,λc hc=>?_};have L:=Qf hc (.tup [jv a,jv d]);have dp:=Oi.t (k:=[ki a,ki d]) (v:=.int (h.length:Int)) (L _ _ n1) (show(zj l c (.tup [jv a,jv d])) c=Ga (.tup ([ki a,ki d].map kV))from Qb) (by rw[TJ];lia);exists v.M,0,dp;have M:v.L≠v.M:=Ys o n1 nofun;have Q:v.sh≠v.M:=Ys p n1 nofun;have oL:v.sh≠v.L:=Ys p o nofun;generalize G:zj (zj l c (.tup [jv a,jv d])) v.M (.dT (V2 I [ki a,ki d] (.int (h.length:Int))))=u;have x:∀{e y},l e=Ga y->e≠v.M->u e=Ga y:=λn b=>by rw[<-G];exact Ql (L _ _ n) b
 have t2:∀{e},u e=Gq->l e=Gq:=λ{e}b=>by rw[<-G]at b;exact L.free (Yi b)
 have M2:u v.M=Ga (.dT (V2 I [ki a,ki d] (.int (h.length:Int)))):=by rw[<-G];exact Qb
 have J:=x p Q;have E:=x o M;have T:l v.t=Ga (.lst v.us):=S.sam _ _ S.th;have U:=x T (Ys T n1 nofun);have V:v.us[a]?=Ga v.us[a]:=Ge al;have W:v.us[d]?=Ga v.us[d]:=Ge bl;refine{0,v.sh,D,m,30,J,g.cl,g.lines,qk _,.inl {13,Qk E},0,v.sh,D,m,30,J,g.cl,g.things,Ke _,0,v.t,v.us,301,Qk U,Zk V,0,v.sh,D,m,30,J,g.cl,g.things,Ke _,0,v.t,v.us,301,Qk U,Zk W,0,Vm,λr H=>?_};have B:=Qf H (.tup [v.us[a],v.us[d],A]);have ab:r≠v.L:=Ta (Qe E H);have ag:r≠v.M:=Ta (Qe M2 H);exists v.L,h,01,B _ _ E,(by rw[TJ];lia);have F:Rb v.L v.M l (zj (zj u r (.tup [v.us[a],v.us[d],A])) v.L (.lst (h++[.ref r]))):={λe y n h1 h2=>Ql (B _ _ (x n h2)) h1,λe b=>t2 (B.free (Yi b))};refine q _ {{m,F.keep _ _ p oL Q},S.same F,S.L0,S.M0,S.net,S.th,{_,Qb,E2 (Qr O λ_ _ b=>b.kp (F.tp n1 o) (F.lp n1 S.exL)) {r,v.us[a],v.us[d],A,1,Ql Qb ab,V,W,ae.kp (F.tp n1 o) (F.lp n1 S.exL)}},{_,Ql (B _ _ M2) (Ta M),?_,λi j=>?_},λi j k t=>?_,S.good.snoc Yc,S.exL,λe ac=>?_} F
 .have:=Va I [ki a,ki d] (.int (h.length:Int));rw[Gk,Gy];lia
 .rw[qu,n3];unfold putN;by_cases b:i=a/\j=d
  .obtain⟨rfl,rfl⟩:=b;rw[GV Xb,GV ⟨Xb,Xb⟩,ad];rfl
  .rw[Gs b,Gs];intro z;simp only[Db,BO]at z;exact b {Ip z.1,Ip z.2}
 .unfold putN at t;by_cases b:i=a/\j=d
  .rw[GV b]at t;cases t;have(rfl,rfl):=b;exact{R,by simp}
  .rw[Gs b]at t;have(r',N):=S.ok i j k t;exact{r',by rw[Tt (Gg.mp N).1];exact N}
 .obtain⟨y,n⟩:=S.exA e ac;exact Mf.mp λz=>by rw[F.there e z]at n;cases n
end
def Dr(N:Nat->Nat->Option Nat)(a b:Nat):Prop:=(N a b).isSome=Gi\/(N b a).isSome=Gi
def iL(N a:Nat->Nat->Option Nat):Prop:=∀i j,(N i j).isSome=Gi->(a i j).isSome=Gi
def hP(v:Sv)(N:Nat->Nat->Option Nat)(m:Nat):Prop:=∀i j,(N i j).isSome=Gi->Cn (v.x.zt.take m) i j
theorem Dr.sub{c:Nat->Nat->Option Nat}(h:Dr N a b)(s:iL N c):Dr c a b:=h.elim (λh=>.inl (s _ _ h)) λh=>.inr (s _ _ h)
theorem Aq:iL N (putN N a b m):=λi j h=>by
 unfold putN;split
 .rfl
 .exact h
theorem AV{v:Sv}(h:hP v N m)(c:Cn (v.x.zt.take m) a b):hP v (putN N a b k) m:=λi j z=>by
 unfold putN at z;split at z
 .rename_i e
  rw[e.1,e.2];exact c
 .exact h i j z
theorem pL:putN N a b m a b=Ga m:=GV ⟨Xb,Xb⟩
structure Go(v:Sv)(N:Nat->Nat->Option Nat)(a b:Nat):Prop where
 inv:Wx (Yr v.fs) (Zw v.fs) v.x []
 aS:a∈v.x.S
 bS:b∈v.x.S
 eq:v.x.zg a=v.x.zg b
 hS:v.x.S.length<=1000
 st:∀st,ip v.x.up a b st->∀p q,(p,q)∈st->Dr N p q
inductive xo(P:Gn)(w:Tg)(C:Gd)(D:Gd)(g:Bool)(vs:List V)(H:Hp)(Q:VK):Prop
 |mk (v:Sv) (ls:List Ln) (N:Nat->Nat->Option Nat) (a:Nat) (b:Nat) (h0:vs=[.ref v.sh,jv a,jv b]) (h1:Vv P w C D v H ls N) (h2:a<v.us.length) (h3:b<v.us.length) (h4:(∀p∈v.x.S,p<v.us.length)) (h5:(Dr N a b\/(g=Gi/\Go v N a b))) (h6:ls.length+(if g=Gi then 3000 else 0)<=900000) (h7:∀(k:Nat)(more:List Ln)(N':Nat->Nat->Option Nat)(H':Hp),Vv P w C D v H' (ls++more) N'->Rb v.L v.M H H'->N' a b=Ga k->iL N N'->more.length<=2*v.x.S.length+1->(∀m,hP v N m->Cn (v.x.zt.take m) a b->hP v N' m)->(N a b=Gq->∃r,(ls++more).getLast?=Ga (a,b,r))->(g=Gx->more.length<=1)->(N a b≠Gq->more=[])->Q (jv k) H'):xo P w C D g vs H Q
def l8(P:Gn)(w:Tg)(C D:Gd)(g:Bool):Sp:=λa H Q _=>xo P w C D g a H Q
def pE(P:Gn)(w:Tg)(C D:Gd):Bool->Sp
 |true=>l8 P w C D Gx
 |false=>λ_ _ _ _=>False
theorem uK{c:List Ln}:∀{b:List (Nat×Nat)}{a:List Nat}{p q:Nat},kU p b q->a.length=b.length->(∀j k u v:Nat,a[j]?=Ga k->b[j]?=Ga (u,v)->∃r,c[k]?=Ga (u,v,r))->nJ c p a q
 |[],[],p,q,h,_,_=>by cases h;rfl
 |[],_::_,_,_,_,h,_=>by simp at h
 |_::_,[],_,_,_,h,_=>by simp at h
 |_::b,k::a,p,q,.cons t,h,f=>by have(r,g):=f 0 k _ _ rfl rfl;exact{_,r,g,uK t (by simpa using h) λj i u v d e=>f (j+1) i u v d e}
theorem yG{a:List Ln}{l:Ln}(h:ls[k]?=Ga l):(ls++a)[k]?=Ga l:=by rw[Tt (Gg.mp h).1];exact h
section
variable{P:Gn}{w:Tg}{K:Gf}{mg:TQ->Option Gj}{base:Heap}
theorem wx:Q8 ["self","one","other","reason"] ["self","one","other"] (Qo oD):=by eq_refl
theorem uB:(["start","end","self"]:List TQ).Nodup:=by decide+kernel
theorem yF{g:Bool}(h:2<=k)(F:Wg K "line_for" "Showing.line_for" oD f fd)(t:jS K D)(TN:Jj K mg C)(mL:Yq K D "line_for" f)(bL:zk K fd ["self","one","other"] [])(aE:Q3 P w K mg base Ya k f fd ["self","one","other"] (pE P w C D g))
  (mW:Yq K C "way" fW)(GW:Q3 P w K mg base Ya 2 fW fdW ["self","one","other"] (oQ P w C))(bW:zk K fdW ["self","one","other"] [])(mR:Yq K D "write" fR)(GR:Q3 P w K mg base Ya 1 fR fdR ["self","one","other","reason"] (qD P w C D))(bR:zk K fdR ["self","one","other","reason"] []):
  Q3 P w K mg base Ya (k+1) f fd ["self","one","other"] (l8 P w C D g):=by
 refine F.ok wx (λvs O l h e=>?_) (λm A n s O vs l h hr e=>?_)
 .obtain⟨b,G,o,a,d,rfl,_⟩:=e;rfl
 have(b,G,o,a,d,rfl,S,al,bl,Sl,aB,aQ,q):=e;have hu:=Jw hr;have aR:Yl 1 _:=hr.mono (by ext);have aS:Yl 2 _:=hr.mono (by ext);have nd:=wx.nd;have a4:G.length<=900000:=by ext
 exists _,Qc (Zb (Oy (OU hu (Ze (Qa {1} (Qa {2} Qd))) (Qx {0} rfl)))
   (Qc (Zb (Oy (si hu (Ze (Qa {2} (Qa {1} Qd))) (Qx {0} rfl)))
    (Qg (Qz 3 nd (Ze (Qa Zh (Qa (Ye hu (Qx {0} rfl) (Ze (Qa {2} (Qa {1} Qd))) (λ_ _=>rfl)) Qd)))))
    (Qg (Qz 3 nd (Ze (Qa Zh (Qa
     (Ug (te:=lZ D "line_for" (pE P w C D g) [] E0 (Ul 2) (jx (Ul 0) (jx (Ul 1) jB))) (g:=qB K 2 (md (Ui 0) (md (Ui 1) qe))) (own:=["start","end"]) (fv:=[(0,"self")]) rfl (S:=(by eq_refl:Wb (Qo oD) _)) (.cons rfl (DX Xb) rfl .nil)
      (Yh (Zn (Qx {0} rfl) TN.cl mW GW aS bW .nil Q5 (Qa {1} (Qa {2} Qd))))
      (λ_ _ _ _ _=>Uc rfl (Zr (Yz (i:=0) uB rfl (DX Xb) (Sq Xb)) (Zr (Yz (i:=1) uB rfl (DX Xb) (Sq Xb)) Wp))) (λ_ _ _ _ _=>Wk)
      (λ_ _ _ _ _=>Zn {2} t.cl mL aE hr bL .nil Q5 (Qa {0} (Qa {1} Qd)))) Qd))))))
   (Qg (Zl (Zn {0} t.cl mR GR aR bR .nil Q5 (Qa {1} (Qa {2} (Qa {3} Qd))))))) Qw)
  (Qg (Qt (Ye hu (Qx {0} rfl) (Ze (Qa {1} (Qa {2} Qd))) (λ_ _=>rfl))))
 subst_vars;have(dx,o1):=S.ob;have(a8,n1,n2,n3):=S.nu;and_intros;refine{00,Yy,λc hc=>?_};have s1:=Qf hc (.tup [jv a,jv d]);have ar:=Vu.t (k:=[ki a,ki d]) (s1 _ _ n1) (show(zj O c (.tup [jv a,jv d])) c=Ga (.tup ([ki a,ki d].map kV))from Qb);rw[n3]at ar;exists 0,b.sh,D,dx,30,s1 _ _ o1,t.cl,t.Iy,V0 _,b.M,0,ar,0;cases hN:o a d with
 |some v=>refine Q4 ?_;have r:=S.fr s1;have(aa,o2):=r.ob;have(aA,m2,_,ai):=r.nu;refine{0,b.sh,D,aa,30,o2,t.cl,t.Iy,V0 _,00,Yy,λx af=>?_};have I:=Qf af (.tup [jv a,jv d]);have T:=Vu.t (k:=[ki a,ki d]) (I _ _ m2) (show(zj (zj O c (.tup [jv a,jv d])) x (.tup [jv a,jv d])) x=Ga (.tup ([ki a,ki d].map kV))from Qb);rw[ai,hN]at T;exists b.M,0,T;have S3:=r.fr I;exact q v [] o _ (by rw[DV];exact S3) (Rb.of (s1.trans I)) hN (λ_ _ e=>e) (Tu _) (λ_ e _=>e) (λz=>by rw[hN]at z;cases z) (λ_=>Tu _) (λ_=>rfl)
 |none=>
  refine Yp ?_;refine{00,Yy,λc2 aL=>?_};have s2:=s1.trans (Qf aL (.tup [jv d,jv a]));have au:=Vu.t (k:=[ki d,ki a]) (s2 _ _ n1) (show(zj (zj O c (.tup [jv a,jv d])) c2 (.tup [jv d,jv a])) c2=Ga (.tup ([ki d,ki a].map kV))from Qb);rw[n3]at au;exists 0,b.sh,D,dx,30,s2 _ _ o1,t.cl,t.Iy,V0 _,b.M,0,au,0;generalize zj (zj O c (.tup [jv a,jv d])) c2 (.tup [jv d,jv a])=Hb at s2;have Sb:=S.fr s2;apply Q8k (A:=λ(Q:Hp)(N:V)=>∃(l:Lr)(n:List Ln)(m:Nat->Nat->Option Nat),Vv P w C D b Q (G++n) m/\Rb b.L b.M O Q/\Ro Q b.Ex N l/\js b.fs b.x.zt (G++n) a d l/\iL o m/\(∀h,hP b o h->Cn (b.x.zt.take h) a d->hP b m h)/\n.length<=2*b.x.S.length/\n.length<=2000/\(g=Gx->n.length=0))
  .intro av;cases hT:o d a with
   |some v=>
    refine Yp ?_;have(L,J):=S.ok d a v hT;have(aa,o2):=Sb.ob;have(aA,m2,_,ai):=Sb.nu;refine{0,b.sh,D,aa,30,o2,t.cl,t.Iy,V0 _,00,Yy,λx af=>?_};have I:=Qf af (.tup [jv d,jv a]);have T:=Vu.t (k:=[ki d,ki a]) (I _ _ m2) (show(zj Hb x (.tup [jv d,jv a])) x=Ga (.tup ([ki d,ki a].map kV))from Qb);rw[ai,hT]at T;refine{b.M,0,T,Yy,λB an=>?_};have s4:=Qf an (.tup [.str "turn",jv v]);have r:Vv P w C D b (zj (zj Hb x (.tup [jv d,jv a])) B (.tup [.str "turn",jv v])) (G++[]) o:=by rw[DV];exact(Sb.fr I).fr s4
    have Y:Rb b.L b.M O (zj (zj Hb x (.tup [jv d,jv a])) B (.tup [.str "turn",jv v])):=Rb.of ((s2.trans I).trans s4);generalize aq:V.ref B=N;have U:Ro (zj (zj Hb x (.tup [jv d,jv a])) B (.tup [.str "turn",jv v])) b.Ex N (.turn v):={B,aq.symm,Qb};have Yc:js b.fs b.x.zt (G++[]) a d (.turn v):={L,by rw[DV];exact J};obtain⟨n,H⟩:∃h:List Ln,h=[]:={40};rw[<-H]at r Yc;obtain⟨l,ab⟩:∃l:Lr,l=.turn v:={40};rw[<-ab]at U Yc;obtain⟨m,E⟩:∃m:Nat->Nat->Option Nat,m=o:={40};have ah:iL o m:=by rw[E];exactλ_ _ e=>e
    have ad:∀h,hP b o h->Cn (b.x.zt.take h) a d->hP b m h:=by rw[E];exactλ_ e _=>e
    rw[<-E]at r;have ml:n.length=0:=by rw[H];rfl
    have ag:g=Gx->n.length=0:=λ_=>ml;generalize zj (zj Hb x (.tup [jv d,jv a])) B (.tup [.str "turn",jv v])=Q at r Y U⊢;exact av Q N {l,n,m,r,Y,U,Yc,ah,ad,by ext,by ext,ag}
   |none=>
    refine Q4 ?_;cases g with
    |false=>
     exfalso;rcases aB with(e|e)|⟨e,_⟩
     .rw[hN]at e;cases e
     .rw[hT]at e;cases e
     .cases e
    |true=>
    have E:Go b o a d:=by
     rcases aB with(e|e)|⟨_,e⟩
     .rw[hN]at e;cases e
     .rw[hT]at e;cases e
     .exact e
    have X2:=S.net.same Sb.sam;have(aK,on):=X2.ob;have(aa,o2):=Sb.ob;refine{0,b.sh,D,aa,30,o2,t.cl,t.net,Kw _,b.n,aK,0,on,oZ _,00,b.n,b.A,b.fs,b.tb,b.x,a,d,1,X2,E.inv,E.aS,E.bS,E.eq,E.hS,λL5 es st H5 g5 aj aw ax W=>{L5,1,{_,Qk aw},λH M=>?_}};have a6:=W.len;have a3:=GQ ax;have hS:=E.hS;have S5:=Sb.fr g5;have aF:L5≠b.L:=λz=>by have(vs,l1,_):=Sb.li;rw[z,l1]at aj;cases aj
    have aG:L5≠b.M:=λz=>by have(vs,l1,_):=Sb.nu;rw[z,l1]at aj;cases aj
    have aC:H≠b.L:=λz=>by have(vs,l1,_):=S5.li;rw[z,l1]at M;cases M
    have a1:H≠b.M:=λz=>by have(vs,l1,_):=S5.nu;rw[z,l1]at M;cases M
    have a0:b.H0 H=Gq:=S5.sam.free M;have s5:=Qf M (.lst []);subst_vars;have(ba,aT,_):=S5.li;have(a7,aU,_):=S5.nu;and_intros;refine Oe (K:=K) (a:=L5) (xs:=es) (small (by ext)) (λi ys ak R=>iK λ(x0 x1:Option V)(ac:List Ln)(m:Nat->Nat->Option Nat)(L:List Nat)=>mz (ak=[x0,x1,Ga (.ref b.sh)]) (ys=L.map jv) (L.length=i) (Vv P w C D {b with Ex:=λd=>b.Ex d\/d=H} R (G++ac) m) (Rb b.L b.M H5 R) (iL o m) (ac.length<=i) (∀h,hP b o h->Cn (b.x.zt.take h) a d->hP b m h) (∀j k u u':Nat,L[j]?=Ga k->st[j]?=Ga (u,u')->∃l,(G++ac)[k]?=Ga (u,u',l)))
     {2,[],o,[],111,by rw[DV];exact S5.more M,Rb.of s5,λ_ _ e=>e,Tu _,λ_ e _=>e,by simp} (by rintro i ys ak R _ ⟨_,_,_,_,_,_,_,_,_,Z,_⟩;exact Qk (Z.keep _ _ aw aF aG)) ?_ ?_
    .rintro i y ys ak R hi aV ⟨x0,x1,ac,m,L,rfl,rfl,ao,S6,Z,aD,aX,aH,am⟩ ap;subst_vars;have((p,X),hp,c5,rfl,aM):=Qy ax hi;have ay:(p,X)∈st:=Gc hp;have c6:=Z.tp aU aT aM;have il:i<es.length:=(Gg.mp hi).1;have(kk,aN,aO):=W.lk p X ay;have(rr,az):=E.inv.fst.Qib p X kk aN;and_intros;have pS:p∈b.x.S/\X∈b.x.S:=by
      rcases az with e|e
      .exact{(E.inv.lnk _ _ _ _ e).1,(E.inv.lnk _ _ _ _ e).2.1}
      .exact{(E.inv.lnk _ _ _ _ e).2.1,(E.inv.lnk _ _ _ _ e).1}
     have cn:∀h,Cn (b.x.zt.take h) a d->Cn (b.x.zt.take h) p X:=λh hm=>by
      have km:=aO h hm;rcases az with e|e
      .exact .link (Gc (i:=kk) (by rw[DS km];exact e))
      .exact .symm (.link (Gc (i:=kk) (by rw[DS km];exact e)))
     have(aJ,o6):=S6.ob;exists c5,0,Qj c6,130301;refine{0,b.sh,aJ,0,o6,O1 b,00,{b with Ex:=λd=>b.Ex d\/d=H},G++ac,m,p,X,1,S6,Sl p pS.1,Sl X pS.2,Sl,.inl ((E.st st W.rel p X ay).sub aD),by rw[Gs (by decide)];rw[GV rfl]at aQ;rw[Gk];ext,λk' aY N2 H7 S7 F7 aP a2 a9 aI _ aW _=>?_};have r7:=F7.keep _ _ ap aC a1;have a5:=aW rfl;refine{r7,2,ac++aY,N2,L++[k'],1,by rw[TY];rfl,by rw[Gk,Gy,ao],by rw[<-Dk];exact S7.grow (.inr Xb) r7 aC a0,{λb' aZ ae J h2=>Ql (F7.keep _ _ (Z.keep _ _ ae J h2) J h2) (Qe ae M),λb' e=>Z.there _ (F7.there _ (Yi e))},λi j e=>a2 _ _ (aD _ _ e),by rw[Gk];ext,λh hc hm=>aI h (aH h hc hm) (cn h hm),λj v u u' J h2=>?_}
     .rcases Dh j L.length with hj|hj
      .rw[Tt hj]at J;have(l,ab):=am j v u u' J h2;rw[<-Dk];exact{l,yG ab}
      .rw[TR hj]at J;have:j=L.length:=by
        rcases Dh (j - L.length) 1 with h'|h'
        .ext
        .rw[Df (by simpa using h')]at J;cases J
       subst this;simp at J;subst J;rw[ao,hp]at h2;cases h2;rw[<-Dk];exact S7.ok _ _ _ aP
    .rintro ys ak R aV ⟨x0,x1,n,m,L,rfl,rfl,ao,S6,Z,ah,aX,ad,am⟩ ap;refine{Yy,λB an=>?_};have s4:=Qf an (.tup [.str "chain",.ref H]);have r:=(S6.less S.exL).fr s4;have Y:Rb b.L b.M O (zj R B (.tup [.str "chain",.ref H])):=(Rb.of (s2.trans g5)).trans (Z.trans (Rb.of s4));generalize aq:V.ref B=N;obtain⟨l,ab⟩:∃l:Lr,l=.chain L:={40};have U:Ro (zj R B (.tup [.str "chain",.ref H])) b.Ex N l:=by rw[ab];exact{B,H,aq.symm,Qb,s4 _ _ ap,(λz=>by have(aZ,ae):=S5.exA H z;rw[M]at ae;cases ae),by ext}
     have Yc:js b.fs b.x.zt (G++n) a d l:=by rw[ab];exact uK W.path (by ext) am
     have ml:n.length<=2*b.x.S.length:=by ext
     have ag:Gi=Gx->n.length=0:=λz=>by cases z
     generalize zj R B (.tup [.str "chain",.ref H])=Q at r Y U⊢;exact av Q N {l,n,m,r,Y,U,Yc,ah,ad,by ext,by ext,ag}
  .rintro Q N ⟨l,n,m,r,Y,U,Yc,ah,ad,ml,R,ag⟩;have(J,M):=r.ob;refine{0,b.sh,J,0,M,pz _,000,b,G++n,m,a,d,N,l,1,r,al,bl,U,Yc,by rw[Gk];ext,λH B E=>?_};have(aa,o2):=B.ob;have(aA,m2,_,ai):=B.nu;refine{0,b.sh,D,aa,30,o2,t.cl,t.Iy,V0 _,00,Yy,λx af=>?_};have I:=Qf af (.tup [jv a,jv d]);have T:=Vu.t (k:=[ki a,ki d]) (I _ _ m2) (show(zj H x (.tup [jv a,jv d])) x=Ga (.tup ([ki a,ki d].map kV))from Qb);rw[ai,pL]at T;exists b.M,0,T;have S3:=B.fr I;rw[Dk]at S3;exact q _ (n++[(a,d,l)]) _ _ S3 ((Y.trans E).trans (Rb.of I)) pL (λi j e=>Aq _ _ (ah i j e)) (by rw[Gk,Gy];ext) (λh hc hm=>AV (ad h hc hm) hm) (λ_=>{l,by rw[<-Dk,SH]}) (λL=>by rw[Gk,Gy];have:=ag L;ext) (λz=>absurd hN z)
theorem VX:Q3 P w K mg base Ya 2 f fd ["self","one","other"] (pE P w C D Gx):=
 {λc H Q E h=>False.elim h,λA a s H b d c Q E _ _ _ _ h=>False.elim h}
end
inductive zo(P:Gn)(w:Tg)(C:Gd)(D:Gd)(vs:List V)(H:Hp)(Q:VK):Prop
 |mk (v:Sv) (ls:List Ln) (N:Nat->Nat->Option Nat) (lv:V) (a:Nat) (b:Nat) (rs:Option Ie) (h0:vs=[.ref v.sh,lv]) (h1:Vv P w C D v H ls N) (h2:On H lv (a,b,rs)) (h3:(a,b,rs)∈v.x.zt) (h4:a<v.fs.length) (h5:b<v.fs.length) (h6:v.fs.length=v.us.length) (h7:(∀p∈v.x.S,p<v.us.length)) (h8:v.x.S.length<=60) (h9:(Zw v.fs a).length<=100) (h10:(rs=Gq->Yr v.fs a=Yr v.fs b/\(Zw v.fs a).length=(Zw v.fs b).length)) (h11:(∀p q,(p,q)∈Wu v.fs (a,b,rs)->Go v N p q)) (h12:ls.length<=880000) (h13:∀(more:List Ln)(N1:Nat->Nat->Option Nat)(r:Lr)(H':Hp),Vv P w C D v H' (ls++more++[(a,b,r)]) (putN N1 a b (ls++more).length)->Rb v.L v.M H H'->iL N N1->more.length<=12100->(∀m,hP v N m->(∀p q,(p,q)∈Wu v.fs (a,b,rs)->Cn (v.x.zt.take m) p q)->hP v N1 m)->Q .non H'):zo P w C D vs H Q
def yJ(P:Gn)(w:Tg)(C D:Gd):Sp:=λa H Q _=>zo P w C D a H Q
theorem Go.sub{v:Sv}{N d:Nat->Nat->Option Nat}{a b:Nat}(g:Go v N a b)(s:iL N d):Go v d a b:={g.inv,g.aS,g.bS,g.eq,g.hS,λe c p q h=>(g.st e c p q h).sub s}
section
variable{P:Gn}{w:Tg}{K:Gf}{mg:TQ->Option Gj}{base:Heap}
theorem yr:Q8 ["self","link","reason"] ["self","link"] (Qo Ub):=by eq_refl
theorem xJ:(["part","twin","self"]:List TQ).Nodup:=by decide+kernel
theorem Qu7(F:Wg K "write_link" "Showing.write_link" Ub f fd)(ad:jS K D)(mL:Yq K D "line_for" fL)(bL:zk K fdL ["self","one","other"] [])(GL:Q3 P w K mg base Ya 4 fL fdL ["self","one","other"] (l8 P w C D Gi))
  (GB:Q3 P w K mg base Ya 1 fB fdB ["net","link"] (qZ P w C))(kB:KI K fB)(bB:zk K fdB ["net","link"] [])(mB:MG mg "pairs_below" fB)(mR:Yq K D "write" fR)(GR:Q3 P w K mg base Ya 1 fR fdR ["self","one","other","reason"] (qD P w C D))(bR:zk K fdR ["self","one","other","reason"] []):
  Q3 P w K mg base Ya 5 f fd ["self","link"] (yJ P w C D):=by
 refine F.ok yr (λY R m l h=>?_) (λv r x s R Y m l hr h=>?_)
 .obtain⟨b,E,M,lv,a,d,X,rfl,_⟩:=h;rfl
 have(b,E,M,lv,a,d,X,rfl,S,(c,T,rfl,hc,ae),az,aS,aT,a2,Sl,hS,a1,aV,aU,a3,q):=h;have al:a<b.us.length:=by ext
 have bl:d<b.us.length:=by ext
 have aA:Yl 1 _:=hr.mono (by ext);have nd:=yr.nd;show∃t,W0 ?my _ t/\_;let w3:Xk ?my Ub 2:={_,Qg (Zl (Zn {0} ad.cl mR GR aA bR .nil Q5 (Qa (Qn Qs {1} Qi) (Qa (Qn Qs {1} Qi) (Qa {2} Qd)))))}
 let w2:Xk ?my Ub 1:=⟨_,Qc (Zb (Qp UG {2} U7 (Qu _))
   (Qg (Qz 2 nd (Ze (Qa Zh (Qa
     (Ug (te:=lZ D "line_for" (l8 P w C D Gi) [] E0 (Ul 2) (jx (Ul 0) (jx (Ul 1) jB))) (g:=qB K 2 (md (Ui 0) (md (Ui 1) qe))) (own:=["part","twin"]) (fv:=[(0,"self")]) rfl (S:=(by eq_refl:Wb (Qo Ub) _)) (.cons rfl (DX Xb) rfl .nil)
      (Yh (Za GB aA rfl mB kB bB .nil Q5 (Qa (Qx {0} rfl) (Qa {1} Qd))))
      (λ_ _ _ _ _=>Uc rfl (Zr (Yz (i:=0) xJ rfl (DX Xb) (Sq Xb)) (Zr (Yz (i:=1) xJ rfl (DX Xb) (Sq Xb)) Wp))) (λ_ _ _ _ _=>Wk)
      (λ_ _ _ _ _=>Zn {2} ad.cl mL GL hr bL .nil Q5 (Qa {0} (Qa {1} Qd)))) Qd))))) Qw) w3.2⟩
 exists _,Qc (Qz 2 nd (Qn Qs {1} Qi)) w2.2;exists 0,c,201,Qj hc,jt _ _ _ _;exists 4010;rw[uY ae];cases X with
 |some X=>
  refine Q4 ?_;have O:Vv P w C D b R (E++[]) M:=by rw[DV];exact S
  have F1:Rb b.L b.M R R:=Rb.refl;have W:=hc;obtain⟨e,ao,Yc⟩:∃e:Lr,Ro R b.Ex T e/\js b.fs b.x.zt (E++[]) a d e:=by
   cases X with
   |told n=>exact{.told n,ae,az}
   |asked=>exact{.asked,ae,az}
  obtain⟨N,m⟩:∃o:List Ln,o=[]:={40};rw[<-m]at O Yc;obtain⟨g,l⟩:∃g:Nat->Nat->Option Nat,g=M:={40};have aq:iL M g:=by rw[l];exactλ_ _ h=>h
  have am:∀o,hP b M o->(∀p q,(p,q)∈Wu b.fs (a,d,Ga X)->Cn (b.x.zt.take o) p q)->hP b g o:=by rw[l];exactλ_ h _=>h
  rw[<-l]at O;have ml:N.length<=12100:=by rw[m];exact Tu _
  have(an,ap):=O.ob;refine{0,b.sh,an,0,ap,pz _,0,c,201,Qj W,Ol _ _,0,c,201,Qj W,Rh _ _ _,0,b,E++N,g,a,d,T,e,1,O,al,bl,ao,Yc,by rw[Gk];ext,λH2 S2 F2=>?_};exact q N g e H2 S2 (F1.trans F2) aq ml am
 |none=>
  refine Yp ?_;have X2:=S.net.same S.sam;have(dx,o1):=S.ob;refine{0,b.sh,D,dx,30,o1,ad.cl,ad.net,Kw _,0,b.n,b.A,b.fs,b.tb,b.x,.ref c,(a,d,Gq),1,X2,⟨c,T,Xb,hc,ae⟩,aS,aT,λL5 es H5 g5 aa ar au=>{L5,1,{_,Qk ar},λv x=>?_}};have(aM,aL):=aV rfl;have aX:=GQ au;have aY:(Wu b.fs (a,d,Gq)).length=(Zw b.fs a).length:=by simp only[Wu,LR];ext
  have I:=S.fr g5;have aJ:L5≠b.L:=λz=>by have(Y,J,_):=S.li;rw[z,J]at aa;cases aa
  have aK:L5≠b.M:=λz=>by have(Y,J,_):=S.nu;rw[z,J]at aa;cases aa
  have ax:v≠b.L:=λz=>by have(Y,J,_):=I.li;rw[z,J]at x;cases x
  have aR:v≠b.M:=λz=>by have(Y,J,_):=I.nu;rw[z,J]at x;cases x
  have aQ:b.H0 v=Gq:=I.sam.free x;have s5:=Qf x (.lst []);have(a0,av,_):=I.li;have(aZ,aw,_):=I.nu;refine Oe (K:=K) (a:=L5) (xs:=es) (small (by ext)) (λi ys ac H=>iK λ(x0 x1:Option V)(Q:List Ln)(g:Nat->Nat->Option Nat)(r:List Nat)=>mz (ac=[x0,x1,Ga (.ref b.sh)]) (ys=r.map jv) (r.length=i) (Vv P w C D {b with Ex:=λd=>b.Ex d\/d=v} H (E++Q) g) (Rb b.L b.M H5 H) (iL M g) (Q.length<=i*121) (∀o,hP b M o->(∀p q,(p,q)∈Wu b.fs (a,d,Gq)->Cn (b.x.zt.take o) p q)->hP b g o) (∀j k u u':Nat,r[j]?=Ga k->(Wu b.fs (a,d,Gq))[j]?=Ga (u,u')->∃e,(E++Q)[k]?=Ga (u,u',e)))
   {2,[],M,[],111,by rw[DV];exact I.more x,Rb.of s5,λ_ _ h=>h,Tu _,λ_ h _=>h,by simp} (by rintro i ys ac H _ ⟨_,_,_,_,_,_,_,_,_,A,_⟩;exact Qk (A.keep _ _ ar aJ aK)) ?_ ?_
  .rintro i y ys ac H hi aN ⟨x0,x1,Q,g,r,rfl,rfl,ag,S6,A,ak,aO,aB,af⟩ ah;subst_vars;have((p,L),hp,c5,rfl,aE):=Qy au hi;have ai:(p,L)∈Wu b.fs (a,d,Gq):=Gc hp;have c6:=A.tp aw av aE;have il:i<es.length:=(Gg.mp hi).1;have m:=(aU p L ai).sub ak;have(aD,o6):=S6.ob;and_intros;exists c5,0,Qj c6,130301;refine{0,b.sh,aD,0,o6,O1 b,00,{b with Ex:=λd=>b.Ex d\/d=v},E++Q,g,p,L,1,S6,Sl p m.aS,Sl L m.bS,Sl,.inr {1,{m.inv,m.aS,m.bS,m.eq,m.hS,m.st}},by rw[GV Xb,Gk];ext,λk' aj N2 H7 S7 Z aG aI aH aC _ _ _=>?_};have r7:=Z.keep _ _ ah ax aR;have aW:aj.length<=2*b.x.S.length+1:=aH;refine{r7,2,Q++aj,N2,r++[k'],1,by rw[TY];rfl,by rw[Gk,Gy,ag],by rw[<-Dk];exact S7.grow (.inr Xb) r7 ax aQ,{λb' aP U l B=>Ql (Z.keep _ _ (A.keep _ _ U l B) l B) (Qe U x),λb' h=>A.there _ (Z.there _ (Yi h))},λi j h=>aI _ _ (ak _ _ h),by rw[Gk];ext,λo aF hm=>aC o (aB o aF hm) (hm p L ai),λj k0 u u' l B=>?_};rcases Dh j r.length with hj|hj
   .rw[Tt hj]at l;have(e,ab):=af j k0 u u' l B;rw[<-Dk];exact{e,yG ab}
   .rw[TR hj]at l;have:j=r.length:=by
     rcases Dh (j - r.length) 1 with G|G
     .ext
     .rw[Df (by simpa using G)]at l;cases l
    subst this;simp at l;subst l;rw[ag,hp]at B;cases B;rw[<-Dk];exact S7.ok _ _ _ aG
  .rintro ys ac H aN ⟨x0,x1,N,g,r,rfl,rfl,ag,S6,A,aq,aO,am,af⟩ ah;refine{Yy,λm Z=>?_};have s4:=Qf Z (.tup [.str "like",.ref v]);have O:=(S6.less S.exL).fr s4;have F1:Rb b.L b.M R (zj H m (.tup [.str "like",.ref v])):=(Rb.of g5).trans (A.trans (Rb.of s4));have W:=s4 _ _ (A.tp aw av (g5 _ _ hc));generalize ay:V.ref m=T;obtain⟨e,ab⟩:∃e:Lr,e=.like r:={40};have ao:Ro (zj H m (.tup [.str "like",.ref v])) b.Ex T e:=by rw[ab];exact{m,v,ay.symm,Qb,s4 _ _ ah,(λz=>by have(aP,U):=I.exA v z;rw[x]at U;cases U),by ext}
   have Yc:js b.fs b.x.zt (E++N) a d e:=by rw[ab];refine{aM,aL,by ext,λj k p L l B G=>af j k p L l ?_};simp only[Wu];rw[LF];exact⟨B,G⟩
   have ml:N.length<=12100:=by ext
   have(an,ap):=O.ob;refine{0,b.sh,an,0,ap,pz _,0,c,201,Qj W,Ol _ _,0,c,201,Qj W,Rh _ _ _,0,b,E++N,g,a,d,T,e,1,O,al,bl,ao,Yc,by rw[Gk];ext,λH2 S2 F2=>?_};exact q N g e H2 S2 (F1.trans F2) aq ml am
end
inductive xA(P:Gn)(w:Tg)(C:Gd)(D:Gd)(vs:List V)(H:Hp)(Q:VK):Prop
 |mk (sh:Gd) (dx:Gd) (t:Gd) (n:Gd) (A:Na) (fs:List Fm) (tb:Nat) (x:Nn) (us:List V) (H0:Hp) (h0:vs=[.ref sh,.ref t,.ref n]) (h1:H sh=Ga (.ins D dx [])) (h2:H0 sh=Gq) (h3:Q9 H0 H) (h4:Yn P w C H0 n A fs tb x) (h5:H0 t=Ga (.lst us)) (h6:∀(L M:Gd)(H':Hp),Vv P w C D ⟨sh,n,t,L,M,A,fs,tb,x,us,H0,λb=>b=L\/∃o,H0 b=Ga o⟩ H' [] (λ_ _=>Gq)->Q .non H'):xA P w C D vs H Q
def Ar(P:Gn)(w:Tg)(C D:Gd):Sp:=λa H Q _=>xA P w C D a H Q
inductive qP(H:Hp)(X:Gd->Prop)(us:List V)(v:V)(ls:List Ln):Prop
 |mk (L:_) (vs:_) (h0:v=.ref L) (h1:H L=Ga (.lst vs)) (h2:¬X L) (h3:Dg (iY H X us) vs ls) (h4:ls.length<=900000):qP H X us v ls
inductive yL(P:Gn)(w:Tg)(C:Gd)(vs:List V)(H:Hp)(Q:VK):Prop
 |mk (t:Gd) (n:Gd) (A:Na) (fs:List Fm) (tb:Nat) (x:Nn) (us:List V) (one:Nat) (other:Nat) (h0:vs=[.ref t,.ref n,jv one,jv other]) (h1:Yn P w C H n A fs tb x) (h2:Wx (Yr fs) (Zw fs) x []) (h3:iM fs x.S) (h4:one∈x.S) (h5:other∈x.S) (h6:x.zg one=x.zg other) (h7:x.S.length<=60) (h8:x.zt.length<64) (h9:(∀p,(Zw fs p).length<=100)) (h10:H t=Ga (.lst us)) (h11:fs.length=us.length) (h12:∀(v:V)(ls:List Ln)(H':Hp),Q9 H H'->qP H' (λb=>∃o,H b=Ga o) us v ls->iZ fs x.zt ls->(∃r,ls.getLast?=Ga (one,other,r))->Q v H'):yL P w C vs H Q
def wG(P:Gn)(w:Tg)(C:Gd):Sp:=λa H Q _=>yL P w C a H Q
abbrev mkv(c n t L M:Gd)(A:Na)(fs:List Fm)(tb:Nat)(x:Nn)(d:List V)(a:Hp):Sv:={c,n,t,L,M,A,fs,tb,x,d,a,λb=>b=L\/∃o,a b=Ga o}
theorem sq(I:Wx (Yr fs) (Zw fs) x []){c:List (Nat×Nat)}(h:ip x.up a b c)(i:(p,q)∈c):∃k,x.Xt p q=Ga k/\∀n,Cn (x.zt.take n) a b->k<n:=by have(l,o,P,Q,s,m,d,e,f,g,j,rfl):=h;exact I.fst.way d e f g j p q i
section
variable{P:Gn}{w:Tg}{K:Gf}{mg:TQ->Option Gj}{base:Heap}
theorem Qwn:Q8 ["self","things","net"] ["self","things","net"] (Qo R8):=by eq_refl
theorem Qr2(F:Wg K "__init__" "Showing.__init__" R8 f0 fd)(c:jS K D):Q3 P w K mg base Ya 1 f0 fd ["self","things","net"] (Ar P w C D):=by
 refine F.ok Qwn (λU y N M m=>?_) (λZ E aa s y U N M hr m=>?_)
 .obtain⟨b,f,t,n,E,O,S,x,T,G,rfl,_⟩:=m;rfl
 have(b,f,t,n,E,O,S,x,T,G,rfl,B,J,d,X,ht,q):=m;show∃t,W0 ?my _ t/\_;let Y:Xk ?my R8 3:={_,Qg (Xm {0} nV Xb)}
 let W:Xk ?my R8 2:={_,Qc (Xm {0} (Zt Qd) rfl) Y.2}
 let V:Xk ?my R8 1:={_,Qc (Xm {0} {2} rfl) W.2}
 exists _,Qc (Xm {0} {1} rfl) V.2;exists 00,b,D,f,[],1,B,c.cl,c.things,(by show 0<1000;decide);refine{00,b,D,f,0,Qb,c.cl,c.net,by show 1<1000;decide,Tu _,λg L=>?_};rw[Vq]at L⊢;have r:y g=Gq:=Yi L;have h:g≠b:=Ta (Qe B r);refine{0,b,D,f,0,Ql Qb (Ta h),c.cl,c.lines,by show 2<1000;decide,λp Q=>?_};have A:=Yi Q;have R:=Yi A;have u:y p=Gq:=Yi R;have I:p≠b:=Ta (Qe B u);have H:g≠p:=λz=>by rw[<-z,Qb]at A;cases A
 exists 0,b,D,f,0,Ql Qb (Ta I),c.cl,c.Iy,(by show 3<1000;decide);refine q g p _ {⟨f,Qb⟩,λl v a=>?_,d.free r,d.free u,X,ht,{[],?_,.nil},{[],?_,Tu _,λi j=>rfl},(λi j k m=>nomatch m),iZ.nil,.inl Xb,λl o=>?_}
 .have e:l≠b:=Qe a J;exact Ql (Ql (Ql (Ql (Ql (d _ _ a) e) (Qe (d _ _ a) r)) e) (Qe (d _ _ a) u)) e
 .exact Ql (Ql (Ql Qb h) H) h
 .exact Ql Qb I
 .have o:l=g\/∃v,G l=Ga v:=o;rcases o with o|⟨v,a⟩
  .rw[o];exact{_,Ql (Ql (Ql Qb h) H) h}
  .have e:l≠b:=Qe a J;exact{v,Ql (Ql (Ql (Ql (Ql (d _ _ a) e) (Qe (d _ _ a) r)) e) (Qe (d _ _ a) u)) e}
theorem zB:Q8 ["things","net","one","other","showing","number"] ["things","net","one","other"] (Qo kJ):=by eq_refl
theorem KY(F:Wg K "lines_between" "lines_between" kJ f fd)(ah:jS K D)(TN:Jj K mg C)(mD:MG mg "Showing" D)(aP:Mk K D fI)(GI:Q3 P w K mg base Ya 1 fI fdI ["self","things","net"] (Ar P w C D))(bI:zk K fdI ["self","things","net"] [])
  (GN:Q3 P w K mg base Ya 3 fN fdN ["net","one","other"] (vf P w C))(kN:KI K fN)(bN:zk K fdN ["net","one","other"] [])(mN:MG mg "links_needed" fN)
  (mL:Yq K D "line_for" fL)(bL:zk K fdL ["self","one","other"] [])(GL:Q3 P w K mg base Ya 4 fL fdL ["self","one","other"] (l8 P w C D Gi))(mW:Yq K D "write_link" fW)(bW:zk K fdW ["self","link"] [])(GW:Q3 P w K mg base Ya 5 fW fdW ["self","link"] (yJ P w C D)):
  Q3 P w K mg base Ya 6 f fd ["things","net","one","other"] (wG P w C):=by
 refine F.ok zB (λvs o M L b=>?_) (λY m Z s o vs M L hr b=>?_)
 .obtain⟨t,n,m,r,J,x,I,O,Q,rfl,_⟩:=b;rfl
 have(t,n,m,r,J,x,I,O,Q,rfl,X,A,FO,oS,tS,he,hS,aU,aR,ht,ao,q):=b;have aX:Yl 2 _:=hr.mono (by lia);have aY:Yl 3 _:=hr.mono (by lia);have aZ:Yl 4 _:=hr.mono (by lia);have nd:=zB.nd;show∃t,W0 ?my _ t/\_;let w4:Xk ?my kJ 3:={_,Qg (Qt (Qx {4} rfl))}
 let w3:Xk ?my kJ 2:={_,Qc (Zl (Zn {4} ah.cl mL GL aZ bL .nil Q5 (Qa {2} (Qa {3} Qd)))) w4.2}
 let w2:Xk ?my kJ 1:=⟨_,Qc (Yb Tj rfl (Yh (Za GN aY rfl mN kN bN .nil Q5 (Qa {1} (Qa {2} (Qa {3} Qd))))) (Z5 5 nd)
   (Qg (Zl (Zn {4} ah.cl mW GW hr bW .nil Q5 (Qa (Qn Zd (Qx {1} rfl) {5}) Qd))))) w3.2⟩
 exists _,Qc (Qz 4 nd (ph aP GI aX rfl mD bI .nil Q5 (Qa {0} (Qa {1} Qd)))) w2.2;refine{00,λg dx aB aT a7=>?_};have s0:Q9 o (zj (zj o dx (.own g)) g (.ins D dx [])):=λc a0 aa=>by rw[Qh (Qe aa aB),Qh (Qe aa aT)];exact aa
 refine{g,dx,t,n,m,r,J,x,I,o,1,Qb,aB,s0,X,ht,λB N H1 S1=>{1,?_}};have X1:=X.same S1.sam;have(aC,aV,aD):=X.li;have(aQ,on):=X.ob;refine{000,n,m,r,J,x,O,Q,1,X1,A,FO,oS,tS,he,by lia,aU,λL2 l H2 g2 ag ay aq a4 Dn=>{L2,1,{_,Qk ay},?_}};have S2:=S1.fr g2;have S2:Vv P w C D (mkv g n t B N m r J x I o) H2 [] (λ_ _=>Gq):=S2;have aN:L2≠B:=λz=>by have(vs,l1,_):=S1.li;rw[z,l1]at ag;cases ag
 have aO:L2≠N:=λz=>by have(vs,l1,_):=S1.nu;rw[z,l1]at ag;cases ag
 have aw:∀{j i k v:Nat},j<i->l[j]?=Ga k->l[i]?=Ga v->k<v:=λ{j i k v}ai h1 h2=>by have(L,Y):=Gg.mp h1;have(M,Z):=Gg.mp h2;have le:=Mj.mp a4 j i L M ai;have ne:=Mj.mp aq j i L M ai;rw[Y,Z]at le ne;lia
 have ax:∀{e:Nat->Nat->Option Nat}{i:Nat},(∀j k a h H,j<i->l[j]?=Ga k->x.zt[k]?=Ga (a,h,H)->(e a h).isSome=Gi)->∀{u R j k:Nat},j<i->l[j]?=Ga k->x.Xt u R=Ga k->Dr e u R:=λ{e i}b{u R j k}d hk hl=>by
  obtain⟨H,h1|h1⟩:=A.fst.Qib u R k hl
  .exact .inl (b j k u R H d hk h1)
  .exact .inr (b j k R u H d hk h1)
 have a8:=GQ aD;let a3:Nat->St->Hp->Prop:=λi ak H3=>kL λ(x5:Option V)(S:List Ln)(e:Nat->Nat->Option Nat)=>jC (ak=[Ga (.ref t),Ga (.ref n),Ga (jv O),Ga (jv Q),Ga (.ref g),x5]) (Vv P w C D (mkv g n t B N m r J x I o) H3 S e) (Rb B N H2 H3) (S.length<=i*12101) (∀j k a h H,j<i->l[j]?=Ga k->x.zt[k]?=Ga (a,h,H)->(e a h).isSome=Gi) (∀G,(∀j k,j<i->l[j]?=Ga k->k<G)->hP (mkv g n t B N m r J x I o) e G) ((e O Q).isSome=Gi->∃H,S.getLast?=Ga (O,Q,H))
 refine Yw (K:=K) (a:=L2) (xs:=l.map jv) a3
  {_,[],0,S2,Rb.refl,Tu _,(λj k a h H b=>by lia),(λG _ i j b=>by cases b),(λb=>by cases b)} (by rintro i ak H3 _ ⟨_,_,_,_,_,F3,_⟩;exact Qk (F3.keep _ _ ay aN aO)) ?_ ?_
 .rintro i y ak H3 hi ⟨x5,S,e,rfl,T,F3,aA,ac,an,az⟩;rw[Ts]at hi;cases eq:l[i]? with
  |none=>rw[eq]at hi;cases hi
  |some k=>
   rw[eq]at hi;cases hi;have af:k∈l:=Gc eq;have kl:=Dn.lt k af;have kw:k<aC.length:=by lia
   have a6:i<l.length:=(Gg.mp eq).1;have aW:l.length<=64:=by have:l.length<=(ES x.zt.length).length:=Xy aq λk hk=>Sk.mpr (Dn.lt k hk);rw[E8]at this;lia
   have((a,h,rs),L,aI):=Qy aD (Ge kw);have(aS,bS,ar):=A.lnk k a h rs L;have aK:=T.sam _ _ on;have aJ:=T.sam _ _ aV;have(am,o3):=T.ob;have aL:Q7 o H3:=Q7.of T.sam;have aH:∀p q,(p,q)∈Wu r (a,h,rs)->Go (mkv g n t B N m r J x I o) e p q:=λp q M=>by
    have(pS,qS,Z):=oe A L M;refine{A,pS,qS,(A.conn p pS q qS).mpr (Z.mono λz hz=>Dq hz),by show x.S.length<=1000;lia,λst W u R ab=>?_};have(v,E,_):=sq A W ab;have(Y,d2):=Dn.low k af _ L p q M st W u R ab v E;have(j,d):=Dl.mp Y;have ai:j<i:=by
     rcases RY j i with b|b|b
     .exact b
     .subst b;rw[eq]at d;cases d;lia
     .have:=aw b eq d;lia
    exact ax ac ai d E
   refine{0,g,am,0,o3,Qih _,0,n,C,aQ,30,aK,TN.cl,TN.zt,J1 _,0,m.k,aC,301,Qk aJ,Zk (Ge kw),mkv g n t B N m r J x I o,S,e,_,a,h,rs,1,T,aI.Qv aL,Gc L,FO.lt a aS,FO.lt h bS,ao,λp hp=>by show p<I.length;rw[<-ao];exact FO.lt p hp,hS,aR a,λz=>{(ar z).1,(ar z).2.1},aH,by lia,λaj N1 H H4 U F4 aE ap al=>?_};have aF:∀G,k<G->∀p q,(p,q)∈Wu r (a,h,rs)->Cn (x.zt.take G) p q:=λG hm p q M=>by
    have(pS,qS,Z):=oe A L M;refine Z.mono λz hz=>?_;have:x.zt.take k=(x.zt.take G).take k:=by rw[Mc,Fz (by lia)]
    rw[this]at hz;exact Dq hz
   have aG:hP (mkv g n t B N m r J x I o) N1 k:=al k (an k λj v d E=>aw d E eq) λp q M=>(oe A L M).2.2;refine{_,S++aj++[(a,h,H)],0,U,F3.trans F4,by rw[Gk,Gk,Gy];lia,λj v a' b' r' d ad ae=>?_,λG hm=>?_,λb=>?_}
   .rcases Dh j i with b|b
    .exact Aq _ _ (aE _ _ (ac j v a' b' r' b ad ae))
    .have:j=i:=by lia
     subst this;rw[eq]at ad;cases ad;rw[L]at ae;cases ae;rw[pL];rfl
   .have Y:=hm i k (by lia) eq;exact AV (al G (an G λj v d E=>hm j v (by lia) E) (aF G Y)) (.link (Gc (i:=k) (by rw[DS Y];exact L)))
   .by_cases Y:O=a/\Q=h
    .obtain⟨rfl,rfl⟩:=Y;exact⟨H,SH⟩
    .unfold putN at b;rw[Gs Y]at b;have Z:=aG _ _ b;subst_vars;have(st,p,q',j,W,M,d,aM):=Dn.only k af;have(v,E,hb):=sq A W M;and_intros;rw[d]at E;cases E;have:=hb k Z;lia
 .rintro ak H3 ⟨x5,S,e,rfl,T,F3,aA,ac,an,az⟩;rw[Gv]at aA ac;have aW:l.length<=64:=by have:l.length<=(ES x.zt.length).length:=Xy aq λk hk=>Sk.mpr (Dn.lt k hk);rw[E8]at this;lia
  have(am,o3):=T.ob;have go:Go (mkv g n t B N m r J x I o) e O Q:=by refine{A,oS,tS,he,by show x.S.length<=1000;lia,λst W u R ab=>?_};have(v,E,_):=sq A W ab;have(j,d):=Dl.mp (Dn.top st W u R ab v E);exact ax ac (Gg.mp d).1 d E
  have M:∀p∈x.S,p<I.length:=λp hp=>by rw[<-ao];exact FO.lt p hp
  refine{0,g,am,0,o3,O1 _,00,mkv g n t B N m r J x I o,S,e,O,Q,1,T,M O oS,M Q tS,M,.inr ⟨Xb,go⟩,by rw[GV rfl];lia,λk aj N4 H4 U F4 a5 aE ap al au _ av=>?_};have(Z,o4):=U.ob;have(vs,l1,l2):=U.li;refine{0,g,D,Z,30,o4,ah.cl,ah.lines,qk _,q (.ref B) (S++aj) H4 U.sam {B,vs,1,l1,(by rintro⟨a0,aa⟩;have:=U.L0;dsimp only[mkv]at this;rw[this]at aa;cases aa),(Qr l2 λ_ _ b=>b.ex λc Y _ L z=>L (.inr z)),(by rw[Gk];have ap:aj.length<=2*x.S.length+1:=ap;lia)} U.good ?_};cases hN:e O Q with
  |none=>exact au hN
  |some L=>rw[av (by rw[hN];exactλz=>nomatch z),DV];exact az (by rw[hN];rfl)
end
noncomputable def tfs(ts:List Th):List Fm:=ts.map (fm ts)
def tg(ts:List Th)(p:Nat):Th:=ts.getD p (.mk Lp [])
theorem Jl(h:ts[p]?=Ga t):tg ts p=t:=by unfold tg;rw[DL,h];rfl
theorem O5(h:t∈ts):tg ts (ts.idxOf t)=t:=Jl (Oa h)
theorem Ws(h:p<ts.length):ts[p]?=Ga (tg ts p):=by rw[Ge h,Jl (Ge h)]
theorem Vj(h:ts[p]?=Ga t):Yr (tfs ts) p=t.word/\Zw (tfs ts) p=t.parts.map λq=>ts.idxOf q:=by unfold Yr Zw tfs;rw[DL,Ts,h];exact⟨Xb,Xb⟩
theorem Ue(a:List Th):(tfs a).length=a.length:=by simp[tfs]
structure lF(fs:List Fm)(x:Nn)(sm:List (Nat×Nat)):Prop where
 ins:∀p q,(p,q)∈sm->p∈x.S/\q∈x.S
 eq:∀p q,(p,q)∈sm->x.zg p=x.zg q
 snd:∀E,Ec (Yr fs) (Zw fs) x.S E->(∀p q,(p,q)∈sm->E p q)->∀p∈x.S,∀q∈x.S,x.zg p=x.zg q->E p q
noncomputable def lV(a:List En):List (Nat×Nat):=a.filterMap λ(e:En)=>if e.1=("same":TQ)then Ga e.2 else Gq
theorem U4:(p,q)∈lV ens↔sme p q∈ens:=by
 unfold lV;rw[FQ];constructor
 .rintro⟨⟨k,a,b⟩,h,e⟩;split at e
  .rename_i c
   have c:k=("same":TQ):=c;cases e;subst c;exact h
  .cases e
 .exactλh=>{_,h,GV Xb}
theorem tU(U:iU fs x ens ens.length):lF fs x (lV ens):=by refine{λp q h=>U.ins _ (U4.mp h),λp q h=>?_,λE X h=>U.snd E X λj p q _ a=>h p q (U4.mpr (Gc a))};have(j,a):=Dl.mp (U4.mp h);exact U.eq j p q (Gg.mp a).1 a
theorem Q0n{d:Nn}{c:List (Nat×Nat)}{r:Option Ie}(Q:lF fs x c)(M:iq fs x d a b r [])(f:a∈x.S)(g:b∈x.S):lF fs d (c++[(a,b)]):=by
 have e:=M.S;refine{λp q h=>?_,λp q h=>?_,λE X h=>?_}
 .rw[e];rcases Gh.mp h with h|h
  .exact Q.ins p q h
  .simp at h;rw[h.1,h.2];exact⟨f,g⟩
 .rcases Gh.mp h with h|h
  .obtain⟨i,j⟩:=Q.ins p q h;exact M.mono p i q j (Q.eq p q h)
  .simp at h;rw[h.1,h.2];exact M.eq.nil
 .rw[e]at X;have i:=Q.snd E X λp q j=>h p q (Gu _ j);exact(M.snd E X {i,λu v s m=>by simp at m;rw[m.1,m.2.1];exact h a b (by simp)}).1
theorem lF.cg(nd:ts.Nodup)(n:U5 ts){y:List (Nat×Nat)}(I:Wx (Yr (tfs ts)) (Zw (tfs ts)) x [])(C:iM (tfs ts) x.S)(Q:lF (tfs ts) x y)
  (G:∀a b,(Gi,a,b)∈tl->∃p q,(p,q)∈y/\ts[p]?=Ga a/\ts[q]?=Ga b)(H:∀p q,(p,q)∈y->(Gi,tg ts p,tg ts q)∈tl)(d:p∈x.S)(g:q∈x.S):x.zg p=x.zg q↔Cg tl (tg ts p) (tg ts q):=by
 have J:∀p∈x.S,p<ts.length:=λp d=>by have:=C.lt p d;rwa[Ue]at this
 have f:∀p∈x.S,ts[p]?=Ga (tg ts p):=λp d=>Ws (J p d);have j:∀p∈x.S,tg ts p∈ts:=λp d=>Gc (f p d);have m:∀p∈x.S,ts.idxOf (tg ts p)=p:=λp d=>Oz nd (f p d);constructor
 .refineλh=>Q.snd (λp q=>Cg tl (tg ts p) (tg ts q)) {λ_=>.refl _,λ_ _ h=>.symm h,λ_ _ _ h k=>.trans h k,λp d q g hw ht=>?_} (λp q h=>.told (H p q h)) p d q g h;have(A,l):=Vj (f p d);have(B,z):=Vj (f q g);rw[A,B]at hw;rw[l,z]at ht;have D:=j p d;have E:=j q g;generalize tg ts p=a at*;generalize tg ts q=b at*;cases a with
  |mk u F=>
   cases b with
   |mk v M=>simp only[Th.word,Th.parts]at hw ht;subst hw;have r:=We n D;have w:=We n E;simp only[Th.parts]at r w;have(o,ht):=ht;rw[Gv,Gv]at o;refine .cong (hI.of o λi s t hs e=>?_);have:=ht i (ts.idxOf s) (ts.idxOf t) (by rw[Ts,hs];rfl) (by rw[Ts,e];rfl);dsimp only at this;rwa[O5 (r s (Gc hs)),O5 (w t (Gc e))]at this
 .intro c;have T:Oq tl (x.S.map (tg ts)) (λt=>((x.zg (ts.idxOf t):Nat):Int)):=by
   refine{λw F h q g=>?_,λa b h=>?_,λw F M o v e=>?_}
   .obtain⟨p,d,e⟩:=Tw.mp h;have r:=We n (j p d) q (by rw[e];exact g);have(_,l):=Vj (f p d);have:ts.idxOf q∈Zw (tfs ts) p:=by rw[l,e];exact Tw.mpr ⟨q,g,Xb⟩
    exact Tw.mpr {_,C.pts p d _ this,O5 r}
   .obtain⟨p,q,E,r,D⟩:=G a b h;have(K,L):=Q.ins p q E;exists Tw.mpr {p,K,Jl r},Tw.mpr {q,L,Jl D};rw[Oz nd r,Oz nd D,Q.eq p q E]
   .obtain⟨p,d,r⟩:=Tw.mp o;have(q,g,D):=Tw.mp v;have(A,l):=Vj (f p d);have(B,z):=Vj (f q g);have:=I.cong d g (by simp only[Zv,Ek];rw[A,B,l,z,r,D];exists 41;simp only[Th.parts,Dj];have:=congrArg (Fu E9) e;simp only[Dj]at this;exact this)
    rw[<-r,<-D,m p d,m q g,this]
  have:=T.complete (Tw.mpr ⟨p,d,Xb⟩) (Tw.mpr ⟨q,g,Xb⟩) c;simp only[m p d,m q g]at this;lia
abbrev Lt:=Th×Th×Lr
variable{b:Bool}
def i4(a:List Lt):Th->List Nat->Th->Prop
 |p,[],q=>p=q
 |p,k::b,q=>∃m r,a[k]?=Ga (p,m,r)/\i4 a m b q
def yX(tl:Tl)(e:Option (Th×Th))(c:List Lt)(a b:Th):Lr->Prop
 |.told n=>tl[n]?=Ga (Gi,a,b)
 |.asked=>e=Ga (a,b)
 |.turn k=>∃r,c[k]?=Ga (b,a,r)
 |.chain d=>i4 c a d b
 |.like d=>a.word=b.word/\a.parts.length=b.parts.length/\d.length=a.parts.length/\∀(j k:Nat)(p q:Th),d[j]?=Ga k->a.parts[j]?=Ga p->b.parts[j]?=Ga q->∃r,c[k]?=Ga (p,q,r)
def mr(tl:Tl)(c:Option (Th×Th))(ls:List Lt):Prop:=∀(i:Nat)a b r,ls[i]?=Ga (a,b,r)->yX tl c (ls.take i) a b r
def lth(ts:List Th)(l:Ln):Lt:=(tg ts l.1,tg ts l.2.1,l.2.2)
theorem pD{a:List Ln}{r:Lr}(h:a[k]?=Ga (p,q,r)):(a.map (lth ts))[k]?=Ga (tg ts p,tg ts q,r):=by rw[Ts,h];rfl
theorem sG{b:List Th}{a:List Ln}:∀{c:List Nat}{p q:Nat},nJ a p c q->i4 (a.map (lth b)) (tg b p) c (tg b q)
 |[],p,q,h=>by have:p=q:=h;rw[this];rfl
 |k::c,p,q,⟨m,r,d,e⟩=>{tg b m,r,pD d,sG e}
theorem rQ(m:U5 ts){y:Option (Th×Th)}(g:iZ (tfs ts) lks ls)(G:∀l∈ls,l.1<ts.length/\l.2.1<ts.length)
  (ht:∀a b n,(a,b,Ga (.told n))∈lks->tl[n]?=Ga (Gi,tg ts a,tg ts b))(C:∀a b,(a,b,Ga .asked)∈lks->y=Ga (tg ts a,tg ts b)):mr tl y (ls.map (lth ts)):=by
 intro i a b r hi;rw[Ts]at hi;cases e:ls[i]? with
 |none=>rw[e]at hi;cases hi
 |some l=>
  rw[e]at hi;have(p,q,J):=l;cases hi;dsimp only;generalize J=r at*;have ok:=g i p q r e;have(w,x):=G _ (Gc e);rw[<-MD];cases r with
  |told n=>exact ht p q n ok
  |asked=>exact C p q ok
  |turn k=>have(d,h):=ok;exact{d,pD h}
  |chain F=>exact sG ok
  |like F=>have(A,h,o,B):=ok;have(K,f):=Vj (Ws w);have(L,z):=Vj (Ws x);have H:tg ts p∈ts:=Gc (Ws w);have I:tg ts q∈ts:=Gc (Ws x);rw[f,z,Gv,Gv]at h;rw[f,Gv]at o;refine{by rw[<-K,<-L];exact A,h,o,λj k u v D s t=>?_};have E:=B j k (ts.idxOf u) (ts.idxOf v) D (by rw[f,Ts,s];rfl) (by rw[z,Ts,t];rfl);have(d,c):=E;have:=pD (ts:=ts) c;rw[O5 (We m H u (Gc s)),O5 (We m I v (Gc t))]at this;exact⟨d,this⟩
def qA(H:Hp)(X:Gd->Prop)(v:V)(l:Lt):Prop:=∃c b d a,v=.ref c/\H c=Ga (.tup [b,d,a])/\Z7 H b l.1/\Z7 H d l.2.1/\Ro H X a l.2.2/\l.1.good/\l.2.1.good
inductive Wq(H:Hp)(X:Gd->Prop)(v:V)(ls:List Lt):Prop
 |mk (L:_) (vs:_) (h0:v=.ref L) (h1:H L=Ga (.lst vs)) (h2:¬X L) (h3:Dg (qA H X) vs ls) (h4:ls.length<=900000):Wq H X v ls
theorem Wq.kp{X:Gd->Prop}{H b:Hp}(a:Q7 H b)(f:∀{c:Gd}{d:List V},H c=Ga (.lst d)->¬X c->b c=Ga (.lst d)){v:V}{g:List Lt}(h:Wq H X v g):Wq b X v g:=by have(L,w,i,j,d,k,l):=h;exact{L,w,i,f j d,d,Qr k (by rintro _ _ ⟨c,t,u,s,m,n,o,p,q,r⟩;exact{c,t,u,s,m,a _ _ n,o.Qv a,p.Qv a,q.kp (λe=>a _ _ e) f,r}),l}
theorem Wq.ex{X Y:Gd->Prop}{H:Hp}(b:∀c a,H c=Ga (.lst a)->¬X c->¬Y c){v:V}{d:List Lt}(h:Wq H X v d):Wq H Y v d:=by have(L,s,e,a,f,g,i):=h;exact{L,s,e,a,b _ _ a f,Qr g (by rintro _ _ ⟨c,q,r,p,j,k,l,m,n,o⟩;exact{c,q,r,p,j,k,l,m,n.ex b,o}),i}
theorem WO{k:List V}(g:Zy H k ts)(e:∀t∈ts,t.good)(h:qP H X k v ls):Wq H X v (ls.map (lth ts))/\∀l∈ls,l.1<ts.length/\l.2.1<ts.length:=by
 have(L,d,s,u,y,o,w):=h;have a:=g.length;have f:∀{d:List V}{ls:List Ln},Dg (iY H X k) d ls->Dg (qA H X) d (ls.map (lth ts))/\∀l∈ls,l.1<ts.length/\l.2.1<ts.length:=by
  intro d ls h;induction h with
  |nil=>exact{.nil,λl b=>nomatch b}
  |@cons v l d ls x t p=>
   have(c,G,I,F,B,C,q,r,D):=x;have i:l.1<ts.length:=by rw[<-a];exact(Gg.mp q).1
   have j:l.2.1<ts.length:=by rw[<-a];exact(Gg.mp r).1
   have(J,m,z):=g.at (Ws i);have(K,n,A):=g.at (Ws j);rw[q]at m;rw[r]at n;cases m;cases n;refine{.cons {c,G,I,F,B,C,z,A,D,e _ (Gc (Ws i)),e _ (Gc (Ws j))} p.1,λE b=>?_};rcases Tf.mp b with rfl|b
   .exact⟨i,j⟩
   .exact p.2 E b
 exact{{L,d,s,u,y,(f o).1,by rw[Gv];exact w},(f o).2}
structure oy(tl:Tl)(S:List Th)(rs:List Row):Prop where
 ex:∃L:Th->Nat,(∀s∈S,∀t∈S,L s=L t↔Cg tl s t)/\(∀t∈S,(t.word,t.parts.map L,L t)∈rs)/\∀r∈rs,∃t∈S,r=(t.word,t.parts.map L,L t)
 cl:∀t∈S,∀p∈t.parts,p∈S
 nd:(rs.map λr=>(r.1,r.2.1)).Nodup
 good:∀t∈S,t.good
 len:rs.length<=1000
theorem Qqs{c:Type}[DecidableEq c]{l S:List c}(nd:l.Nodup)(h:∀p∈l,p∈S):l.length<=S.length:=by
 induction l generalizing S with
 |nil=>simp
 |cons a r d=>rw[Dy]at nd;have:=d (S:=S.erase a) nd.2 λp b=>(Fs (show p≠a fromλz=>nd.1 (by rw[<-z];exact b))).mpr (h p (Gr _ b));have e:=LN (h a Tc);have f:0<S.length:=L9 (h a Tc);simp only[TB];ext
theorem wX(g:∀t∈ts,t.good)(nd:ts.Nodup)(n:U5 ts){m:List Row}(l:iM (tfs ts) x.S)(a:x.S.length<=1000)(W:uX (tfs ts) x m)(h:∀p∈x.S,∀q∈x.S,x.zg p=x.zg q↔Cg tl (tg ts p) (tg ts q)):oy tl (x.S.map (tg ts)) m:=by
 have u:∀p∈x.S,p<ts.length:=λp a=>by have:=l.lt p a;rwa[Ue]at this
 have b:∀p∈x.S,ts[p]?=Ga (tg ts p):=λp a=>Ws (u p a);have d:∀p∈x.S,tg ts p∈ts:=λp a=>Gc (b p a);have j:∀p∈x.S,ts.idxOf (tg ts p)=p:=λp a=>Oz nd (b p a);have(N,n1,n2,n3):=W.ex;have f:∀p∈x.S,Vy (tfs ts) x N p=((tg ts p).word,(tg ts p).parts.map (λt=>N (x.zg (ts.idxOf t))),N (x.zg (ts.idxOf (tg ts p)))):=λp a=>by have(e,k):=Vj (b p a);unfold Vy;rw[e,k,Dj,j p a];rfl
 exists {λt=>N (x.zg (ts.idxOf t)),λs hs t ht=>?_,λt ht=>?_,λr i=>?_},λt ht q c=>?_,W.nd,λt ht=>?_
 .obtain⟨p,a,rfl⟩:=Tw.mp hs;have(q,c,rfl):=Tw.mp ht;dsimp only;rw[j p a,j q c,<-h p a q c];exact{n1 p a q c,λe=>by rw[e]}
 .obtain⟨p,a,rfl⟩:=Tw.mp ht;rw[<-f p a];exact n2 p a
 .obtain⟨p,a,rfl⟩:=n3 r i;exact{_,Tw.mpr ⟨p,a,Xb⟩,f p a}
 .obtain⟨p,a,rfl⟩:=Tw.mp ht;have e:=We n (d p a) q c;have(_,k):=Vj (b p a);have:ts.idxOf q∈Zw (tfs ts) p:=by rw[k];exact Tw.mpr ⟨q,c,Xb⟩
  exact Tw.mpr {_,l.pts p a _ this,O5 e}
 .obtain⟨p,a,rfl⟩:=Tw.mp ht;exact g _ (d p a)
 .have e:=Qqs W.nd (S:=(x.S.map (Vy (tfs ts) x N)).map λr=>(r.1,r.2.1)) λz o=>by have(r,i,rfl):=Tw.mp o;have(p,a,rfl):=n3 r i;exact Tw.mpr {_,Tw.mpr ⟨p,a,Xb⟩,1}
  rw[Gv,Gv,Gv]at e;ext
def Vr(p t e:Gd):List (TQ×V):=[("places",.ref p),("told",.ref t),("entries",.ref e)]
theorem J0(p t e:Gd):(Vr p t e).lookup ("places":TQ)=Ga (.ref p):=by rfl
theorem n8(p t e:Gd):(Vr p t e).lookup ("told":TQ)=Ga (.ref t):=by rfl
theorem Je(p t e:Gd):(Vr p t e).lookup ("entries":TQ)=Ga (.ref e):=by rfl
theorem A5(p t e:Gd):(Vr p t e).lookup ("answer":TQ)=Gq:=by rfl
theorem Qq2(p t e:Gd):(Vr p t e).lookup ("go_back":TQ)=Gq:=by rfl
theorem KH(p t e:Gd):(Vr p t e).lookup ("tell":TQ)=Gq:=by rfl
theorem VW(p t e:Gd):(Vr p t e).lookup ("ask":TQ)=Gq:=by rfl
theorem Rg(p t e:Gd):(Vr p t e).lookup ("lines_for":TQ)=Gq:=by rfl
theorem Qsw(a f d:Gd):(Ry a f d).lookup ("things":TQ)=Ga (.ref a):=by rfl
theorem xp(a f d:Gd):(Ry a f d).lookup ("forms":TQ)=Ga (.ref f):=by rfl
theorem sX(a f d:Gd):(Ry a f d).lookup ("place_of":TQ)=Gq:=by rfl
theorem KM(p t e a:Gd):Y0 "told" (.ref a) (Vr p t e)=Vr p a e:=by rfl
theorem tY(p t e a:Gd):Y0 "entries" (.ref a) (Vr p t e)=Vr p t a:=by rfl
def iR(ts:List Th):List En->Tl->Prop:=Dg λ(e:En)(p:Bool×Th×Th)=>e.1=tw p.1/\ts[e.2.1]?=Ga p.2.1/\ts[e.2.2]?=Ga p.2.2
structure Uo(P:Gn)(w:Tg)(CP CB:Gd)(H:Hp)(bk p a f d t e:Gd)(ts:List Th)(tl:Tl):Prop where
 ob:∃dx,H bk=Ga (.ins CB dx (Vr p t e))
 pl:Pl P w CP H p a f d ts
 to:∃vs,H t=Ga (.lst vs)/\Um H vs tl
 en:∃es ens,H e=Ga (.lst es)/\Dg (iD H) es ens/\iR ts ens tl
 ta:t≠a
 tf:t≠f
 te:t≠e
 ea:e≠a
 ef:e≠f
structure jc(U ts:List Th)(tl:Tl):Prop where
 sub:∀t∈ts,t∈U
 cl:U5 U
 good:∀t∈U,t.good
 len:U.length<=60
 tl:tl.length<=900
theorem Qwc{l S:List Th}(nd:l.Nodup)(h:∀p∈l,p∈S):l.length<=S.length:=by
 induction l generalizing S with
 |nil=>simp
 |cons a r c=>rw[Dy]at nd;have:=c (S:=S.erase a) nd.2 λp b=>(Fs (show p≠a fromλz=>nd.1 (by rw[<-z];exact b))).mpr (h p (Gr _ b));have e:=LN (h a Tc);have d:0<S.length:=L9 (h a Tc);simp only[TB];ext
theorem jc.le(h:jc U ts tl)(nd:ts.Nodup):ts.length<=60:=DA (Qwc nd h.sub) h.len
def sf(tl b:Tl)(n:Nat)(a c:Th):Prop:=tl[n]?=Ga (Gx,a,c)/\Cg b a c/\∀(j:Nat)d e,j<n->tl[j]?=Ga (Gx,d,e)->¬Cg b d e
def Vw(H:Hp)(X:Gd->Prop)(tl:Tl):Dd->V->Prop
 |.back i,v=>v=(Up tl (.back i)).2
 |.tell b s t,v=>(¬Xr (tl++[(b,s,t)])/\v=.int ((tl.length:Int)+1))\/
   ∃d n a c e ls,v=.ref d/\H d=Ga (.tup [.str "clash",jv n,e])/\sf (tl++[(b,s,t)]) (tl++[(b,s,t)]) n a c/\Wq H X e ls/\mr (tl++[(b,s,t)]) Gq ls/\∃r,ls.getLast?=Ga (a,c,r)
 |.ask s t,v=>(Cg tl s t/\∃d e ls,v=.ref d/\H d=Ga (.tup [.str "equal",e])/\Wq H X e ls/\mr tl Gq ls/\∃r,ls.getLast?=Ga (s,t,r))\/
   (¬Cg tl s t/\∃d n a c e ls,v=.ref d/\H d=Ga (.tup [.str "unlike",jv n,e])/\sf tl (tl++[(Gi,s,t)]) n a c/\Wq H X e ls/\mr tl (Ga (s,t)) ls/\∃r,ls.getLast?=Ga (a,c,r))\/
   (¬Cg tl s t/\(∀a c,(Gx,a,c)∈tl->¬Cg (tl++[(Gi,s,t)]) a c)/\∃d h j f g S,v=.ref d/\H d=Ga (.tup [.str "open",h,j])/\Jb H X h f/\Jb H X j g/\oy tl S f/\oy (tl++[(Gi,s,t)]) S g/\s∈S/\t∈S/\∀b a c,(b,a,c)∈tl->a∈S/\c∈S)
theorem Vw.kp{X:Gd->Prop}{H u:Hp}(f:Q7 H u)(p:∀{c:Gd}{b:List V},H c=Ga (.lst b)->¬X c->u c=Ga (.lst b)){z:Tl}:∀{d:Dd}{v:V},Vw H X z d v->Vw u X z d v
 |.back i,v,h=>h
 |.tell b s t,v,h=>by
  rcases h with h|⟨g,n,a,c,r,q,j,k,l,m,o⟩
  .exact .inl h
  .exact .inr {g,n,a,c,r,q,j,f _ _ k,l,m.kp f p,o}
 |.ask s t,v,h=>by
  rcases h with⟨b,g,r,q,j,k,l,m⟩|⟨b,g,n,a,c,r,q,j,k,l,m,o⟩|⟨b,w,g,A,B,x,y,S,j,k,l,m,o⟩
  .exact .inl {b,g,r,q,j,f _ _ k,l.kp f p,m}
  .exact .inr (.inl {b,g,n,a,c,r,q,j,f _ _ k,l,m.kp f p,o})
  .exact .inr (.inr {b,w,g,A,B,x,y,S,j,f _ _ k,l.kp (λe=>f _ _ e) p,m.kp (λe=>f _ _ e) p,o})
theorem Vw.ex{X Y:Gd->Prop}{H:Hp}(m:∀c b,H c=Ga (.lst b)->¬X c->¬Y c){w:Tl}:∀{d:Dd}{v:V},Vw H X w d v->Vw H Y w d v
 |.back i,v,h=>h
 |.tell b s t,v,h=>by
  rcases h with h|⟨e,n,a,c,p,o,f,g,j,k,l⟩
  .exact .inl h
  .exact .inr {e,n,a,c,p,o,f,g,j,k.ex m,l}
 |.ask s t,v,h=>by
  rcases h with⟨b,e,p,o,f,g,j,k⟩|⟨b,e,n,a,c,p,o,f,g,j,k,l⟩|⟨b,q,e,x,y,r,u,S,f,g,j,k,l⟩
  .exact .inl {b,e,p,o,f,g,j.ex m,k}
  .exact .inr (.inl {b,e,n,a,c,p,o,f,g,j,k.ex m,l})
  .exact .inr (.inr {b,q,e,x,y,r,u,S,f,g,j.ex m,k.ex m,l})
theorem XJ(h:t.good):t.parts.length<=100:=by
 cases t with
 |mk u a=>have:=Zj a;have:=h.2.2;simp only[Th.size]at this;simp only[Th.parts];lia
theorem OL{p:Th}(h:p∈t.parts):p.depth<t.depth:=by
 cases t with
 |mk u a=>simp only[Th.parts]at h;have:=Wl h;simp only[Th.depth];ext
theorem ZH(h:t.ok=Gi):DM t.word=Gi:=by
 cases t with
 |mk u a=>simp only[Th.ok,T5]at h;exact h.1
theorem z8(h:¬p<ts.length):Yr (tfs ts) p=Lp/\Zw (tfs ts) p=[]:=by unfold Yr Zw tfs;rw[DL,Df (by rw[Gv];ext)];exact⟨Xb,Xb⟩
theorem vr(nd:ts.Nodup)(d:U5 ts)(e:∀t∈ts,t.good)(a:ts.length<=60):rb (tfs ts) (λp=>(tg ts p).depth)/\∀p,(tg ts p).depth<59:=by
 have a:∀{p:Nat},p<ts.length->tg ts p∈ts:=λh=>Gc (Ws h);refine{{λp=>?_,λp=>?_,λp b q c=>?_,λp q b c f g=>?_,by rw[Ue];ext},λp=>?_}
 .by_cases h:p<ts.length
  .rw[(Vj (Ws h)).1];exact ZH (e _ (a h)).1
  .rw[(z8 h).1];decide+kernel
 .by_cases h:p<ts.length
  .rw[(Vj (Ws h)).2,Gv];exact XJ (e _ (a h))
  .rw[(z8 h).2];exact Tu _
 .rw[Ue]at b⊢;rw[(Vj (Ws b)).2]at c;have(s,hs,rfl):=Tw.mp c;have:=We d (a b) s hs;exists Sh this;rw[O5 this];exact OL hs
 .rw[Ue]at b c;have(k,i):=Vj (Ws b);have(l,j):=Vj (Ws c);rw[k,l]at f;rw[i,j]at g;have:=rq (ts:=ts) (We d (a b)) (We d (a c)) (RN f g);rw[<-Oz nd (Ws b),<-Oz nd (Ws c),this]
 .by_cases h:p<ts.length
  .have:=(e _ (a h)).2.1;ext
  .have:tg ts p=.mk Lp []:=by unfold tg;rw[DL,Df (by ext)];rfl
   rw[this];simp[Th.depth,Vi]
theorem q9(h:("same":TQ)=tw b):b=Gi:=by
 cases b with
 |true=>rfl
 |false=>exact absurd h (by decide+kernel)
theorem Qmr(h:("unlike":TQ)=tw b):b=Gx:=by
 cases b with
 |true=>exact absurd h (by decide+kernel)
 |false=>rfl
theorem nt(R:iR ts ens tl){k:TQ}(h:ens[j]?=Ga (k,p,q)):∃b,k=tw b/\tl[j]?=Ga (b,tg ts p,tg ts q):=by have((b,s,t),a,c,d,e):=Qy R h;exact{b,c,by rw[a,Jl d,Jl e]}
theorem nr(R:iR ts ens tl){s:Th}(h:tl[j]?=Ga (b,s,t)):∃p q,ens[j]?=Ga (tw b,p,q)/\ts[p]?=Ga s/\ts[q]?=Ga t:=by
 have g:=GQ R;have c:j<ens.length:=by rw[g];exact(Gg.mp h).1
 have((i,k,l),a,d,e,f):=Qy R (Ge c);rw[h]at a;cases a;refine{ens[j].2.1,ens[j].2.2,?_,e,f};rw[Ge c,<-d]
theorem tz{c:List En}(R:iR ts ens tl)(g:∀p q,sme p q∈c↔sme p q∈ens):
  (∀a b,(Gi,a,b)∈tl->∃p q,(p,q)∈lV c/\ts[p]?=Ga a/\ts[q]?=Ga b)/\∀p q,(p,q)∈lV c->(Gi,tg ts p,tg ts q)∈tl:=by
 constructor
 .intro a b h;have(j,f):=Dl.mp h;have(p,q,e,d,i):=nr R f;exact{p,q,U4.mpr ((g p q).mpr (Gc e)),d,i}
 .intro p q h;have(j,f):=Dl.mp ((g p q).mp (U4.mp h));have(b,e,d):=nt R f;rw[q9 e]at d;exact Gc d
theorem u9{b:Tl}(R:iR ts ens tl)(k:∀e∈ens,e.2.1∈x.S/\e.2.2∈x.S)(f:∀p∈x.S,∀q∈x.S,x.zg p=x.zg q↔Cg b (tg ts p) (tg ts q))(h:ro x ens Gq):∀a c,(Gx,a,c)∈tl->¬Cg b a c:=λa c n l=>by have(j,m):=Dl.mp n;have(p,q,d,g,i):=nr R m;have(o,r):=k _ (Gc d);refine h j p q d ((f p o q r).mpr ?_);rw[Jl g,Jl i];exact l
theorem xw{a:Tl}{n:Nat}(R:iR ts ens tl)(l:∀e∈ens,e.2.1∈x.S/\e.2.2∈x.S)(i:∀p∈x.S,∀q∈x.S,x.zg p=x.zg q↔Cg a (tg ts p) (tg ts q))(h:ro x ens (Ga n)):
  ∃p q,ens[n]?=Ga (unl p q)/\x.zg p=x.zg q/\p∈x.S/\q∈x.S/\sf tl a n (tg ts p) (tg ts q):=by
 have((p,q,c,k),u):=h;have(r,t):=l _ (Gc c);have(b,v,ht):=nt R c;rw[Qmr v]at ht;refine{p,q,c,k,r,t,ht,(i p r q t).mp k,λj B C y d w=>?_};have(o,s,m,z,A):=nr R d;have(f,g):=l _ (Gc m);refine u j o s y m ((i o f s g).mpr ?_);rw[Jl z,Jl A];exact w
structure iV(K:Gf)(mg:TQ->Option Gj)(C:Gd):Prop where
 cl:ic K C
 places:Xf K C "places"
 told:Xf K C "told"
 entries:Xf K C "entries"
 mgC:mg "Book"=Ga (.ref C)
 no:∃u,mg "NO_MOMENT"=Ga u/\zu (.str "no moment") u
structure Kf(fs:List Fm)(x:Nn):Prop where
 inv:Wx (Yr fs) (Zw fs) x []
 fok:iM fs x.S
 len:x.S.length<=60
 lk:x.zt.length<64
 few:∀p,(Zw fs p).length<=100
inductive tm(P:Gn)(w:Tg)(C:Gd)(CP:Gd)(CB:Gd)(vs:List V)(H:Hp)(Q:VK):Prop
 |mk (bk:Gd) (p:Gd) (a:Gd) (f:Gd) (d:Gd) (t:Gd) (e:Gd) (ts:List Th) (tl:Tl) (n:Gd) (A:Na) (tb:Nat) (x:Nn) (ev:V) (k:TQ) (p1:Nat) (p2:Nat) (h0:vs=[.ref bk,.ref n,ev]) (h1:Uo P w CP CB H bk p a f d t e ts tl) (h2:iD H ev (k,p1,p2)) (h3:Yn P w C H n A (tfs ts) tb x) (h4:Kf (tfs ts) x) (h5:p1∈x.S) (h6:p2∈x.S) (h7:x.zg p1=x.zg p2) (h8:(∀t∈ts,t.good)) (h9:∀(v:V)(ls:List Ln)(H':Hp),Q9 H H'->Wq H' (λb=>∃o,H b=Ga o) v (ls.map (lth ts))->(∀l∈ls,l.1<ts.length/\l.2.1<ts.length)->iZ (tfs ts) x.zt ls->(∃r,ls.getLast?=Ga (p1,p2,r))->Q v H'):tm P w C CP CB vs H Q
def O7(P:Gn)(w:Tg)(C b a:Gd):Sp:=λc H Q _=>tm P w C b a c H Q
section
variable{P:Gn}{w:Tg}{K:Gf}{mg:TQ->Option Gj}{base:Heap}
theorem Uo.same{i c:Gd}{H j:Hp}{bk p a f d t e:Gd}{l:List Th}{k:Tl}(B:Uo P w i c H bk p a f d t e l k)(g:Q9 H j):Uo P w i c j bk p a f d t e l k:=by have(m,s):=B.ob;have(x,u,v):=B.to;have(r,b,n,o,q):=B.en;exact{{m,g _ _ s},B.pl.same g,{x,g _ _ u,v.Qv (Q7.of g)},{r,b,g _ _ n,Qr o λ_ _ h=>h.Qv (Q7.of g),q},B.ta,B.tf,B.te,B.ea,B.ef}
theorem XY:Q8 ["self","net","entry"] ["self","net","entry"] (Qo qQ):=by eq_refl
theorem VF(F:Wg K "lines_for" "Book.lines_for" qQ f0 fd)(h:iV K mg CB)(TP:iJ K mg CP)(z:Q3 P w K mg base Ya 6 fB fdB ["things","net","one","other"] (wG P w C))(S:KI K fB)(E:zk K fdB ["things","net","one","other"] [])(W:MG mg "lines_between" fB):
  Q3 P w K mg base Ya 7 f0 fd ["self","net","entry"] (O7 P w C CP CB):=by
 refine F.ok XY (λvs A D y g=>?_) (λab e ac s A vs D y R g=>?_)
 .obtain⟨i,p,a,J,d,t,I,u,tl,n,e,r,x,ev,k,m,o,rfl,_⟩:=g;rfl
 have(i,p,a,J,d,t,I,u,tl,n,e,r,x,ev,k,m,o,rfl,f,(c,rfl,l),X,b,pS,qS,M,L,q):=g;exists _,Qg (Qt (Za z R rfl W S E .nil Q5 (Qa (Qx (Qx {0} rfl) rfl) (Qa {1} (Qa (Qn Qs {2} Qi) (Qa (Qn Qs {2} Qi) Qd))))));subst_vars;have(H,Y):=f.ob;have(G,Z):=f.pl.ob;have(us,u1,v):=f.pl.th;and_intros;refine{0,i,CB,H,30,Y,h.cl,h.places,J0 _ _ _,p,CP,G,30,Z,TP.cl,TP.nT,Qsw _ _ _,00,c,201,Qj l,Rh _ _ _,0,c,201,Qj l,jt _ _ _ _,a,n,e,tfs u,r,x,us,m,o,1,X,b.inv,b.fok,pS,qS,M,b.len,b.lk,b.few,u1,by rw[Ue,v.length],λaa V B j O N Q=>?_};have(T,U):=WO (v.same j) L O;exact q aa V B j T U N Q
end
theorem ij.same{P:Gn}{w:Tg}{C:Gd}{b H a:Hp}{n:Gd}{A:Na}{c:List Fm}{d:Nat}{x:Nn}(N:ij P w C b H n A c d x)(g:Q9 H a):ij P w C b a n A c d x:={N.at_.same g,N.inv,N.fok,N.new,N.nn,N.sam.trans g,N.len,N.tt,N.cl,N.tbb}
theorem ij.lng{b:Hp}(N:ij P w C b H n A fs tb x)(a:∀p,(Zw fs p).length<=100):Kf fs x:={N.inv,N.fok,N.len,by have:=N.cl;have:=N.len;lia,a}
theorem ij.room{b:Hp}(N:ij P w C b H n A fs tb x):x.S.length<=10000/\Ja x<=10000/\cls x+x.zt.length<=10000/\tb+cls x*Ja x<=900000:=by
 have c:=N.len;have a:=N.tt;have d:=N.cl;have e:=N.tbb;have f:x.zt.length*Ja x+cls x*Ja x<=60*6000:=by rw[<-S9];exact BP (by lia) a
 exact{by lia,by lia,by lia,by lia}
inductive wB(P:Gn)(w:Tg)(CP:Gd)(CB:Gd)(vs:List V)(H:Hp)(Q:VK):Prop
 |mk (bk:Gd) (p:Gd) (a:Gd) (f:Gd) (d:Gd) (t:Gd) (e:Gd) (ts:List Th) (tl:Tl) (U:List Th) (ev:V) (p1:Nat) (p2:Nat) (h0:vs=[.ref bk,ev]) (h1:Uo P w CP CB H bk p a f d t e ts tl) (h2:jc U ts tl) (h3:iD H ev (("ask":TQ),p1,p2)) (h4:p1<ts.length) (h5:p2<ts.length) (h6:∀(v:V)(H':Hp),Q9 H H'->Vw H' (λb=>∃o,H b=Ga o) tl (.ask (tg ts p1) (tg ts p2)) v->Q v H'):wB P w CP CB vs H Q
def zO(P:Gn)(w:Tg)(b a:Gd):Sp:=λc H Q _=>wB P w b a c H Q
theorem tH(R:iR ts ens tl):∀e∈ens,e.2.1<ts.length/\e.2.2<ts.length:=λe c=>by have(j,d):=Dl.mp c;have(y,_,_,a,b):=Qy R d;exact{(Gg.mp a).1,(Gg.mp b).1}
theorem pH(h:∃r,ls.getLast?=Ga (p,q,r)):∃r,(ls.map (lth ts)).getLast?=Ga (tg ts p,tg ts q,r):=by have(r,h):=h;exact{r,by rw[List.getLast?_map,h];rfl}
section
variable{P:Gn}{w:Tg}{K:Gf}{mg:TQ->Option Gj}{base:Heap}
theorem z9:Q8 ["self","entry","net","apart","number"] ["self","entry"] (Qo jd):=by eq_refl
theorem UE{fE fM fC:Gd}{aF aG aE:Do}(F:Wg K "ask" "Book.ask" jd f0 fd)(E:iV K mg CB)(TP:iJ K mg CP)(TN:Jj K mg C)
  (GN:Q3 P w K mg base Ya 61 fN fdN ["forms","told"] (rX P w C))(kN:KI K fN)(bN:zk K fdN ["forms","told"] [])(mN:MG mg "net_of" fN)
  (mE:Yq K C "equal" fE)(GE:Q3 P w K mg base Ya 1 fE aF ["self","one","other"] (oi P w C))(bE:zk K aF ["self","one","other"] [])(mR:Yq K C "rows" fR)(GR:Q3 P w K mg base Ya 2 fR fdR ["self"] (yu P w C))(bR:zk K fdR ["self"] [])
  (mM:Yq K C "merge" fM)(GM:Q3 P w K mg base Ya 4 fM aG ["self","one","other","reason"] (pF P w C))(bM:zk K aG ["self","one","other","reason"] [])
  (GC:Q3 P w K mg base Ya 2 fC aE ["net","entries"] (rW P w C))(kC:KI K fC)(bC:zk K aE ["net","entries"] [])(mC:MG mg "least_clash" fC)
  (mL:Yq K CB "lines_for" fL)(GL:Q3 P w K mg base Ya 7 fL fdL ["self","net","entry"] (O7 P w C CP CB))(bL:zk K fdL ["self","net","entry"] []):
  Q3 P w K mg base Ya 62 f0 fd ["self","entry"] (zO P w CP CB):=by
 refine F.ok z9 (λQ ab A v b=>?_) (λS U T s ab Q A v hr b=>?_)
 .obtain⟨M,p,a,ah,d,t,k,h,X,Y,ev,f,g,rfl,_⟩:=b;rfl
 have(M,p,a,ah,d,t,k,h,X,Y,ev,f,g,rfl,W,r,(l,rfl,ac),aH,aI,q):=b;have aZ:Yl 1 _:=hr.mono (by lia);have aq:Yl 2 _:=hr.mono (by lia);have a1:Yl 4 _:=hr.mono (by lia);have aJ:Yl 7 _:=hr.mono (by lia);have nd:=z9.nd;show∃t,W0 ?my _ t/\_;let w7:Xk ?my jd 6:={_,Qg (Qt (Ze (Qa Zh (Qa {3} (Qa (yN {2} TN.cl mR GR aq bR .nil Q5) Qd)))))}
 let w6:Xk ?my jd 5:=⟨_,Qc (Zb (Qp lW {4} U7 (Qu _))
   (Qg (Qt (Ze (Qa Zh (Qa {4} (Qa (Zn {0} E.cl mL GL aJ bL .nil Q5 (Qa {2} (Qa (Qn Zd (Qx {0} rfl) {4}) Qd))) Qd)))))) Qw) w7.2⟩
 let w5:Xk ?my jd 4:={_,Qc (Qz 4 nd (Za GC aq rfl mC kC bC .nil Q5 (Qa {2} (Qa (Qx {0} rfl) Qd)))) w6.2}
 let w4:Xk ?my jd 3:={_,Qc (Zl (Zn {2} TN.cl mM GM a1 bM .nil Q5 (Qa (Qn Qs {1} Qi) (Qa (Qn Qs {1} Qi) (Qa (Ze (Qa Zh Qd)) Qd))))) w5.2}
 let w3:Xk ?my jd 2:={_,Qc (Qz 3 nd (yN {2} TN.cl mR GR aq bR .nil Q5)) w4.2}
 let w2:Xk ?my jd 1:=⟨_,Qc (Zb (Z1 (Zn {2} TN.cl mE GE aZ bE .nil Q5 (Qa (Qn Qs {1} Qi) (Qa (Qn Qs {1} Qi) Qd))))
   (Qg (Qt (Ze (Qa Zh (Qa (Zn {0} E.cl mL GL aJ bL .nil Q5 (Qa {2} (Qa {1} Qd))) Qd))))) Qw) w3.2⟩
 exists _,Qc (Qz 2 nd (Za GN hr rfl mN kN bN .nil Q5 (Qa (Qx (Qx {0} rfl) rfl) (Qa (Zf Wc (Qx {0} rfl) (Zt (Qa {1} Qd))) Qd)))) w2.2;subst_vars;have(dx,o1):=W.ob;have(dp,o2):=W.pl.ob;have(ws,f1,f2):=W.pl.fo;have(I,H,e1,e2,R):=W.en;have ad:=W.pl.nd;have Z:=W.pl.cl;have aP:=r.le ad;have(TK,a2):=vr ad Z (λt ht=>r.good t (r.sub t ht)) aP;and_intros;have a3:I.length=X.length:=(GQ e2).trans (GQ R);have a4:=r.tl;refine{0,M,CB,dx,30,o1,E.cl,E.places,J0 _ _ _,p,CP,dp,30,o2,TP.cl,TP.nF,xp _ _ _,0,M,CB,dx,30,o1,E.cl,E.entries,Je _ _ _,0,Wz,λr0 aY=>?_};have s0:=Qf aY (.lst [.ref l]);refine{k,r0,I,[.ref l],11,s0 _ _ e1,Qb,by rw[TJ];simp only[Gy];lia,λr1 a0=>?_};have s1:=s0.trans (Qf a0 (.lst (I++[.ref l])));have g1:(zj (zj ab r0 (.lst [.ref l])) r1 (.lst (I++[.ref l]))) r1=Ga (.lst (I++[.ref l])):=Qb;generalize zj (zj ab r0 (.lst [.ref l])) r1 (.lst (I++[.ref l]))=H1 at s1 g1;have ar:=Q7.of s1;have aM:Dg (iD H1) (I++[.ref l]) (H++[(("ask":TQ),f,g)]):=E2 (Qr e2 λ_ _ b=>b.Qv ar) {l,1,ar _ _ ac};refine{ah,r1,ws,_,tfs h,30,s1 _ _ f1,Qr f2 λ_ _ b=>b.Qv ar,g1,aM,TK,by rw[Ue];exact aP,a2,λG ao=>?_,by rw[<-GQ aM,Gk,Gy];lia,λn U tb x H2 i _ Y=>?_}
 .rw[Ue];rcases Gh.mp ao with b|b
  .exact tH R G b
  .have:G=(("ask":TQ),f,g):=by simpa using b
   rw[this];exact⟨aH,aI⟩
 have L:Q9 ab H2:=s1.trans i.sam;have B:∀p q,sme p q∈H++[(("ask":TQ),f,g)]↔sme p q∈H:=λp q=>by
  rw[Gh];constructor
  .rintro(b|b)
   .exact b
   .rw[Tb]at b;exact absurd (show("same":TQ)="ask"from congrArg (·.1) b) (by decide+kernel)
  .exact .inl
 have(aN,aO):=tz R B;have EQ:=tU Y;have an:∀p∈x.S,∀q∈x.S,x.zg p=x.zg q↔Cg X (tg h p) (tg h q):=λp hp q hq=>EQ.cg ad Z i.inv i.fok aN aO hp hq;have aQ:∀a e n,(a,e,Ga (.told n))∈x.zt->X[n]?=Ga (Gi,tg h a,tg h e):=λa e n b=>by
  rcases Y.rsn _ b with z|⟨j,p',q',J,m⟩
  .cases z
  .cases J;have hj:n<H.length:=by
    rcases Dh n H.length with b|b
    .exact b
    .rw[TR b]at m;have:n - H.length=0:=by
      rcases Dh (n - H.length) 1 with v|v
      .lia
      .rw[Df (by simpa using v)]at m;cases m
     rw[this]at m;have m:((("ask":TQ),f,g):En)=sme a e:=by simpa using m
     exact absurd (show("ask":TQ)="same"from congrArg (·.1) m) (by decide+kernel)
   rw[Tt hj]at m;have(Q,h3,A):=nt R m;rw[q9 h3]at A;exact A
 have aL:∀a e,¬(a,e,Ga Ie.asked)∈x.zt:=λa e b=>by
  rcases Y.rsn _ b with z|⟨j,p',q',J,m⟩
  .cases z
  .cases J
 have(N,O):=Y.ins (("ask":TQ),f,g) (by simp);have N:f∈x.S:=N;have O:g∈x.S:=O;have aK:∀G∈H,G.2.1∈x.S/\G.2.2∈x.S:=λG ao=>Y.ins G (Gu _ ao);have(dn,on):=i.at_.ob;exists 0,n,dn,0,on,qO _,0,l,201,Qj (L _ _ ac),Rh _ _ _,0,l,201,Qj (L _ _ ac),jt _ _ _ _,n,U,_,tb,x,f,g,1,i.at_,N,O,0;by_cases ag:x.zg f=x.zg g
 .rw[Ti ag];refine Yp ?_;have hC:=(an f N g O).mp ag;refine{0,M,dx,0,L _ _ o1,Rg _ _ _,00,M,p,a,ah,d,t,k,h,X,n,U,tb,x,.ref l,_,f,g,1,W.same L,{l,1,L _ _ ac},i.at_,i.lng TK.few,N,O,ag,(λt ht=>r.good t (r.sub t ht)),λlv ls H3 g3 hl hb hg ap=>?_};refine{Yy,λA Q=>?_};have v:=Qf Q (.tup [.str "equal",lv]);refine q _ _ ((L.trans g3).trans v) (.inl {hC,A,lv,ls.map (lth h),1,Qb,(hl.ex (by rintro c D _ B ⟨o,ho⟩;exact B {o,L _ _ ho})).kp (Q7.of v) (λk _=>v _ _ k),rQ Z hg hb aQ (λa e b=>absurd b (aL a e)),pH ap})
 .rw[Td ag];refine Q4 ?_;have hC:¬Cg X (tg h f) (tg h g):=λz=>ag ((an f N g O).mpr z);refine{0,n,dn,0,on,yf _,n,U,_,tb,x,1,i.at_,i.fok,i.inv,by have:=i.len;lia,λv1 aW H3 g3 aT W1=>?_};have S3:=L.trans g3;have N3:=i.same g3;refine{0,n,dn,0,g3 _ _ on,ym _,0,l,201,Qj (S3 _ _ ac),Rh _ _ _,0,l,201,Qj (S3 _ _ ac),jt _ _ _ _,Wz,λc4 aS=>?_};have s4:=Qf aS (.tup [.str "asked"]);have N4:=N3.same s4;have(z1,z2,z3,z4):=i.room;refine{n,U,_,tb,x,f,g,.ref c4,Ga .asked,1,N4.at_,i.fok,⟨c4,Xb,Qb⟩,by simp,N,O,i.inv,z1,z2,z3,z4,λA H5 Y5 M5 F5=>?_};have Q:=N4.merged Y5 M5 F5;have S5:Q9 ab H5:=s1.trans Q.sam;have aR:=Q0n EQ M5 N O;have eS:=M5.S;have ai:∀p∈A.S,∀q∈A.S,A.zg p=A.zg q↔Cg (X++[(Gi,tg h f,tg h g)]) (tg h p) (tg h q):=λp hp q hq=>aR.cg ad Z Q.inv Q.fok (λa e b=>by
   rcases Gh.mp b with b|b
   .obtain⟨u,af,J,m⟩:=aN a e b;exact{u,af,Gu _ J,m}
   .have:(Gi,a,e)=(Gi,tg h f,tg h g):=by simpa using b
    cases this;exact{f,g,by simp,Ws aH,Ws aI}) (λu af b=>by
   rcases Gh.mp b with b|b
   .exact Gu _ (aO u af b)
   .have:(u,af)=(f,g):=by simpa using b
    cases this;simp) hp hq
  have ak:∀G∈H,G.2.1∈A.S/\G.2.2∈A.S:=by rw[eS];exact aK
  refine{00,M,CB,dx,30,S5 _ _ o1,E.cl,E.entries,Je _ _ _,n,k,U,2,A,I,H,1,Q.at_,S5 _ _ e1,Qr e2 λ_ _ b=>b.Qv (Q7.of S5),ak,λo H6 g6 au=>?_};have v:=S5.trans g6;have S:=Q.same g6;have aX:∀{c:Gd}{D:List V},H3 c=Ga (.tup D)->H6 c=Ga (.tup D):=λ{c D}ec=>g6 _ _ (F5.keep _ _ (s4 _ _ ec) (N4.at_.sv (s4 _ _ ec)));have aV:∀{c:Gd}{D:List V},H3 c=Ga (.lst D)->¬(∃o,H2 c=Ga o)->H6 c=Ga (.lst D):=λ{c D}ec B=>g6 _ _ (F5.keep _ _ (s4 _ _ ec) (λz=>B (by have:=i.at_.own z;rcases this with⟨_,b⟩|⟨_,b⟩|⟨_,b⟩|⟨_,b⟩<;>exact⟨_,b⟩)))
  have aU:=(aT.kp aX aV).ex (Y:=λe=>∃o,ab e=Ga o) (by rintro c D _ B ⟨o,ho⟩;exact B {o,L _ _ ho});exists 4010;rw[ot];cases o with
  |some ae=>
   refine Yp ?_;have(p',q',J,m,al,am,aC):=xw R ak ai au;have hm:ae<I.length:=by rw[GQ e2];exact(Gg.mp J).1
   have(y,hy,aD):=Qy e2 (Ge hm);rw[J]at hy;cases hy;have(cm,aA,aB):=aD;refine{00,M,dx,0,v _ _ o1,Rg _ _ _,00,M,CB,dx,30,v _ _ o1,E.cl,E.entries,Je _ _ _,0,k,I,301,Qk (v _ _ e1),Zk (Ge hm),M,p,a,ah,d,t,k,h,X,n,U,_,A,2,p',q',1,W.same v,{cm,aA,v _ _ aB},S.at_,S.lng TK.few,al,am,m,(λt ht=>r.good t (r.sub t ht)),λlv ls H7 g7 hl hb hg ap=>?_};refine{Vm,λc8 aj=>?_};have T:=Qf aj (.tup [.str "unlike",jv ae,lv]);refine q _ _ ((v.trans g7).trans T) (.inr (.inl {hC,c8,ae,2,lv,ls.map (lth h),1,Qb,aC,(hl.ex (by rintro c D _ B ⟨o,ho⟩;exact B {o,v _ _ ho})).kp (Q7.of T) (λk _=>T _ _ k),rQ Z hg hb (λa e n b=>?_) (λa e b=>?_),pH ap}))
   .rcases M5.rsn _ b with z|z|z
    .exact aQ a e n z
    .cases z
    .cases z
   .rcases M5.rsn _ b with z|z|z
    .exact absurd z (aL a e)
    .cases z;rfl
    .cases z
  |none=>refine Q4 ?_;have aw:=u9 R ak ai au;have(av,ay):=S.at_.ob;refine{00,n,av,0,ay,yf _,n,U,2,A,1,S.at_,S.fok,S.inv,by have:=S.len;lia,λv2 az H7 g7 ax W2=>?_};refine{Vm,λc8 aj=>?_};have T:=Qf aj (.tup [.str "open",v1,v2]);have aa:=g7.trans T;refine q _ _ (v.trans aa) (.inr (.inr {hC,aw,c8,v1,v2,aW,az,x.S.map (tg h),1,Qb,aU.kp (λk=>aa _ _ k) (λk _=>aa _ _ k),(ax.ex (by rintro c D _ B ⟨o,ho⟩;exact B {o,v _ _ ho})).kp (λk=>T _ _ k) (λk _=>T _ _ k),wX (λt ht=>r.good t (r.sub t ht)) ad Z i.fok (by have:=i.len;lia) W1 an,by rw[<-eS];exact wX (λt ht=>r.good t (r.sub t ht)) ad Z Q.fok (by have:=Q.len;lia) W2 ai,Tw.mpr ⟨f,N,Xb⟩,Tw.mpr ⟨g,O,Xb⟩,λe a c hm=>?_}));have(j,hj):=Dl.mp hm;have(p',q',J,m,h3):=nr R hj;have(al,am):=aK _ (Gc J);exact{Tw.mpr {p',al,Jl m},Tw.mpr {q',am,Jl h3}}
end
theorem As(a:List V){i:Int}(b:0<=i)(b:i<=(a.length:Int)):Jf a Gq (Ga i)=a.take i.toNat:=by
 unfold Jf;rw[HT.Rt];have:HT.Vc a.length a.length (Ga i)=i.toNat:=by show(if i<0 then(i+(a.length:Int)).toNat else min i.toNat a.length)=_;rw[Gs (by lia)];lia
 rw[this];simp
theorem yd(a f d p t e:Gd){c g b:Gd}:HO.ins C g (Ry a f d)=HO.ins c b (Vr p t e)->False:=λz=>by injection z with _ _ z;unfold Ry Vr at z;injection z with z _;injection z with z _;exact absurd z (by decide+kernel)
theorem Qu6(R:iR ts ens tl)(k:Nat):iR ts (ens.take k) (tl.take k):=by
 induction R generalizing k with
 |nil=>simp;exact .nil
 |cons h t a=>
  cases k with
  |zero=>exact .nil
  |succ k=>exact .cons h (a k)
theorem Rf{c d:Type}{F:c->d->Prop}{a:List c}{b:List d}(R:Dg F a b)(k:Nat):Dg F (a.take k) (b.take k):=by
 induction R generalizing k with
 |nil=>simp;exact .nil
 |cons h t e=>
  cases k with
  |zero=>exact .nil
  |succ k=>exact .cons h (e k)
structure uW(bk t:Gd)(H H':Hp):Prop where
 keep:∀b o,H b=Ga o->b≠bk->b≠t->H' b=Ga o
 there:∀b,H' b=Gq->H b=Gq
inductive uM(P:Gn)(w:Tg)(CP:Gd)(CB:Gd)(vs:List V)(H:Hp)(Q:VK):Prop
 |mk (bk:Gd) (p:Gd) (a:Gd) (f:Gd) (d:Gd) (t:Gd) (e:Gd) (ts:List Th) (tl:Tl) (U:List Th) (dv:V) (ev:V) (b:Bool) (p1:Nat) (p2:Nat) (h0:vs=[.ref bk,dv,ev]) (h1:Uo P w CP CB H bk p a f d t e ts tl) (h2:jc U ts tl) (h3:iF H dv (.tell b (tg ts p1) (tg ts p2))) (h4:iD H ev (tw b,p1,p2)) (h5:p1<ts.length) (h6:p2<ts.length) (h7:∀(v:V)(e':Gd)(H':Hp),Uo P w CP CB H' bk p a f d t e' ts (Up tl (.tell b (tg ts p1) (tg ts p2))).1->Vw H' (λb=>∃o,H b=Ga o) tl (.tell b (tg ts p1) (tg ts p2)) v->uW bk t H H'->(e'=e\/H e'=Gq)->Q v H'):uM P w CP CB vs H Q
def zE(P:Gn)(w:Tg)(b a:Gd):Sp:=λc H Q _=>uM P w b a c H Q
inductive yA(P:Gn)(w:Tg)(CP:Gd)(CB:Gd)(vs:List V)(H:Hp)(Q:VK):Prop
 |mk (bk:Gd) (p:Gd) (a:Gd) (f:Gd) (d:Gd) (t:Gd) (e:Gd) (ts:List Th) (tl:Tl) (i:Int) (h0:vs=[.ref bk,.int i]) (h1:Uo P w CP CB H bk p a f d t e ts tl) (h2:∀(v:V)(t' e':Gd)(H':Hp),Uo P w CP CB H' bk p a f d t' e' ts (Up tl (.back i)).1->v=(Up tl (.back i)).2->uW bk bk H H'->(t'=t\/H t'=Gq)->(e'=e\/H e'=Gq)->Q v H'):yA P w CP CB vs H Q
def wm(P:Gn)(w:Tg)(b a:Gd):Sp:=λc H Q _=>yA P w b a c H Q
section
variable{P:Gn}{w:Tg}{K:Gf}{mg:TQ->Option Gj}{base:Heap}
theorem A8:Q8 ["self","moment","forgotten"] ["self","moment"] (Qo Ij):=by eq_refl
theorem Qsk(F:Wg K "go_back" "Book.go_back" Ij f0 fd)(h:iV K mg CB)(B0:Ra mg):Q3 P w K mg base Ya 1 f0 fd ["self","moment"] (wm P w CP CB):=by
 refine F.ok A8 (λn o Q ab c=>?_) (λaf ae ai s o n Q ab hr c=>?_)
 .obtain⟨e,p,a,V,d,t,b,ts,I,i,rfl,_⟩:=c;rfl
 have(e,p,a,V,d,t,b,ts,I,i,rfl,k,q):=c;have(nu,n1,n2):=h.no;have nd:=A8.nd;show∃t,W0 ?my _ t/\_;let w5:Xk ?my Ij 4:={_,Qg (Qt {2})}
 let w4:Xk ?my Ij 3:={_,Qc (Xm {0} (Z3 Wo (Qx {0} rfl) Yu (Yd {1})) rfl) w5.2}
 let w3:Xk ?my Ij 2:={_,Qc (Xm {0} (Z3 Wo (Qx {0} rfl) Yu (Yd {1})) rfl) w4.2}
 let w2:Xk ?my Ij 1:={_,Qc (Zb (PW.pt (Yv (Qp Vg {1} Qi (Qu _)) (Xe (Qp Vg {2} Qi (Qu _))))) (Qg (Qt (mX rfl n1 n2))) Qw) w3.2}
 exists _,Qc (Qz 2 nd (Zf Rm (Qm Zo rfl B0.len GX (Qa (Qx {0} rfl) Qd)) {1})) w2.2;subst_vars;have(l,g):=k.ob;have(dp,op):=k.pl.ob;have(n,t1,t2):=k.to;have(C,ag,T,U,R):=k.en;and_intros;have lv:=GQ t2;have le:=(GQ U).trans (GQ R);exists 0,e,CB,l,30,g,h.cl,h.told,n8 _ _ _,t,n,1,.inl (Qk t1),0301;exists 403010;have Z:¬(0<=i/\i<=(I.length:Int))->Q (.str "no moment") o:=λc=>q _ t b o (by simp only[Up];rw[Gs c];exact k) (by simp only[Up];rw[Gs c]) {λ_ _ b _ _=>b,λ_ c=>c} (.inl Xb) (.inl Xb);by_cases hi:i<0
 .rw[Ti hi];refine Yp (Yp ?_);exact Z (λz=>by ext)
 rw[Td hi];refine Q4 {03010,?_};by_cases X:(n.length:Int) - i<0
 .rw[Ti X];refine Yp ?_;exact Z (λz=>by ext)
 rw[Td X];refine Q4 ?_;have D:0<=i:=by ext
 have W:i<=(I.length:Int):=by ext
 refine{0,e,CB,l,30,g,h.cl,h.told,n8 _ _ _,00,t,n,1,Qk t1,λm A=>?_};rw[As n D (by ext)];have N:=Qf A (.lst (n.take i.toNat));exists 0,e,CB,l,0,N _ _ g,h.cl,h.told,(by show 3<1000;decide);rw[KM];have S:e≠m:=Qe g A;have be:b≠e:=Ys T g nofun;generalize E:zj (zj o m (.lst (n.take i.toNat))) e (.ins CB l (Vr p m b))=x;have G:∀{f j},o f=Ga j->f≠e->x f=Ga j:=λb c=>by rw[<-E];exact Ql (N _ _ b) c
 have M:x e=Ga (.ins CB l (Vr p m b)):=by rw[<-E];exact Qb
 have aa:x m=Ga (.lst (n.take i.toNat)):=by rw[<-E];exact Ql Qb (Ta S)
 have Y:∀{f},x f=Gq->o f=Gq:=λ{f}c=>by rw[<-E]at c;exact N.free (Yi c)
 refine{0,e,CB,l,30,M,h.cl,h.entries,Je _ _ _,00,b,C,1,Qk (G T be),λr u=>?_};rw[As C D (by ext)];have H:=Qf u (.lst (C.take i.toNat));exists 0,e,CB,l,0,H _ _ M,h.cl,h.entries,(by show 3<1000;decide);rw[tY];have ac:e≠r:=Qe M u;have ad:m≠r:=Qe aa u;generalize y:zj (zj x r (.lst (C.take i.toNat))) e (.ins CB l (Vr p m r))=B;have v:∀{f j},o f=Ga j->f≠e->B f=Ga j:=λb c=>by rw[<-y];exact Ql (H _ _ (G b c)) c
 have O:Q7 o B:=λf xs b=>v b (Ys b g nofun);subst_vars;have(us,J,_):=k.pl.th;have(ws,L,_):=k.pl.fo;have(ah,d1,_):=k.pl.kn;and_intros;have BK:Uo P w CP CB B e p a V d m r ts (I.take i.toNat):=by
  exists {l,by rw[<-y];exact Qb},k.pl.keep (λj b=>v b (Ys op g (yd _ _ _ _ _ _))) (λj b=>v b (Ys J g nofun)) (λj b=>v b (Ys L g nofun)) (λj b=>v b (Ys d1.at_ g nofun)) O,{_,by rw[<-y];exact Ql (H _ _ aa) (Ta S),Um.Qv O (Rf t2 _)},{2,by rw[<-y];exact Ql Qb (Ta ac),Qr (Rf U _) λ_ _ c=>c.Qv O,Qu6 R _},Ta (Qe J A),Ta (Qe L A),ad,?_
  .exact Ta (Qe (G J (Ys J g nofun)) u)
  .exact Ta (Qe (G L (Ys L g nofun)) u)
 refine{0,q _ m r B (by simp only[Up];rw[GV ⟨D,W⟩];exact BK) (by simp only[Up];rw[GV ⟨D,W⟩,lv]) {λf j b c _=>v b c,λf c=>Y (by rw[<-y]at c;exact H.free (Yi c))} (.inr A) (.inr (Y u))}
theorem uH:Q8 ["self","deed","entry","entries","net","number"] ["self","deed","entry"] (Qo ja):=by eq_refl
theorem P6{fC:Gd}{ai:Do}(F:Wg K "tell" "Book.tell" ja f0 fd)(D:iV K mg CB)(TP:iJ K mg CP)(B0:Ra mg)
  (GN:Q3 P w K mg base Ya 61 fN fdN ["forms","told"] (rX P w C))(kN:KI K fN)(bN:zk K fdN ["forms","told"] [])(mN:MG mg "net_of" fN)
  (GC:Q3 P w K mg base Ya 2 fC ai ["net","entries"] (rW P w C))(kC:KI K fC)(bC:zk K ai ["net","entries"] [])(mC:MG mg "least_clash" fC)
  (mL:Yq K CB "lines_for" fL)(GL:Q3 P w K mg base Ya 7 fL fdL ["self","net","entry"] (O7 P w C CP CB))(bL:zk K fdL ["self","net","entry"] []):
  Q3 P w K mg base Ya 62 f0 fd ["self","deed","entry"] (zE P w CP CB):=by
 refine F.ok uH (λvs I Q N f=>?_) (λS ac Z s I vs Q N hr f=>?_)
 .obtain⟨m,p,a,aa,d,t,e,g,u,H,dv,ev,b,E,G,rfl,_⟩:=f;rfl
 have(m,p,a,aa,d,t,e,g,u,H,dv,ev,b,E,G,rfl,h,M,az,(k,rfl,ay),aF,aG,q):=f;have aI:Yl 2 _:=hr.mono (by lia);have aJ:Yl 7 _:=hr.mono (by lia);have nd:=uH.nd;show∃t,W0 ?my _ t/\_;let w7:Xk ?my ja 6:={_,Qg (Qt (Qm Zo rfl B0.len GX (Qa {3} Qd)))}
 let w6:Xk ?my ja 5:={_,Qc (Xm {0} {3} rfl) w7.2}
 let w5:Xk ?my ja 4:={_,Qc (Zl (X6 Te Tx TC Z4 (Qx {0} rfl) (Qa {1} Qd))) w6.2}
 let w4:Xk ?my ja 3:=⟨_,Qc (Zb (Qp lW {5} U7 (Qu _))
   (Qg (Qt (Ze (Qa Zh (Qa {5} (Qa (Zn {0} D.cl mL GL aJ bL .nil Q5 (Qa {4} (Qa (Qn Zd {3} {5}) Qd))) Qd)))))) Qw) w5.2⟩
 let w3:Xk ?my ja 2:={_,Qc (Qz 5 nd (Za GC aI rfl mC kC bC .nil Q5 (Qa {4} (Qa {3} Qd)))) w4.2}
 let w2:Xk ?my ja 1:={_,Qc (Qz 4 nd (Za GN hr rfl mN kN bN .nil Q5 (Qa (Qx (Qx {0} rfl) rfl) (Qa {3} Qd)))) w3.2}
 exists _,Qc (Qz 3 nd (Zf Wc (Qx {0} rfl) (Zt (Qa {2} Qd)))) w2.2;subst_vars;have(L,l):=h.ob;have(dp,o2):=h.pl.ob;have(ws,f1,f2):=h.pl.fo;have(us,u1,_):=h.pl.th;have(aW,d1,_):=h.pl.kn;have(vs,W,t2):=h.to;have(A,ah,e1,e2,R):=h.en;have ae:=h.pl.nd;have ad:=h.pl.cl;have ao:=M.le ae;have(TK,aP):=vr ae ad (λt ht=>M.good t (M.sub t ht)) ao;and_intros;have aA:A.length=u.length:=(GQ e2).trans (GQ R);have aV:vs.length=u.length:=GQ t2;have aU:=M.tl;refine{0,m,CB,L,30,l,D.cl,D.entries,Je _ _ _,0,Wz,λr0 aH=>?_};have s0:=Qf aH (.lst [.ref k]);refine{e,r0,A,[.ref k],11,s0 _ _ e1,Qb,by rw[TJ];simp only[Gy];lia,λi ak=>?_};have Y:I i=Gq:=s0.free ak;have U:=s0.trans (Qf ak (.lst (A++[.ref k])));have g1:(zj (zj I r0 (.lst [.ref k])) i (.lst (A++[.ref k]))) i=Ga (.lst (A++[.ref k])):=Qb;generalize zj (zj I r0 (.lst [.ref k])) i (.lst (A++[.ref k]))=H1 at U g1;have af:=Q7.of U;have T:Dg (iD H1) (A++[.ref k]) (ah++[(tw b,E,G)]):=E2 (Qr e2 λ_ _ f=>f.Qv af) {k,1,af _ _ ay};have O:iR g (ah++[(tw b,E,G)]) (u++[(b,tg g E,tg g G)]):=E2 R {1,Ws aF,Ws aG};refine{0,m,CB,L,30,U _ _ l,D.cl,D.places,J0 _ _ _,p,CP,dp,30,U _ _ o2,TP.cl,TP.nF,xp _ _ _,0,aa,i,ws,_,tfs g,30,U _ _ f1,Qr f2 λ_ _ f=>f.Qv af,g1,T,TK,by rw[Ue];exact ao,aP,λen aB=>by rw[Ue];exact tH O en aB,by rw[<-GQ T,Gk,Gy];lia,λn ac tb x H2 J _ H=>?_};have S2:Q9 I H2:=U.trans J.sam;have(aQ,aR):=tz O (λp q=>Iff.rfl);have EQ:=tU H;have ag:∀p∈x.S,∀q∈x.S,x.zg p=x.zg q↔Cg (u++[(b,tg g E,tg g G)]) (tg g p) (tg g q):=λp hp q hq=>EQ.cg ae ad J.inv J.fok aQ aR hp hq;have aS:∀a b' n,(a,b',Ga (.told n))∈x.zt->(u++[(b,tg g E,tg g G)])[n]?=Ga (Gi,tg g a,tg g b'):=λa b' n f=>by
  rcases H.rsn _ f with z|⟨j,p',q',o,B⟩
  .cases z
  .cases o;have(S,Q,N):=nt O B;rw[q9 Q]at N;exact N
 have aL:∀a b,¬(a,b,Ga Ie.asked)∈x.zt:=λa b f=>by
  rcases H.rsn _ f with z|⟨j,p',q',o,B⟩
  .cases z
  .cases o
 refine{00,n,i,ac,_,tb,x,30,J.at_,J.sam _ _ g1,Qr T λ_ _ f=>f.Qv (Q7.of J.sam),H.ins,λr H3 g3 aj=>?_};have v:=S2.trans g3;have X:=J.same g3;have al:=X.sam _ _ g1;exists 4010;rw[ot];cases r with
 |some S=>
  refine Yp ?_;have(p',q',o,B,aM,aN,Q):=xw O H.ins ag aj;have hm:S<(A++[V.ref k]).length:=by rw[GQ T];exact(Gg.mp o).1
  have(y,hy,aK):=Qy T (Ge hm);rw[o]at hy;cases hy;have(cm,av,ax):=aK;refine{00,m,L,0,v _ _ l,Rg _ _ _,000,i,201,Qk al,Zk (Ge hm),m,p,a,aa,d,t,e,g,u,n,ac,_,x,2,p',q',1,h.same v,{cm,av,X.sam _ _ ax},X.at_,X.lng TK.few,aM,aN,B,(λt ht=>M.good t (M.sub t ht)),λlv ls H7 g7 hl hb hg aC=>?_};refine{Vm,λc8 aw=>?_};have Z:=Qf aw (.tup [.str "clash",jv S,lv]);have N:=(v.trans g7).trans Z;have ab:Xr (u++[(b,tg g E,tg g G)]):={2,Gc Q.1,Q.2.1};refine q _ e _ (by simp only[Up];rw[GV ab];exact h.same N) (.inr {c8,S,2,lv,ls.map (lth g),1,Qb,Q,(hl.ex (by rintro c ys _ hx ⟨r,ho⟩;exact hx {r,v _ _ ho})).kp (Q7.of Z) (λe _=>Z _ _ e),rQ ad hg hb aS (λa b f=>absurd f (aL a b)),pH aC}) {λb r e _ _=>N _ _ e,λb f=>N.free f} (.inl Xb)
 |none=>
  refine Q4 ?_;have aE:=u9 O H.ins ag aj;have ab:¬Xr (u++[(b,tg g E,tg g G)]):=(by rintro⟨a,c,o,B⟩;exact aE a c o B);have t3:=v _ _ W;exists 0,m,CB,L,30,v _ _ l,D.cl,D.told,n8 _ _ _,.inl {13,Qk t3},0,t,vs,01,t3,(by rw[TJ];lia);have tb:t≠m:=Ys W l nofun;exists 00,m,CB,L,0,Ql (v _ _ l) (Ta tb),D.cl,D.entries,(by show 3<1000;decide);rw[tY];have an:t≠i:=Qe W Y;have aO:m≠i:=Qe l Y;generalize Q:zj (zj H3 t (.lst (vs++[dv]))) m (.ins CB L (Vr p t i))=N;have S:∀{b r},I b=Ga r->b≠m->b≠t->N b=Ga r:=λe o B=>by rw[<-Q];exact Ql (Ql (v _ _ e) B) o
  have Z:Q7 I N:=λb xs e=>S e (Ys e l nofun) (Ys e W nofun);have am:N i=Ga (.lst (A++[.ref k])):=by rw[<-Q];exact Ql (Ql al (Ta an)) (Ta aO)
  have aT:Q7 H1 N:=λc xs ec=>by have:H3 c=Ga (.tup xs):=X.sam _ _ ec;rw[<-Q];exact Ql (Ql this (Ys this t3 nofun)) (Ys this (v _ _ l) nofun)
  have(ca,v1,v2,ap,aq,ar,au):=az;have BK:Uo P w CP CB N m p a aa d t i g (u++[(b,tg g E,tg g G)]):=by refine{{L,by rw[<-Q];exact Qb},h.pl.keep (λr e=>S e (Ys o2 l (yd _ _ _ _ _ _)) (Ys o2 W nofun)) (λr e=>S e (Ys u1 l nofun) (Ta h.ta)) (λr e=>S e (Ys f1 l nofun) (Ta h.tf)) (λr e=>S e (Ys d1.at_ l nofun) (Ys d1.at_ W nofun)) Z,{_,by rw[<-Q];exact Ql Qb tb,E2 (t2.Qv Z) {ca,v1,v2,ap,Z _ _ aq,ar.Qv Z,au.Qv Z}},{2,am,Qr T λ_ _ f=>f.Qv aT,O},h.ta,h.tf,an,Ta (Qe u1 Y),Ta (Qe f1 Y)}
  exists 0,i,0,.inl (Qk am);have aD:((A++[V.ref k]).length:Int)=(u.length:Int)+1:=by rw[Gk,Gy,aA];lia
  rw[aD];exact q _ i N (by simp only[Up];rw[Gs ab];exact BK) (.inl ⟨ab,Xb⟩) {λb r e o B=>S e o B,λb f=>v.free (by rw[<-Q]at f;exact Yi (Yi f))} (.inr Y)
end
structure kY(bk a f d t:Gd)(H H':Hp):Prop where
 keep:∀b o,H b=Ga o->b≠bk->b≠a->b≠f->b≠d->b≠t->H' b=Ga o
 there:∀b,H' b=Gq->H b=Gq
inductive Av(P:Gn)(w:Tg)(CP:Gd)(CB:Gd)(vs:List V)(H:Hp)(Q:VK):Prop
 |mk (bk:Gd) (p:Gd) (a:Gd) (f:Gd) (d:Gd) (t:Gd) (e:Gd) (ts:List Th) (tl:Tl) (U:List Th) (dv:V) (dd:Dd) (h0:vs=[.ref bk,dv]) (h1:Uo P w CP CB H bk p a f d t e ts tl) (h2:jc U ts tl) (h3:iF H dv dd) (h4:dd.fits U) (h5:∀(v:V)(t' e':Gd)(ts':List Th)(H':Hp),Uo P w CP CB H' bk p a f d t' e' ts' (Up tl dd).1->Vw H' (λb=>(∃o,H b=Ga o)\/b=t') tl dd v->(∀x∈ts',x∈U)->kY bk a f d t H H'->(t'=t\/H t'=Gq)->(e'=e\/H e'=Gq)->Q v H'):Av P w CP CB vs H Q
def nq(P:Gn)(w:Tg)(b a:Gd):Sp:=λc H Q _=>Av P w b a c H Q
inductive wu(P:Gn)(w:Tg)(CP:Gd)(CB:Gd)(vs:List V)(H:Hp)(Q:VK):Prop
 |mk (bk:Gd) (dx:Gd) (h0:vs=[.ref bk]) (h1:H bk=Ga (.ins CB dx [])) (h2:∀(p a f d t e:Gd)(H':Hp),Uo P w CP CB H' bk p a f d t e [] []->(∀b o,H b=Ga o->b≠bk->H' b=Ga o)->H a=Gq->H f=Gq->H d=Gq->H t=Gq->H e=Gq->Q .non H'):wu P w CP CB vs H Q
def sk(P:Gn)(w:Tg)(b a:Gd):Sp:=λc H Q _=>wu P w b a c H Q
theorem pR{m:List Th}(h:ts[j]?=Ga t):(ts++m)[j]?=Ga t:=by rw[Tt (Gg.mp h).1];exact h
section
variable{P:Gn}{w:Tg}{K:Gf}{mg:TQ->Option Gj}{base:Heap}
theorem Uo.place{bk p a t e:Gd}{m:List Th}(B:Uo P w CP CB H bk p a f d t e ts tl)(x:Pl P w CP H' p a f d (ts++m))(F:hJ a f d H H'):Uo P w CP CB H' bk p a f d t e (ts++m) tl:=by have(l,b):=B.ob;have(y,s,_):=B.pl.th;have(z,v,_):=B.pl.fo;have(q,c,_):=B.pl.kn;have(u,j,r):=B.to;have(o,g,i,n,R):=B.en;have k:=F.Qv B.pl;refine{{l,F.keep _ _ b (Ys b s nofun) (Ys b v nofun) (Ys b c.at_ nofun)},x,{u,F.keep _ _ j B.ta B.tf (Ys j c.at_ nofun),r.Qv k},{o,g,F.keep _ _ i B.ea B.ef (Ys i c.at_ nofun),Qr n λ_ _ h=>h.Qv k,Qr R λ_ _ h=>{h.1,pR h.2.1,pR h.2.2}},B.ta,B.tf,B.te,B.ea,B.ef}
theorem jc.grow(F:jc U ts tl)(ht:t∈U):jc U (Xh ts t.inside) tl:=⟨λs hs=>by
 rw[o9]at hs;rcases hs with h|h
 .exact F.sub s h
 .exact F.cl t ht s h,F.cl,F.good,F.len,F.tl⟩
theorem Qua:Q8 ["self"] ["self"] (Qo l7):=by eq_refl
theorem Pf(F:Wg K "__init__" "Book.__init__" l7 f0 fd)(j:iV K mg CB)(TP:iJ K mg CP)(Q:Mk K CP fI)(O:Q3 P w K mg base Ya 1 fI fdI ["self"] (yg P w CP))(S:zk K fdI ["self"] []):Q3 P w K mg base Ya 3 f0 fd ["self"] (sk P w CP CB):=by
 refine F.ok Qua (λvs v R N C=>?_) (λab aa ag s v vs R N Z C=>?_)
 .obtain⟨f,h,rfl,_⟩:=C;rfl
 have(f,h,rfl,D,q):=C;show∃t,W0 ?my _ t/\_;let w3:Xk ?my l7 2:={_,Qg (Xm {0} (Zt Qd) rfl)}
 let w2:Xk ?my l7 1:={_,Qc (Xm {0} (Zt Qd) rfl) w3.2}
 exists _,Qc (Xm {0} (qH Q O Z rfl TP.mgC S .nil Q5) rfl) w2.2;intro p A E X ad;have x:Q9 v (zj (zj v A (.own p)) p (.ins CP A [])):=λc g b=>Ql (Ql b (Qe b X)) (Qe b E);refine{p,A,1,Qb,λa U d y u k1 V Y W=>{1,?_}};have m:Q9 v y:=λi g b=>k1 i g (x _ _ b) (Qe b E);have pb:p≠f:=Ta (Qe D E);subst_vars;have(ac,af):=u.ob;have(us,H,_):=u.th;have(ws,I,_):=u.fo;have(ae,T,_):=u.kn;and_intros;refine{0,f,CB,h,[],1,m _ _ D,j.cl,j.places,by show 0<1000;decide,Tu _,λt ht=>?_};have k:=m _ _ D;have r:=Yi ht;have G:t≠f:=Ta (Qe k r);refine{0,f,CB,h,0,Ql Qb (Ta G),j.cl,j.told,by show 1<1000;decide,Tu _,λb M=>?_};have o:=Yi (Yi (Yi M));have J:b≠f:=Ta (Qe k o);have L:t≠b:=λz=>by have:=Yi M;rw[<-z,Qb]at this;cases this
 exists 0,f,CB,h,0,Ql Qb (Ta J),j.cl,j.entries,(by show 2<1000;decide);have l:∀{i g},y i=Ga g->i≠f->(zj (zj (zj (zj (zj y f (.ins CB h (Y0 "places" (.ref p) []))) t (.lst [])) f (.ins CB h (Y0 "told" (.ref t) (Y0 "places" (.ref p) [])))) b (.lst [])) f (.ins CB h (Y0 "entries" (.ref b) (Y0 "told" (.ref t) (Y0 "places" (.ref p) []))))) i=Ga g:=λB n=>Ql (Ql (Ql (Ql (Ql B n) (Qe B r)) n) (Qe B o)) n;refine q p a U d t b _ {⟨h,Qb⟩,u.keep (λg e=>l e pb) (λg e=>l e (Ys H k nofun)) (λg e=>l e (Ys I k nofun)) (λg e=>l e (Ys T.at_ k nofun)) (λi xs e=>l e (Ys e k nofun)),{[],Ql (Ql (Ql Qb G) L) G,.nil},{[],[],Ql Qb J,.nil,.nil},Ta (Qe H r),Ta (Qe I r),L,Ta (Qe H o),Ta (Qe I o)} (λi g e n=>l (m _ _ e) n) (x.free V) (x.free Y) (x.free W) (m.free r) (m.free o)
theorem yx:Q8 ["self","deed","entry"] ["self","deed"] (Qo Oc):=by eq_refl
theorem WA{f:V}{e:Dd}(h:iF H f e):∃c k m,f=.ref c/\H c=Ga (.tup (.str k::m))/\(k="back"↔∃i,e=.back i)/\(k="ask"↔∃s t,e=.ask s t):=by
 cases e with
 |tell b s t=>
  have(c,g,l,a,d,_):=h;refine{c,2,a,d,{λz=>?_,λ⟨i,z⟩=>by cases z},{λz=>?_,λ⟨i,j,z⟩=>by cases z}}
  .cases b<;>exact absurd z (by decide+kernel)
  .cases b<;>exact absurd z (by decide+kernel)
 |ask s t=>have(c,g,l,a,d,_):=h;exact{c,2,a,d,{λz=>absurd z (by decide+kernel),λ⟨i,z⟩=>by cases z},{λz=>⟨s,t,rfl⟩,λ_=>rfl}}
 |back i=>have(c,a,d):=h;exact{c,2,a,d,{λz=>⟨i,Xb⟩,λ_=>rfl},{λz=>absurd z (by decide+kernel),λ⟨i,j,z⟩=>by cases z}}
theorem ZS{fG fP fT:Gd}{ak al am:Do}(F:Wg K "answer" "Book.answer" Oc f0 fd)(A:iV K mg CB)(TP:iJ K mg CP)
  (mG:Yq K CB "go_back" fG)(GG:Q3 P w K mg base Ya 1 fG ak ["self","moment"] (wm P w CP CB))(bG:zk K ak ["self","moment"] [])(mP:Yq K CP "place_of" fP)(GP:Q3 P w K mg base Ya 52 fP al ["self","thing"] (yy P w CP))(bP:zk K al ["self","thing"] [])
  (mA:Yq K CB "ask" fA)(GA:Q3 P w K mg base Ya 62 fA fdA ["self","entry"] (zO P w CP CB))(bA:zk K fdA ["self","entry"] [])(mT:Yq K CB "tell" fT)(GT:Q3 P w K mg base Ya 62 fT am ["self","deed","entry"] (zE P w CP CB))(bT:zk K am ["self","deed","entry"] []):
  Q3 P w K mg base Ya 63 f0 fd ["self","deed"] (nq P w CP CB):=by
 refine F.ok yx (λW N V L D=>?_) (λaw av ax s N W V L hr D=>?_)
 .obtain⟨o,p,a,C,d,t,S,v,tl,R,dv,Z,rfl,_⟩:=D;rfl
 have(o,p,a,C,d,t,S,v,tl,R,dv,Z,rfl,f,Q,aa,ab,q):=D;have aD:Yl 1 _:=hr.mono (by lia);have aq:Yl 52 _:=hr.mono (by lia);have nd:=yx.nd;show∃t,W0 ?my _ t/\_;let w4:Xk ?my Oc 3:={_,Qg (Qt (Zn {0} A.cl mT GT hr bT .nil Q5 (Qa {1} (Qa {2} Qd))))}
 let w3:Xk ?my Oc 2:={_,Qc (Zb (Qp Xu (Qn Qs {1} Qi) Zh (Qu _)) (Qg (Qt (Zn {0} A.cl mA GA hr bA .nil Q5 (Qa {2} Qd)))) Qw) w4.2}
 let w2:Xk ?my Oc 1:={_,Qc (Qz 2 nd (Ze (Qa (Qn Qs {1} Qi) (Qa (Zn (Qx {0} rfl) TP.cl mP GP aq bP .nil Q5 (Qa (Qn Qs {1} Qi) Qd)) (Qa (Zn (Qx {0} rfl) TP.cl mP GP aq bP .nil Q5 (Qa (Qn Qs {1} Qi) Qd)) Qd))))) w3.2}
 exists _,Qc (Zb (Qp Xu (Qn Qs {1} Qi) Zh (Qu _)) (Qg (Qt (Zn {0} A.cl mG GG aD bG .nil Q5 (Qa (Qn Qs {1} Qi) Qd)))) Qw) w2.2;subst_vars;have(dx,o1):=f.ob;have(c,k,xs,rfl,H,kb,ka):=WA aa;and_intros;exists 0,c,201,Qj H,Ol _ _,10;rw[Zg];subst_vars;have(us,u1,_):=f.pl.th;have(ws,w1,_):=f.pl.fo;have(aJ,d1,_):=f.pl.kn;have(aO,t1,_):=f.to;and_intros;by_cases hb:k="back"
 .subst hb;rw[LA];refine Yp ?_;have(i,rfl):=kb.mp rfl;have(Y,g,h):=aa;cases g;refine{0,o,dx,0,o1,Qq2 _ _ _,0,c,201,Qj h,Rh _ _ _,o,p,a,C,d,t,S,v,tl,i,1,f,λU t' e' W V I L ad ac=>?_};exact q U t' e' v W V I Q.sub {λb l j g _ _ _ _=>L.keep b l j g g,L.there} ad ac
 have aF:(k==("back":TQ))=Gx:=by simpa using hb
 rw[aF];refine Q4 ?_;subst_vars;obtain⟨s,e,m,n,aE,i1,i2,hs,ht,aB⟩:∃s e m n,xs=[m,n]/\Z7 N m s/\Z7 N n e/\s∈R/\e∈R/\((k="ask"/\Z=.ask s e)\/(k≠"ask"/\∃b,k=tw b/\Z=.tell b s e)):=by
  cases Z with
  |tell b s e=>have(Y,m,n,g,h,E,G):=aa;cases g;rw[H]at h;cases h;exact{s,e,m,n,1,E,G,ab.1,ab.2,.inr {(λz=>by have(_,_,z):=ka.mp z;cases z),b,rfl,rfl}}
  |ask s e=>have(Y,m,n,g,h,E,G):=aa;cases g;rw[H]at h;cases h;exact{s,e,m,n,1,E,G,ab.1,ab.2,.inl ⟨Xb,Xb⟩}
  |back i=>exact absurd (kb.mpr ⟨i,Xb⟩) hb
 and_intros;subst aE;have(dp,op):=f.pl.ob;have gs:=Q.good s hs;have gt:=Q.good e ht;have aK:=Q.le f.pl.nd;refine{0,c,201,Qj H,Ol _ _,0,o,CB,dx,30,o1,A.cl,A.places,J0 _ _ _,p,dp,0,op,sX _ _ _,0,c,201,Qj H,Rh _ _ _,p,m,s,a,C,d,v,1,f.pl,i1,gs.1,by have:=gs.2.1;lia,by have:=gs.2.2;lia,λr H1 x1 aC F1=>?_};have(m1,aj):=Uj s.inside v;have ar:=x1;rw[aj]at ar;have x:=f.place ar F1;rw[<-aj]at x;have FW1:=Q.grow hs;have aL:=FW1.le x.pl.nd;have af:=F1.Qv f.pl;have(az,aG):=x.ob;have(ay,aH):=x.pl.ob;refine{0,o,CB,az,30,aG,A.cl,A.places,J0 _ _ _,p,ay,0,aH,sX _ _ _,0,c,201,Qj (af _ _ H),jt _ _ _ _,p,n,e,a,C,d,0,x.pl,i2.Qv af,gt.1,by have:=gt.2.1;lia,by have:=gt.2.2;lia,λJ X x2 ap F2=>?_};have(m2,ae):=Uj e.inside (Xh v s.inside);have au:=x2;rw[ae]at au;have B2:=x.place au F2;rw[<-ae]at B2;have FW2:=FW1.grow ht;have ag:Q7 N X:=λb xs j=>(F2.Qv x.pl) _ _ (af _ _ j);have ao:(Xh (Xh v s.inside) e.inside)[r]?=Ga s:=by rw[ae];exact pR aC
 refine{Vm,λB aA=>?_};have T:=Qf aA (.tup [.str k,jv r,jv J]);have y:=B2.same T;generalize aI:Xh (Xh v s.inside) e.inside=O at*;have e1:=Jl ao;have e2:=Jl ap;have l1:r<O.length:=(Gg.mp ao).1;have l2:J<O.length:=(Gg.mp ap).1;have M:hJ a C d N (zj X B (.tup [.str k,jv r,jv J])):=(F1.trans F2).trans (hJ.of T);subst_vars;have(ai,o3):=y.ob;have(aM,u3,_):=y.pl.th;have(aP,w3,_):=y.pl.fo;have(aN,t3,_):=y.to;and_intros;have an:(zj X B (.tup [.str k,jv r,jv J])) c=Ga (.tup (.str k::[m,n])):=T _ _ (ag _ _ H);have back:∀b l,N b=Ga l->∃u,(zj X B (.tup [.str k,jv r,jv J])) b=Ga u:=λb l j=>Mf.mp λz=>by rw[M.there b z]at j;cases j
 exists 0,c,201,Qj an,Ol _ _,10;rw[Zg];rcases aB with⟨rfl,rfl⟩|⟨hk,b,rfl,rfl⟩
 .rw[LA];refine Yp ?_;refine{0,o,ai,0,o3,VW _ _ _,0,o,p,a,C,d,t,S,O,tl,R,.ref B,r,J,1,y,FW2,⟨B,Xb,Qb⟩,l1,l2,λU H4 L I=>?_};rw[e1,e2]at I;refine q U t S O H4 (y.same L) (I.ex λY ys _ hx z=>hx ?_) FW2.sub {λb l j g h E G h5=>L _ _ (M.keep b l j h E G),λb D=>M.there b (L.free D)} (.inl Xb) (.inl Xb);rcases z with⟨l,ho⟩|z
  .exact back _ _ ho
  .rw[z];exact{_,t3}
 .have ah:(tw b==("ask":TQ))=Gx:=by simpa using hk
  rw[ah];refine Q4 ?_;refine{0,o,ai,0,o3,KH _ _ _,00,o,p,a,C,d,t,S,O,tl,R,.ref c,.ref B,b,r,J,1,y,FW2,?_,⟨B,Xb,Qb⟩,l1,l2,λU e' H4 L I V W=>?_}
  .rw[e1,e2];exact{c,m,n,1,an,(i1.Qv ag).same T,(i2.Qv ag).same T}
  .rw[e1,e2]at L I;refine q U t e' O H4 L (I.ex λY ys _ hx z=>hx ?_) FW2.sub {λb l j g h E G h5=>V.keep _ _ (M.keep b l j h E G) g h5,λb D=>M.there b (V.there b D)} (.inl Xb) (W.elim .inl λz=>.inr (M.there _ z));rcases z with⟨l,ho⟩|z
   .exact back _ _ ho
   .rw[z];exact{_,t3}
end
def xu(H:Hp)(X:Gd->Prop)(a:List Dd)(b:List V):Prop:=∀(k:Nat)(d:Dd)(v:V),a[k]?=Ga d->b[k]?=Ga v->Vw H X (after [] (a.take k)) d v
inductive vy(vs:List V)(H:Hp)(Q:VK):Prop
 |mk (l:Gd) (es:List V) (dl:List Dd) (U:List Th) (h0:vs=[.ref l]) (h1:H l=Ga (.lst es)) (h2:Vx H es dl) (h3:jI U) (h4:(∀d∈dl,d.fits U)) (h5:dl.length<=800) (h6:∀(r:Gd)(rs:List V)(H':Hp),Q9 H H'->H r=Gq->H' r=Ga (.lst rs)->rs.length=dl.length->xu H' (λb=>b=r) dl rs->Q (.ref r) H'):vy vs H Q
def sL:Sp:=λa H Q _=>vy a H Q
inductive uA(P:Gn)(w:Tg)(CP:Gd)(CB:Gd)(vs:List V)(H:Hp)(Q:VK):Prop
 |mk (l:Gd) (es:List V) (dl:List Dd) (U:List Th) (h0:vs=[.ref l]) (h1:H l=Ga (.lst es)) (h2:Vx H es dl) (h3:jI U) (h4:(∀d∈dl,d.fits U)) (h5:dl.length<=800) (h6:∀(bk p a f d t e:Gd)(ts:List Th)(H':Hp),Q9 H H'->Uo P w CP CB H' bk p a f d t e ts (after [] dl)->(∀x∈ts,x∈U)->Q (.ref bk) H'):uA P w CP CB vs H Q
def wY(P:Gn)(w:Tg)(b a:Gd):Sp:=λc H Q _=>uA P w b a c H Q
inductive yH(vs:List V)(H:Hp)(Q:VK):Prop
 |mk (l:Gd) (es:List V) (dl:List Dd) (U:List Th) (h0:vs=[.ref l]) (h1:H l=Ga (.lst es)) (h2:Vx H es dl) (h3:jI U) (h4:(∀d∈dl,d.fits U)) (h5:dl.length<=800) (h6:∀(r:Gd)(rs:List V)(H':Hp),Q9 H H'->H' r=Ga (.lst rs)->Um H' rs (after [] dl)->Q (.ref r) H'):yH vs H Q
def zL:Sp:=λa H Q _=>yH a H Q
theorem xZ{a:List Dd}(b:jI U)(h:∀x∈ts,x∈U)(c:a.length<=800)(i:Nat):jc U ts (after [] (a.take i)):={h,b.cl,b.good,b.len,by have:=Ia (ds:=a.take i) (tl:=[]);rw[Dc]at this;simp only[Lh]at this;lia}
section
variable{P:Gn}{w:Tg}{K:Gf}{mg:TQ->Option Gj}{base:Heap}
theorem Uo.but{i g:Gd}{H:Hp}{bk p a f d t e r:Gd}{l:List Th}{k:Tl}{D n:List V}(B:Uo P w i g H bk p a f d t e l k)(c:H r=Ga (.lst D))(v:r≠a)(y:r≠f)(rt:r≠t)(x:r≠e):Uo P w i g (zj H r (.lst n)) bk p a f d t e l k:=by
 have(o,j):=B.ob;have(C,z,A):=B.to;have(u,b,q,s,R):=B.en;have m:Q7 H (zj H r (.lst n)):=Z2 λE e=>by rw[c]at e;cases e
 exact{{o,Ql j (Ys j c nofun)},B.pl.but c v y,{C,Ql z (Ta rt),A.Qv m},{u,b,Ql q (Ta x),Qr s λ_ _ h=>h.Qv m,R},B.ta,B.tf,B.te,B.ea,B.ef}
theorem kY.Qv{bk p a t e:Gd}(F:kY bk a f d t H H')(B:Uo P w CP CB H bk p a f d t e ts tl):Q7 H H':=λb s c=>by have(m,i):=B.ob;have(o,k,_):=B.pl.th;have(r,l,_):=B.pl.fo;have(h,g,_):=B.pl.kn;have(q,j,n):=B.to;exact F.keep _ _ c (Ys c i nofun) (Ys c k nofun) (Ys c l nofun) (Ys c g.at_ nofun) (Ys c j nofun)
theorem kY.lst{j i:Gd}{H g:Hp}{bk p a f d t e:Gd}{s:List Th}{r:Tl}(F:kY bk a f d t H g)(B:Uo P w j i H bk p a f d t e s r){c:Gd}{h:List V}(b:H c=Ga (.lst h))(l:c≠a)(m:c≠f)(n:c≠t):g c=Ga (.lst h):=by have(u,q):=B.ob;have(o,k,_):=B.pl.kn;exact F.keep _ _ b (Ys b q nofun) l m (Ys b k.at_ nofun) n
theorem zA:Q8 ["deeds","book"] ["deeds"] (Qo nY):=by eq_refl
theorem VN:(["deed","book"]:List TQ).Nodup:=by decide+kernel
theorem XZ(F:Wg K "answers" "answers" nY f0 fd)(ai:iV K mg CB)(av:Mk K CB fI)(GI:Q3 P w K mg base Ya 3 fI fdI ["self"] (sk P w CP CB))(bI:zk K fdI ["self"] [])
  (mA:Yq K CB "answer" fA)(GA:Q3 P w K mg base Ya 63 fA fdA ["self","deed"] (nq P w CP CB))(bA:zk K fdA ["self","deed"] []):Q3 P w K mg base Ya 64 f0 fd ["deeds"] sL:=by
 refine F.ok zA (λE l o j ab=>?_) (λY Q Z s l E o j hr ab=>?_)
 .obtain⟨ad,es,G,aa,rfl,_⟩:=ab;rfl
 have(ad,es,G,aa,rfl,hl,aj,hU,aA,aB,q):=ab;have aC:Yl 4 _:=hr.mono (by lia);have nd:=zA.nd;exists _,Qc (V5 (i:=1) nd rfl (Sq Xb) (qH av GI aC rfl ai.mgC bI .nil Q5))
  (Qg (Qt (Ug (te:=lZ CB "answer" (nq P w CP CB) [] E0 (Ul 1) (jx (Ul 0) jB)) (own:=["deed"]) (fv:=[(1,"book")]) rfl (S:=(by eq_refl:Wb (Qo nY) _)) (.cons rfl (DX Xb) rfl .nil)
   (Yh {0}) (λ_ _ _ _ _=>Yz (i:=0) VN rfl (DX Xb) (Sq Xb)) (λ_ _ _ _ _=>Wk) (λ_ _ _ _ _=>Zn {1} ai.cl mA GA hr bA .nil Q5 (Qa {0} Qd)))))
 intro B dx ac ay aK;have N:Q9 l (zj (zj l dx (.own B)) B (.ins CB dx [])):=λc L g=>Ql (Ql g (Qe g ay)) (Qe g ac);refine{B,dx,1,Qb,λp a v d t g H1 I k1 ha hf hd ht he=>{1,?_}};have R:Q9 l H1:=λb L h=>k1 b L (N _ _ h) (Qe h ac);have aw:=N.free ha;have az:=N.free hf;have ax:=N.free hd;have aD:=N.free ht;refine{0,ad,1,{_,Qk (R _ _ hl)},λf C=>?_};have(us,u1,_):=I.pl.th;have(ws,w1,_):=I.pl.fo;have(aL,t1,_):=I.to;have(aJ,aI,e1,_):=I.en;have ra:f≠a:=Ta (Qe u1 C);have rf:f≠v:=Ta (Qe w1 C);have M:f≠t:=Ta (Qe t1 C);have T:f≠g:=Ta (Qe e1 C);have s2:=Qf C (.lst []);have aE:es.length=G.length:=GQ aj;refine Oe (K:=K) (a:=ad) (xs:=es) (small (by lia)) (λi D X u=>iC λ(x0:Option V)(t g:Gd)(O:List Th)=>ir (X=[x0,Ga (.ref B)]) (Uo P w CP CB u B p a v d t g O (after [] (G.take i))) (∀x∈O,x∈aa) (Q9 l u) (l t=Gq) (f≠t) (f≠g) (xu u (λb=>b=a\/b=v\/b=t\/b=f) (G.take i) D))
  {_,t,g,[],1,I.same s2,(λx e=>nomatch e),R.trans s2,aD,M,T,(λk d U n=>by simp at n)} (by rintro i D X u _ ⟨_,_,_,_,_,_,_,j,_⟩;exact Qk (j _ _ hl)) ?_ ?_
 .rintro i y D X u hi ak ⟨x0,t,g,O,rfl,r,sub,J,t0,M,T,S⟩ H;have(dd,Y,hy):=Qy aj hi;have(al,o2):=r.ob;have au:Q7 l u:=Q7.of J;refine{0,B,al,0,o2,A5 _ _ _,0,B,p,a,v,d,t,g,O,_,aa,y,dd,1,r,xZ hU sub aB i,hy.Qv au,aA dd (Gc Y),λU o e' ar E B3 hv ap Q Z am=>?_};have r3:=Q.lst r H ra rf M;have ag:f≠o:=Z.elim (λz=>z▸M) (λz=>Qe H z);have af:f≠e':=am.elim (λz=>z▸T) (λz=>Qe H z);have g3:Q9 l E:=λb L h=>Q.keep b L (J _ _ h) (Qe h ac) (Qe h aw) (Qe h az) (Qe h ax) (Qe h t0);have aq:l o=Gq:=Z.elim (λz=>z▸t0) (λz=>J.free z);have(aG,u2,_):=r.pl.th;have(aH,w2,_):=r.pl.fo;refine{r3,_,o,e',ar,1,(by rw[O4 Y];exact B3.but r3 ra rf ag af),ap,λb L h=>Ql (g3 _ _ h) (Qe h (R.free C)),aq,ag,af,λk dk W n A=>?_};have ah:Q7 E (zj E f (.lst (D++[U]))):=Z2 λxs g=>by rw[r3]at g;cases g
  have ae:∀{c:Gd}{xs:List V},E c=Ga (.lst xs)->¬(c=a\/c=v\/c=o\/c=f)->(zj E f (.lst (D++[U]))) c=Ga (.lst xs):=λm e=>Ql m (λz=>e (.inr (.inr (.inr z))));have an:k<i+1:=by have:=(Gg.mp n).1;rw[Dc]at this;lia
  have ek:(G.take (i+1)).take k=G.take k:=by rw[Mc,Fz (by lia)]
  rw[ek];rw[DS an]at n;rcases Dh k i with ao|aF
  .rw[Tt (by lia)]at A;have h0:=S k dk W (by rw[DS ao];exact n) A;rw[Mc,Fz (by lia)]at h0;have h1:=h0.ex (Y:=λb=>b=a\/b=v\/b=t\/b=o\/b=f) λc xs m e z=>by
    rcases z with z|z|z|z|z
    .exact e (.inl z)
    .exact e (.inr (.inl z))
    .exact e (.inr (.inr (.inl z)))
    .rcases Z with j|j
     .exact e (.inr (.inr (.inl (z.trans j))))
     .rw[z,j]at m;cases m
    .exact e (.inr (.inr (.inr z)))
   have h2:=h1.kp (Q.Qv r) λ{c xs}m e=>Q.lst r m (λz=>e (.inl z)) (λz=>e (.inr (.inl z))) (λz=>e (.inr (.inr (.inl z))));have h3:=h2.ex (Y:=λb=>b=a\/b=v\/b=o\/b=f) λc xs m e z=>by
    rcases z with z|z|z|z
    .exact e (.inl z)
    .exact e (.inr (.inl z))
    .exact e (.inr (.inr (.inr (.inl z))))
    .exact e (.inr (.inr (.inr (.inr z))))
   exact h3.kp ah ae
  .have j:k=i:=by lia
   subst j;rw[TR (by lia),ak,Hl]at A;have A:U=W:=by simpa using A
   subst A;rw[Y]at n;cases n;exact(hv.ex (Y:=λb=>b=a\/b=v\/b=o\/b=f) λc xs m e z=>by
    rcases z with z|z|z|z
    .exact e (.inl (by rw[z];exact{_,u2}))
    .exact e (.inl (by rw[z];exact{_,w2}))
    .exact e (.inr z)
    .exact e (.inl (by rw[z];exact{_,H}))).kp ah ae
 .rintro D X u ak ⟨x0,t,g,O,rfl,r,sub,J,t0,M,T,S⟩ H;rw[aE,Tz]at S;exact q f D u J (R.free C) H (by lia) λk dk W n A=>(S k dk W n A).ex λc xs m e z=>e (.inr (.inr (.inr z)))
theorem xB:Q8 ["deeds","book","deed"] ["deeds"] (Qo Jc):=by eq_refl
theorem Kx(F:Wg K "book_after" "book_after" Jc f0 fd)(N:iV K mg CB)(ac:Mk K CB fI)(GI:Q3 P w K mg base Ya 3 fI fdI ["self"] (sk P w CP CB))(bI:zk K fdI ["self"] [])
  (mA:Yq K CB "answer" fA)(GA:Q3 P w K mg base Ya 63 fA fdA ["self","deed"] (nq P w CP CB))(bA:zk K fdA ["self","deed"] []):Q3 P w K mg base Ya 64 f0 fd ["deeds"] (wY P w CP CB):=by
 refine F.ok xB (λA g v k I=>?_) (λW U X s g A v k S I=>?_)
 .obtain⟨o,G,D,B,rfl,_⟩:=I;rfl
 have(o,G,D,B,rfl,R,Q,hU,ah,ai,q):=I;have aj:Yl 4 _:=S.mono (by ext);have T:=xB.nd;show∃t,W0 ?my _ t/\_;let w3:Xk ?my Jc 2:={_,Qg (Qt {1})}
 let w2:Xk ?my Jc 1:={_,Qc (Yb Tj rfl (Yh {0}) (Z5 2 T) (Qg (Zl (Zn {1} N.cl mA GA S bA .nil Q5 (Qa {2} Qd))))) w3.2}
 exists _,Qc (Qz 1 T (qH ac GI aj rfl N.mgC bI .nil Q5)) w2.2;intro f E J af ao;have n:Q9 g (zj (zj g E (.own f)) f (.ins CB E [])):=λc r b=>Ql (Ql b (Qe b af)) (Qe b J);refine{f,E,1,Qb,λp a H d t b H1 B1 k1 ha hf hd ht he=>{1,?_}};have O:Q9 g H1:=λC r e=>k1 C r (n _ _ e) (Qe e J);have ad:=n.free ha;have ag:=n.free hf;have ae:=n.free hd;have ak:G.length=D.length:=GQ Q;let al:Nat->St->Hp->Prop:=λi u h=>iC λ(M:Option V)(t b:Gd)(j:List Th)=>jn (u=[Ga (.ref o),Ga (.ref f),M]) (Uo P w CP CB h f p a H d t b j (after [] (D.take i))) (∀x∈j,x∈B) (Q9 g h) (g t=Gq)
 refine⟨_,Xb,o,Xb,{_,Qk (O _ _ R)},Yw (K:=K) (a:=o) (xs:=G) al
  {_,t,b,[],1,B1,(λx k=>nomatch k),O,n.free ht} (by rintro i u h _ ⟨_,_,_,_,_,_,_,k,_⟩;exact Qk (k _ _ R)) ?_ ?_⟩
 .rintro i y u h hi ⟨M,t,b,j,rfl,l,sub,m,L⟩;have(k,v,Z):=Qy Q hi;have(W,o2):=l.ob;refine{0,f,W,0,o2,A5 _ _ _,0,f,p,a,H,d,t,b,j,_,B,y,k,1,l,xZ hU sub ai i,Z.Qv (Q7.of m),ah k (Gc v),λan t' X ab H3 A hv aa U Y am=>?_};exact{_,t',X,ab,1,(by rw[O4 v];exact A),aa,λC r e=>U.keep C r (m _ _ e) (Qe e J) (Qe e ad) (Qe e ag) (Qe e ae) (Qe e L),Y.elim (λz=>z▸L) (λz=>m.free z)}
 .rintro u h ⟨M,t,b,j,rfl,l,sub,m,L⟩;rw[ak,Tz]at l;exact{0,q f p a H d t b j h m l sub}
theorem OJ:Q8 ["deeds"] ["deeds"] (Qo Ou):=by eq_refl
theorem VS(F:Wg K "told_after" "told_after" Ou f0 fd)(T:iV K mg CB)(o:Q3 P w K mg base Ya 64 fB fdB ["deeds"] (wY P w CP CB))(G:KI K fB)(u:zk K fdB ["deeds"] [])(I:MG mg "book_after" fB):Q3 P w K mg base Ya 65 f0 fd ["deeds"] zL:=by
 refine F.ok OJ (λj H Q E h=>?_) (λx A i s H j Q E D h=>?_)
 .obtain⟨l,n,m,U,rfl,_⟩:=h;rfl
 have(l,n,m,U,rfl,C,g,B,b,c,q):=h;exists _,Qg (Qt (Qx (Za o D rfl I G u .nil Q5 (Qa {0} Qd)) rfl));refine{0,l,n,m,U,1,C,g,B,b,c,λv p a f d t e N r z k sub=>?_};have(y,J):=k.ob;have(j,L,M):=k.to;exact{v,CB,y,30,J,T.cl,T.told,n8 _ _ _,q t j r z L M}
end
end K06
namespace L2
open PySem
def inB(s:DR):List DR:=match s with
 |.If _ a _ _=>a
 |.While _ a _ _=>a
 |.For _ _ a _ _=>a
 |_=>[]
def elB(s:DR):List DR:=match s with
 |.If _ _ a _=>a
 |_=>[]
def sub:List Nat->List DR->List DR
 |i::k::p,l=>sub p (match l.drop i,k with|[],_=>[]|s::_,0=>inB s|s::_,_=>elB s)
 |[i],l=>l.drop i
 |[],l=>l
end L2
namespace K06
open PySem L2 Sb
variable{tl:Tl}{w:TQ}{ps:List Th}{H:Hp}{xs:List V}{t u:Th}{f p:Gd}{fd:Do}{ds:List DO}{K:Gf}{v:V}
structure hO(mg:TQ->Option Gj):Prop where
 len:mg "len"=Gq
 min:mg "min"=Gq
 abs:mg "abs"=Gq
 list:mg "list"=Gq
 tuple:mg "tuple"=Gq
 str:mg "str"=Gq
 bool:mg "bool"=Gq
 int:mg "int"=Gq
 isinstance:mg "isinstance"=Gq
 range:mg "range"=Gq
 reversed:mg "reversed"=Gq
def xW:DR->List DR
 |.While _ b _ _=>b
 |_=>[]
abbrev cSt(i:Nat):DR:=(Zs Uk).getD i (.Pass {(0),(0),(0),(0)})
noncomputable abbrev YK:DR:=(xW (cSt 7)).getD 1 (.Pass {(0),(0),(0),(0)})
abbrev PR:DR:=(xW (cSt 7)).getD 2 (.Pass {(0),(0),(0),(0)})
noncomputable abbrev cN:List TQ:=["_law_told","_law_things","_law_todo","_law_word","_law_one","_law_other","_law_leaders","_law_part","_law_pairs","_law_names","_law_going","_law_k","_law_j","_law_two","_law_inner","_law_old","_law_name"]
theorem Ju:Q8 cN ["_law_told","_law_things"] (Qo Uk):=by eq_refl
theorem nd2:(["_law_part","_law_leaders"]:List TQ).Nodup:=by decide+kernel
def Good(tl:Tl)(S:List Th)(a:List (Th×Th)):Prop:=∀p∈a,p.1∈S/\p.2∈S/\Cg tl p.1 p.2
def ig(tl:Tl)(S:List Th)(L:Th->Int):Prop:=∀x∈S,∀y∈S,L x=L y->Cg tl x y
def sQ(S:List Th)(L a:Th->Int):Prop:=∀x∈S,∀y∈S,L x=L y->a x=a y
noncomputable abbrev s4(k l m n o p:Option V)(d:Gd)(q:Option V)(j i:Gd)(g:Bool)(a b c e f h:Option V):St:=[k,l,m,n,o,p,Ga (.ref d),q,Ga (.ref j),Ga (.ref i),Ga (.bl g),a,b,c,e,f,h]
section
variable{P:Gn}{w:Tg}{K:Gf}{mg:TQ->Option Gj}{base:Heap}{f:Gd}{cdv:Gj}{A:DT}{outer:List Bv}{s:Gz}{Hi:Hp}{E:XK}
noncomputable abbrev XC(P:Gn)(w:Tg)(K:Gf)(mg:TQ->Option Gj)(base:Heap)(f:Gd)(cdv:Gj)(A:DT)(outer:List Bv)(s:Gz)(Hi:Hp)(E:XK):Cx:=(jF Ya P w K mg base cN "_law_classes" (Qo Uk) f cdv A outer s Hi E).nox
theorem Qrd(hu:(XC P w K mg base f cdv A outer s Hi E).A.units+64<EY):∃t,PS (XC P w K mg base f cdv A outer s Hi E) PR t/\∀(tl:Tl)(S:List Th)(l:Th->Int)(d C B:Gd)(Y nv:List V)(u:List (Th×Th))(I:Hp)(x0 x1 x2 x3 x7:Option V)
  (hN:Num P w I d S l)(af:I C=Ga (.lst Y))(ak:iz I Y u)(ai:I B=Ga (.lst nv))(aj:Zy I nv S)(hG:Good tl S u)(hS:ig tl S l)(aw:S.length<=3000),
  Tr t
   (λσ H=>H=I/\∃F G Z aa ab ac D h,σ=s4 x0 x1 x2 x3 F G d x7 C B Gx Z aa ab ac D h)
   (λσ H=>Ad λg a F G Z aa ab ac D h=>ir (σ=s4 x0 x1 x2 x3 F G d x7 C B g Z aa ab ac D h) (Of d I H) (Num P w H d S a) (ig tl S a) (sQ S l a) (∀p∈u,a p.1=a p.2) (g=Gx->∀t∈S,a t=l t) (g=Gi->∃x∈S,∃y∈S,l x≠l y/\a x=a y)):=by
 have nd:=Ju.nd;exists _,(Yb Tj rfl (Yh {8}) (Uc rfl (Zr (Z5 4 nd) (Zr (Z5 5 nd) Wp)))
  (Qc (Qz 15 nd (Qn (i8 hu) {6} {4}))
  (Qg (Zb (Qp Wh {15} (Qn (i8 hu) {6} {5}) (Qu _))
  (Qc (Qz 10 nd Z9)
  (Qg (Yb Tj rfl (Yh {9}) (Z5 16 nd)
  (Qg (Zb (Qp Xu (Qn (i8 hu) {6} {16}) {15} (Qu _))
  (Qg (Rk (Qn (i8 hu) {6} {5}) (ke {6} {16} (kj hu)))) Qw))))) Qw))))
 intro tl S l d C B Y nv u I x0 x1 x2 x3 x7 hN af ak ai aj hG hS aw;rintro aC σ H ⟨rfl,F,G,Z,aa,ab,ac,D,h,rfl⟩ k;have(od,ae):=hN.at;have ay:C≠d:=Zu af ae (by intro z;cases z);have ap:B≠d:=Zu ai ae (by intro z;cases z);let az:Nat->St->Hp->Prop:=λi σ Q=>i0 λg a F G D h=>ir (σ=s4 x0 x1 x2 x3 F G d x7 C B g Z aa ab ac D h) (Of d H Q) (Num P w Q d S a) (ig tl S a) (sQ S l a) (∀p∈u.take i,a p.1=a p.2) (g=Gx->∀t∈S,a t=l t) (g=Gi->∃x∈S,∃y∈S,l x≠l y/\a x=a y)
 refine⟨_,Xb,C,Xb,{_,Qk af},Yw (K:=K) (a:=C) (xs:=Y) az
  {Gx,l,F,G,D,h,1,Of.refl,hN,hS,λ_ _ _ _ e=>e,by simp,λ_ _ _=>rfl,λe=>by cases e} (by rintro i σ Q _ ⟨_,_,_,_,_,_,_,v,_⟩;exact Qk (v _ _ af ay)) ?_ ?_⟩
 .rintro i x σ Q hi ⟨g,a,F,G,D,h,rfl,v,R,ah,ad,dn,gf,gt⟩;subst_vars;have((O,o),eu,a',v1,v2,rfl,av,t1,t2):=Qy ak hi;have tu:Q7 H Q:=v.Qv ae (λxs z=>by cases z);have(b1,_,_,_,rfl,_,_,_):=t1.inv;have(b2,_,_,_,rfl,_,_,_):=t2.inv;have t1:=t1.Qv tu;have t2:=t2.Qv tu;have(X,M,mc):=hG (O,o) (Gc eu);and_intros;have tk:u.take (i+1)=u.take i++[(O,o)]:=by rw[TF,eu];rfl
  exists a',0,Qj (tu _ _ av),130301;refine{00,R.get X t1 ?_};refine{000,R.get M t2 {10,?_}};rw[Jo];refine Uu (λc=>?_) (λc=>?_)
  .have c:a O≠a o:=by simpa using c
   generalize ho:a O=r at*;generalize hn:a o=n at*;have ax:∀t,mrg a r n t≠r:=λt z=>by
    unfold mrg at z;split at z
    .exact c z.symm
    .rename_i au;exact au z
   have al:mrg a r n o=n:=by unfold mrg;rw[Gs (by rw[hn];exactλz=>c z.symm)];exact hn
   have ao:=v _ _ ai ap;let aA:Nat->St->Hp->Prop:=λj σ T=>kg λL2 h=>jn (σ=s4 x0 x1 x2 x3 (Ga (.ref b1)) (Ga (.ref b2)) d x7 C B Gi Z aa ab ac (Ga (.int r)) h) (Of d Q T) (Num P w T d S L2) (∀t∈S,L2 t=a t\/L2 t=mrg a r n t) (∀t∈S.take j,L2 t=mrg a r n t)
   refine⟨_,Xb,B,Xb,{_,Qk ao},Yw (K:=K) (a:=B) (xs:=nv) aA
    {a,0,Of.refl,R,λt _=>.inl Xb,by simp} (by rintro j σ T _ ⟨_,_,_,J,_⟩;exact Qk (J _ _ ao ap)) ?_ ?_⟩
   .rintro j y σ T hj ⟨L2,h,rfl,J,U,W,l2⟩;subst_vars;have(N,e0,m):=aj.get hj;have ag:=Gc e0;have aB:Q7 H T:=(v.trans J).Qv ae (λxs z=>by cases z);have(b0,_,_,_,rfl,_,_,_):=m.inv;and_intros;have m:=m.Qv aB;have aq:S.take (j+1)=S.take j++[N]:=by rw[TF,e0];rfl
    refine{00,U.get ag m {010,?_}};rw[Jo];refine Uu (λL=>?_) (λL=>?_)
    .have L:L2 N=r:=by simpa using L
     have e2:L2 o=n:=by
      rcases W o M with z|z
      .rw[z,hn]
      .rw[z,al]
     have an:mrg a r n N=n:=by
      rcases W N ag with z|z
      .unfold mrg;rw[GV (by rw[<-z];exact L)]
      .exact absurd (z.symm.trans L) (ax N)
     refine{00,U.get M (t2.Qv (J.Qv R.at.choose_spec (λxs z=>by cases z))) {_,rfl,_,rfl,U.put (by ext) ag m λH3 ar N3=>?_}};refine{30,J.trans ar,N3,λt ht=>?_,λt ht=>?_}
     .by_cases z:t=N
      .subst z;right;rw[GV Xb,e2,an]
      .rw[Gs z];exact W t ht
     .by_cases z:t=N
      .subst z;rw[GV Xb,e2,an]
      .rw[Gs z];rw[aq,Gh,Tb]at ht;exact l2 t (ht.resolve_right z)
    .have L:L2 N≠r:=by simpa using L
     refine{30,J,U,W,λt ht=>?_};rw[aq,Gh,Tb]at ht;rcases ht with ht|ht
     .exact l2 t ht
     .subst ht;rcases W t ag with z|z
      .rw[z];unfold mrg;rw[Gs (by rw[<-z];exact L)]
      .exact z
   .rintro σ T ⟨L2,h,rfl,J,U,W,l2⟩;rw[aj.length,Tz]at l2;have q:∀x∈S,L2 x=mrg a r n x:=l2;refine{Gi,L2,320,v.trans J,U,?_,?_,?_,(λe=>by cases e),λ_=>?_}
    .intro x hx y m e;rw[q x hx,q y m]at e;rw[<-ho,<-hn]at e;exact QO X M ah mc x hx y m e
    .intro x hx y m e;rw[q x hx,q y m];exact Kc (ad x hx y m e)
    .intro p b;rw[tk,Gh,Tb]at b;rcases b with b|b
     .have am:=hG p (Dq b);rw[q _ am.1,q _ am.2.1];exact Kc (dn p b)
     .subst b;show L2 O=L2 o;rw[q _ X,q _ M,al];unfold mrg;rw[GV ho]
    .exists O,X,o,M,λz=>c ?_
     .have:=ad O X o M z;rw[ho,hn]at this;exact this
     .rw[q _ X,q _ M,al];unfold mrg;rw[GV ho]
  .have c:a O=a o:=by simpa using c
   refine{g,a,320,v,R,ah,ad,λp b=>?_,gf,gt};rw[tk,Gh,Tb]at b;rcases b with b|b
   .exact dn p b
   .subst b;exact c
 .rintro σ Q ⟨g,a,F,G,D,h,rfl,v,R,ah,ad,dn,gf,gt⟩;have e:u.take Y.length=u:=by rw[show Y.length=u.length from GQ ak,Tz]
  rw[e]at dn;exact k _ _ {g,a,32220,v,R,ah,ad,dn,gf,gt}
end
inductive jb(L:Th->Int)(u v:Th):Prop
 |mk (w:_) (ps:_) (qs:_) (h0:u=.mk w ps) (h1:v=.mk w qs) (h2:ps.map L=qs.map L):jb L u v
theorem Pj{S:List Th}{L:Th->Int}(b:∀w ps,Th.mk w ps∈S->∀p∈ps,p∈S)(j:ig tl S L){a:List Th}(g:Th.mk w ps∈S)(h:Th.mk w a∈S)(e:ps.map L=a.map L):Cg tl (.mk w ps) (.mk w a):=by
 refine .cong (hI.of (by have:=congrArg E1 e;simpa using this) λi p q d f=>?_);have c:(ps.map L)[i]?=(a.map L)[i]?:=by rw[e]
 rw[Ts,Ts,d,f]at c;exact j p (b _ _ g p (Gc d)) q (b _ _ h q (Gc f)) (T3 c)
section
variable{P:Gn}{w:Tg}{K:Gf}{mg:TQ->Option Gj}{base:Heap}{f:Gd}{cdv:Gj}{A:DT}{outer:List Bv}{s:Gz}{Hi:Hp}{E:XK}
theorem Qkg(ad:hO mg)(B:(XC P w K mg base f cdv A outer s Hi E).A.units+64<EY):∃t,PS (XC P w K mg base f cdv A outer s Hi E) YK t/\∀(tl:Tl)(S:List Th)(g:Th->Int)(d e C:Gd)(pq Y:List V)(L:List (Th×Th))(N:Hp)(x0 x1 x2 x3 x5 x7:Option V)
  (hN:Num P w N d S g)(ag:N e=Ga (.lst pq))(ay:iz N pq L)(an:N C=Ga (.lst Y))(af:Zy N Y S)(av:C≠e)(hG:Good tl S L)(hS:ig tl S g)(cl:∀w ps,Th.mk w ps∈S->∀p∈ps,p∈S)(ao:∀t∈S,t.size<=3000)(aB:S.length<=3000)(aE:L.length<=3000),
  Tr t
   (λσ H=>H=N/\∃m M n h l T U,σ=s4 x0 x1 x2 x3 m x5 d x7 e C Gx M n h l T U)
   (λσ H=>qK λD b m M n h l T U=>jC (σ=s4 x0 x1 x2 x3 m x5 d x7 e C Gx M n h l T U) (Of e N H) (H e=Ga (.lst D)) (iz H D b) (Good tl S b) (∀p∈L,p∈b) (∀(k j:Nat)u v,j<k->S[k]?=Ga u->S[j]?=Ga v->jb g u v->(u,v)∈b)):=by
 have nd:=Ju.nd;exists _,(Yb Tj rfl (V4 rfl ad.range (Qa (Qm Zc rfl ad.len GX (Qa {9} Qd)) Qd)) (Z5 11 nd)
  (Qg (Yb Tj rfl (V4 rfl ad.range (Qa {11} Qd)) (Z5 12 nd)
  (Qc (Qz 4 nd (Qn Zd {9} {11}))
  (Qc (Qz 13 nd (Qn Zd {9} {12}))
  (Qg (Zb (PW.pt (Ii (Qp Xu (Qn Qs {4} Qi) (Qn Qs {13} Qi) (Qu _)) (Jk (Qp Xu (Qm Zc rfl ad.len GX (Qa {4} Qd)) (Qm Zc rfl ad.len GX (Qa {13} Qd)) (Qu _)))))
  (Qc (U3 (i:=14) (own:=["_law_part"]) (fv:=[(6,"_law_leaders")]) nd rfl rfl rfl (S:=(by eq_refl:Wb (Qo Uk) _)) (.cons rfl (DX Xb) rfl .nil) (Jd (Z3 V9 {4} (Yd Qi) Yu))
   (λ_ _ _ _ _=>Yz (i:=0) nd2 rfl (DX Xb) (Sq Xb)) (λ_ _ _ _ _=>Wk) (λ_ _ _ _ _=>(Qn (r:=ma P w) (i8 B) {1} {0})))
  (Qg (Zb (Qp (U1 B) {14} (Ug (own:=["_law_part"]) (fv:=[(6,"_law_leaders")]) rfl (S:=(by eq_refl:Wb (Qo Uk) _)) (.cons rfl (DX Xb) rfl .nil) (Jd (Z3 V9 {13} (Yd Qi) Yu))
   (λ_ _ _ _ _=>Yz (i:=0) nd2 rfl (DX Xb) (Sq Xb)) (λ_ _ _ _ _=>Wk) (λ_ _ _ _ _=>(Qn (r:=ma P w) (i8 B) {1} {0}))) (Qu _))
  (Qg (Zl (X6 Te Tx TC Z4 {8} (Qa (Ze (Qa {4} (Qa {13} Qd))) Qd)))) Qw))) Qw)))))))
 intro tl S g d e C pq Y L N x0 x1 x2 x3 x5 x7 hN ag ay an af av hG hS cl ao aB aE;rintro aS σ H ⟨rfl,m,M,n,h,l,T,U,rfl⟩ kk;have(od,au):=hN.at;have aI:d≠e:=λz=>by rw[z,ag]at au;cases au
 have aT:=af.length;let aK:Nat->St->Hp->Prop:=λi σ H1=>xH λD b m M n h l=>ir (σ=s4 x0 x1 x2 x3 m x5 d x7 e C Gx M n h l T U) (Of e H H1) (H1 e=Ga (.lst D)) (iz H1 D b) (Good tl S b) (∀p∈L,p∈b) (∀(k j:Nat)u v,k<i->j<k->S[k]?=Ga u->S[j]?=Ga v->jb g u v->(u,v)∈b) (b.length<=3000+i*3000)
 refine⟨_,Xb,_,_,Xb,.inl {Y,Qk an,1},_,Xb,by lia,by lia,Ua (lo:=0) (n:=((Y.length:Int)).toNat) aK
  {pq,L,m,M,n,h,l,1,Of.refl,ag,ay,hG,λ_ y=>y,λk j u v y=>by lia,by lia} ?_ ?_⟩
 .rintro i σ H1 hi ⟨ap,aq,m,M,n,h,l,rfl,q,x,I,O,Q,R,g6⟩;have hi:i<S.length:=by lia
  let aL:Nat->St->Hp->Prop:=λj σ F=>i0 λD b m n h l=>mz (σ=s4 x0 x1 x2 x3 m x5 d x7 e C Gx (Ga (.int (0+(i:Int)))) n h l T U) (Of e H F) (F e=Ga (.lst D)) (iz F D b) (Good tl S b) (∀p∈L,p∈b) (∀(k j:Nat)u v,k<i->j<k->S[k]?=Ga u->S[j]?=Ga v->jb g u v->(u,v)∈b) (∀(o:Nat)u v,o<j->S[i]?=Ga u->S[o]?=Ga v->jb g u v->(u,v)∈b) (b.length<=3000+i*3000+j)
  refine⟨_,Xb,_,Xb,by lia,by lia,Ua (lo:=0) (n:=((0+(i:Int))).toNat) aL
   {ap,aq,m,n,h,l,1,q,x,I,O,Q,R,λo u v y=>by lia,by lia} ?_ ?_⟩
  .rintro j σ F hj ⟨Z,ae,m,n,h,l,rfl,q,x,I,O,Q,R,g6,g7⟩;have hj:j<i:=by lia
   subst_vars;have(v1,e1,t1):=af.at (Ge hi);have(v2,e2,t2):=af.at (Ge (show j<S.length by lia));and_intros;have tu:Q7 H F:=q.Qv ag (λxs z=>by cases z);have N2:Num P w F d S g:=hN.keep (λaJ y=>q _ _ y aI) tu;have az:=q _ _ an av;have m1:S[i]∈S:=Fi _;have m2:S[j]∈S:=Fi _;have q1:S[i]?=Ga S[i]:=Ge _;have q2:S[j]?=Ga S[j]:=Ge _;generalize S[i]=u1 at*;generalize S[j]=u2 at*;subst_vars;have(b1,w1,aN,aa,rfl,rfl,al,aw):=(t1.Qv tu).inv;have(b2,w2,aO,ac,rfl,rfl,am,ax):=(t2.Qv tu).inv;and_intros;have l1:=aw.length;have l2:=ax.length;have z1:=ao _ m1;have z2:=ao _ m2;simp only[Th.size]at z1 z2;have y1:=Zj aa;have y2:=Zj ac;exists 00,C,Y,301,Qk az,(by rw[Si];exact Zk e1);exists 00,C,Y,301,Qk az,(by rw[Si];exact Zk e2);exists 0,b1,201,Qj al,Z6,0,b2,201,Qj am,Z6,10;rw[Zg];have ak:∀{m h l:Option V}{H3:Hp},Q9 F H3->¬jb g (.mk w1 aa) (.mk w2 ac)->i0 λD b aR n aP aQ=>mz (s4 x0 x1 x2 x3 m x5 d x7 e C Gx (Ga (.int (0+(i:Int)))) (Ga (.int (0+(j:Int)))) h l T U=s4 x0 x1 x2 x3 aR x5 d x7 e C Gx (Ga (.int (0+(i:Int)))) n aP aQ T U) (Of e H H3) (H3 e=Ga (.lst D)) (iz H3 D b) (Good tl S b) (∀p∈L,p∈b) (∀(k j:Nat)u v,k<i->j<k->S[k]?=Ga u->S[j]?=Ga v->jb g u v->(u,v)∈b) (∀(o:Nat)u v,o<j+1->S[i]?=Ga u->S[o]?=Ga v->jb g u v->(u,v)∈b) (b.length<=3000+i*3000+(j+1)):=λ{m h l H3}sm no=>by
    refine{Z,ae,320,q.trans (Of.of sm),sm _ _ x,I.Qv (Q7.of sm),O,Q,R,λo u v y B X c=>?_,by lia};by_cases z:o=j
    .subst z;rw[q1]at B;rw[q2]at X;cases B;cases X;exact absurd c no
    .exact g6 o u v (by lia) B X c
   refine Uu (λc=>?_) (λc=>?_)
   .have c:w1=w2:=by simpa using c
    subst c;exists 030,.inr {_,Qj al,1},030,.inr {_,Qj am,1},10;rw[Jo];refine Uu (λc2=>?_) (λc2=>?_)
    .refine{00,b1,0,Qj al,Wm _ _,λr hr=>?_};rw[iH];have s3:=Qf hr (.tup aN);refine{r,1,{_,Qj Qb},λp G=>?_};refine AN (K:=K) Qb (aw.same s3) (cl _ _ m1) (N2.same s3) G (by lia) λH4 aM aC=>?_;have ah:Q9 F H4:=s3.trans aM;refine{000,b2,0,Qj (ah _ _ am),Wm _ _,λr2 aG=>?_};rw[iH];have s5:=Qf aG (.tup aO);refine{r2,1,{_,Qj Qb},λp2 aF=>?_};refine AN (K:=K) Qb (ax.same (ah.trans s5)) (cl _ _ m2) (N2.same (ah.trans s5)) aF (by lia) λH6 s6 aD=>?_;have aA:Q9 H4 H6:=s5.trans s6;have ai:=ah.trans aA;exists .list ((aa.map g).map Ei),.list ((ac.map g).map Ei),.lst (aA _ _ aC) (Vf _),.lst aD (Vf _),by simp only[Tv];exact Vn _,by simp only[Tv];exact Vn _,?_,_,Xb
     .have:=Iw (aa.map g);simp only[Dw];lia
     have ev:TW (.list ((aa.map g).map Ei)) (.list ((ac.map g).map Ei))=decide (aa.map g=ac.map g):=by simp only[TW];exact oo _ _
     rw[ev];refine Uu (λW=>?_) (λW=>?_)
     .have W:=Du W;refine{0,.inl {13,Qk (ai _ _ x)},00,Yy,λab he=>?_};have s7:=Qf he (.tup [.ref b1,.ref b2]);have aj:=ai.trans s7;have lp:Z.length=ae.length:=GQ I;have ib:i*3000<=3000*3000:=SG _ (by lia);exists e,Z,.ref ab,11,aj _ _ x,(by rw[TJ];lia);have ar:Q7 F (zj (zj H6 ab (.tup [.ref b1,.ref b2])) e (.lst (Z++[.ref ab]))):=(Q7.of aj).trans (Z2 λxs z=>by rw[aj _ _ x]at z;cases z);have aH:ab≠e:=λz=>by rw[z,ai _ _ x]at he;cases he
      refine{Z++[.ref ab],ae++[(.mk w1 aa,.mk w1 ac)],320,λa aJ h1 J=>by rw[Qh J];exact aj _ _ (q _ _ h1 J),Qb,?_,?_,λp G=>Gu _ (Q p G),λk j u v h1 J h3 h4 h5=>Gu _ (R k j u v h1 J h3 h4 h5),λo u v y B X c=>?_,by rw[Gk,Gy];lia}
      .refine Zq (I.Qv ar) (.cons {ab,30,by rw[Qh aH];exact Qb,(t1.Qv tu).Qv ar,(t2.Qv tu).Qv ar} .nil)
      .intro p G;rcases Gh.mp G with G|G
       .exact O p G
       .rw[Tb]at G;subst G;exact{m1,m2,Pj cl hS m1 m2 W}
      .by_cases z:o=j
       .subst z;rw[q1]at B;rw[q2]at X;cases B;cases X;exact TL _ Tc
       .exact Gu _ (g6 o u v (by lia) B X c)
     .have W:=of_decide_eq_false (Mq.mpr W);refine ak ai ?_;rintro⟨w',ps,qs,z1,z2,z3⟩;cases z1;cases z2;exact W z3
    .refine ak (λ_ _ y=>y) ?_;rintro⟨w',ps,qs,z1,z2,z3⟩;cases z1;cases z2;have:=congrArg E1 z3;simp at this;simp at c2;lia
   .refine Q4 (ak (λ_ _ y=>y) ?_);have c:¬w1=w2:=by simpa using c
    rintro⟨w',ps,qs,z1,z2,z3⟩;cases z1;cases z2;exact c rfl
  .rintro σ F ⟨Z,ae,m,n,h,l,rfl,q,x,I,O,Q,R,g6,g7⟩;refine{Z,ae,220,q,x,I,O,Q,λk j u v h1 J h3 h4 h5=>?_,by lia};by_cases z:k=i
   .subst z;exact g6 j u v (by lia) h3 h4 h5
   .exact R k j u v (by lia) J h3 h4 h5
 .rintro σ H1 ⟨ap,aq,m,M,n,h,l,rfl,q,x,I,O,Q,R,g6⟩;refine kk _ _ {ap,aq,2220,q,x,I,O,Q,λk j u v h1 J h3 h4=>R k j u v ?_ h1 J h3 h4};have:=(Gg.mp J).1;lia
theorem P8{S:List Th}{L:Th->Int}{c:List (Th×Th)}(h:∀(k j:Nat)u v,j<k->S[k]?=Ga u->S[j]?=Ga v->jb L u v->(u,v)∈c)(e:∀p∈c,L p.1=L p.2):
  ∀w a b,Th.mk w a∈S->Th.mk w b∈S->a.map L=b.map L->L (.mk w a)=L (.mk w b):=by
 intro w a b i l g;have(k,f):=Dl.mp i;have(j,d):=Dl.mp l;rcases RY j k with z|z|z
 .exact e _ (h k j _ _ z f d ⟨w,a,b,Xb,Xb,g⟩)
 .subst z;rw[f]at d;cases d;rfl
 .exact(e _ (h j k _ _ z d f {w,b,a,11,g.symm})).symm
theorem OM(aC:hO mg)(hu:(XC P w K mg base f cdv A outer s Hi E).A.units+64<EY):∃t,PS (XC P w K mg base f cdv A outer s Hi E) (cSt 7) t/\∀(j:Tl)(S:List Th)(ab:Th->Int)(d m u:Gd)(pq nv:List V)(O:List (Th×Th))(v:Hp)(Q R T U W:Option V)
  (hN:Num P w v d S ab)(af:v m=Ga (.lst pq))(ap:iz v pq O)(aa:v u=Ga (.lst nv))(am:Zy v nv S)(ai:u≠m)(hG:Good j S O)(hS:ig j S ab)(Z:∀w ps,Th.mk w ps∈S->∀p∈ps,p∈S)(aq:∀t∈S,t.size<=3000)(ah:S.length<=3000)(ao:O.length<=3000)
  (N:∀a e,(Gi,a,e)∈j->a∈S/\e∈S/\(a,e)∈O),
  Tr t
   (λσ H=>H=v/\∃M B D F G I J L,σ=s4 Q R T U M B d W m u Gi D F G I J L)
   (λσ H=>jA λL'=>jQ (σ[6]?=Ga (Ga (.ref d))) (∀c b,v c=Ga b->c≠d->c≠m->H c=Ga b) (Num P w H d S L') (Tells j S L')):=by
 have nd:=Ju.nd;subst_vars;have(t1,aH,aJ):=Qkg (P:=P) (w:=w) (K:=K) (mg:=mg) (base:=base) (f:=f) (cdv:=cdv) (A:=A) (outer:=outer) (s:=s) (Hi:=Hi) (E:=E) aC hu;have(t2,aI,aK):=Qrd (P:=P) (w:=w) (K:=K) (mg:=mg) (base:=base) (f:=f) (cdv:=cdv) (A:=A) (outer:=outer) (s:=s) (Hi:=Hi) (E:=E) hu;and_intros;exists _,Ww Tj (Z1 {10}) (Qc (Qz 10 nd Z9) (Qc aH (Qc aI (Qg (Qz 8 nd (Zt Qd))))));intro j S ab d m u pq nv O v Q R T U W hN af ap aa am ai hG hS Z aq ah ao N;rintro aM σ H ⟨rfl,M,B,D,F,G,I,J,L,rfl⟩ kk;have(od,ae):=hN.at;have aN:d≠m:=λz=>by rw[z,af]at ae;cases ae
 have au:u≠d:=λz=>by rw[z,ae]at aa;cases aa
 exists λar σ x=>qX λr g o C q M B D F G I J L=>qa (σ=s4 Q R T U M B d W o u r D F G I J L) (∀c b,H c=Ga b->c≠d->c≠m->x c=Ga b) (Num P w x d S g) (ig j S g) (x o=Ga (.lst C)) (iz x C q) (Good j S q) (q.length<=3000) (∀c b,H c=Ga b->c≠d->c≠m->c≠o) (∀a e,(Gi,a,e)∈j->(a,e)∈q\/g a=g e) (ar=(if r=Gi then dis S g+1 else 0)) (r=Gx->Oq j S g),
  {_,Gi,ab,m,pq,O,32220,λc b i _ _=>i,hN,hS,af,ap,hG,ao,(λ_ _ _ _ h=>h),λa e h=>.inl (N a e h).2.2,1,λz=>by cases z}
 rintro ar σ x ⟨r,g,o,C,q,M,B,D,F,G,I,J,L,rfl,kp,ac,ak,g1,g2,g3,g4,g5,g6,rfl,g7⟩;exists 0,r,1;cases r with
 |false=>refine Q4 (kk _ _ {g,1,kp,ac,g7 Xb,ak})
 |true=>
  refine Yp {λaB X=>∃m',m'<dis S g+1/\qX λr g o C q M B D F G I J L=>qa (aB=s4 Q R T U M B d W o u r D F G I J L) (∀c b,H c=Ga b->c≠d->c≠m->X c=Ga b) (Num P w X d S g) (ig j S g) (X o=Ga (.lst C)) (iz X C q) (Good j S q) (q.length<=3000) (∀c b,H c=Ga b->c≠d->c≠m->c≠o) (∀a e,(Gi,a,e)∈j->(a,e)∈q\/g a=g e) (m'=(if r=Gi then dis S g+1 else 0)) (r=Gx->Oq j S g),λaB X h=>h,?_};have av:=kp _ _ aa au ai;have aw:u≠o:=g5 _ _ aa au ai;have aL:Q7 H x:=λc xs i=>kp c _ i (λz=>by rw[z,ae]at i;cases i) (λz=>by rw[z,af]at i;cases i);have ax:=am.Qv aL;have aE:d≠o:=λz=>by have(b,ho):=ac.at;rw[z,g1]at ho;cases ho
  refine aJ j S g d o u C nv q x Q R T U B W ac g1 g2 av ax aw g3 ak Z aq ah g4 _ _ _ {412220} ?_;rintro a0 H2 ⟨aG,ay,y4,aO,aP,aQ,aR,aS,aT,rfl,ad,a1,a2,a3,a4,a5⟩;have aA:Q7 x H2:=ad.Qv g1 (λxs z=>by cases z);have N2:Num P w H2 d S g:=ac.keep (λb h=>ad _ _ h aE) aA;have aF:=ad _ _ av aw;refine aK j S g d o u aG nv ay H2 Q R T U W N2 a1 a2 aF (ax.Qv aA) a3 ak ah _ _ _ {4132220} ?_;rintro a6 H3 ⟨g',Y,z4,z5,aU,aV,aW,aX,aY,aZ,rfl,aD,N3,az,al,b1,y,b3⟩;refine{Tu _,λp k=>?_};have ag:=Qf k (.lst []);have aj:∀c b,H c=Ga b->c≠d->c≠m->H3 c=Ga b:=λc b i l n=>aD c b (ad c b (kp c b i l n) (g5 c b i l n)) l;have an:∀c b,H c=Ga b->c≠d->c≠m->c≠p:=λc b i l n z=>by rw[<-z,aj c b i l n]at k;cases k
  have told:∀a e,(Gi,a,e)∈j->Y a=Y e:=λa e h=>by
   rcases g6 a e h with z|z
   .exact b1 _ (a4 _ z)
   .exact al a (N a e h).1 e (N a e h).2.1 z
  cases g' with
  |false=>
   have y:=y rfl;have e1:∀p∈ay,g p.1=g p.2:=λp k=>by rw[<-y _ (a3 p k).1,<-y _ (a3 p k).2.1];exact b1 p k
   have cg:=P8 a5 e1;refine{(0),by lia,Gx,Y,p,[],[],32220,λc b i l n=>ag _ _ (aj c b i l n),N3.same ag,az,Qb,.nil,(λp k=>nomatch k),Tu _,an,λa e h=>.inr (told a e h),1,λ_=>{Z,λa e h=>{(N a e h).1,(N a e h).2.1,told a e h},λw ps qs l n i=>?_}};rw[y _ l,y _ n];refine cg w ps qs l n ?_;rw[<-TX λp k=>y p (Z _ _ l p k),<-TX λp k=>y p (Z _ _ n p k)];exact i
  |true=>have:=YM al (b3 Xb);exact{dis S Y+1,by lia,Gi,Y,p,[],[],32220,λc b i l n=>ag _ _ (aj c b i l n),N3.same ag,az,Qb,.nil,(λp k=>nomatch k),Tu _,an,λa e h=>.inr (told a e h),1,λz=>by cases z}
end
theorem Ih{T:List Th}(h:Zy H xs (T++[t])):∃a x,xs=a++[x]/\Zy H a T/\Z7 H x t:=by
 induction T generalizing xs with
 |nil=>
  cases h with
  |cons b c=>cases c;exact{[],0,.nil,b}
 |cons y r d=>
  cases h with
  |cons b c=>have(a,x,e,f,g):=d c;exact{_::a,x,by rw[e];rfl,.cons b f,g}
theorem Xi:∀a b:List Th,Q6 (a++b)=Q6 a+Q6 b
 |[],b=>by simp[Q6]
 |x::a,b=>by simp only[Dp,Q6,Xi a b];lia
theorem V6:∀(l:List Th)(i:Nat),Q6 (l.take i)<=Q6 l
 |[],i=>by simp
 |x::l,0=>by simp[Q6]
 |x::l,i+1=>by have:=V6 l i;simp only[SQ,Q6];lia
noncomputable def Rp(tl:Tl):List Th:=tl.flatMap λp=>[p.2.1,p.2.2]
theorem qR:∀a:Tl,Q6 (Rp a)=Q6 (a.map (·.2.1))+Q6 (a.map (·.2.2))
 |[]=>by simp[Rp,Q6]
 |p::r=>by have:=qR r;unfold Rp at this⊢;simp only[Mu,Tp,Dp,EL,Q6]at this⊢;lia
theorem ql:t∈Rp tl↔∃p∈tl,t=p.2.1\/t=p.2.2:=by unfold Rp;simp[EC]
theorem U2:∀a:List DO,Ds a []=a.isEmpty
 |[]=>by simp[Ds]
 |_::_=>by simp[Ds]
theorem sF(b:Bool):(tw b==("same":TQ))=b:=by cases b<;>decide+kernel
theorem AC(a:Tl)(i:Nat)(b:Bool)(u v:Th)(h:a[i]?=Ga (b,u,v)):Os (a.take (i+1))=Os (a.take i)++(if b then[(u,v)]else[]):=by unfold Os;rw[TF,h,Lf,TY];cases b<;>rfl
theorem Pt(a:Tl):(Os a).length<=a.length:=by unfold Os;rw[Gv];exact Nj _ _
section
variable{P:Gn}{w:Tg}{K:Gf}{mg:TQ->Option Gj}{base:Heap}
theorem QI(F:Wg K "_law_classes" "_law_classes" Uk f fd)(aj:hO mg):Q3 P w K mg base Ya 1 f fd ["_law_told","_law_things"] (AE P w):=by
 refine F.ok Ju (λvs B a0 E b=>?_) (λcdv A outer s B vs a0 E hr b=>?_)
 .obtain⟨a,ai,us,ar,j,L,rfl,_⟩:=b;rfl
 have(a,ai,us,ar,j,L,rfl,ha,ay,hb,a1,aQ,aP,bf,q):=b;have J:=Ju.nd;have hu:=hr.units;have(t7,a5,a6):=OM (P:=P) (w:=w) (K:=K) (mg:=mg) (base:=base) (f:=f) (cdv:=cdv) (A:=A) (outer:=outer) (s:=s) (Hi:=B) (E:=E) aj hu;exists _,(Qc (Qz 2 J (X0 Ut rfl aj.list T9 (Qa {1} Qd)))
  (Qc (Yb Tj rfl (Yh {0}) (Uc rfl (Zr (Z5 3 J) (Zr (Z5 4 J) (Zr (Z5 5 J) Wp))))
  (Qg (Qz 2 J (Zf Wc {2} (Zt (Qa {4} (Qa {5} Qd)))))))
  (Qc (V5 (i:=6) J rfl (Sq Xb) Rn)
  (Qc (Ww Tj (Qp (jO hu) {2} (Zt Qd) (Qu _))
  (Qc (Qz 7 J (O0 Te Et Eu O3 {2}))
  (Qg (Zb (Qp (ux hu) {7} {6} rfl)
  (Qc (Rk (Qm Qn2 rfl aj.len GX (Qa {6} Qd)) (ke {6} {7} (kj hu)))
  (Qg (Qz 2 J (Zf Wc {2} (X0 Ut rfl aj.list T9 (Qa (Z3 V9 {7} (Yd Qi) Yu) Qd)))))) Qw))))
  (Qc (U3 (i:=8) (own:=["_law_deed"]) (fv:=[]) J rfl rfl rfl (S:=(by eq_refl:Wb (Qo Uk) _)) .nil (Yh {0})
   (λ_ _ _ _ _=>Yz (i:=0) (nd1 _) rfl (DX Xb) (Sq Xb)) (λ_ _ _ _ _=>n9 (Qp Xu (Qn (r:=jw K) Qs {0} Qi) Zh (Qu _))) (λ_ _ _ _ _=>Z3 (r:=v9 K) V9 {0} (Yd Qi) Yu))
  (Qc (Qz 9 J (X0 (XT Xb) rfl aj.list T9 (Qa {6} Qd)))
  (Qc (Qz 10 J Z9)
  (Qc a5
  (Qg (Qt {6}))))))))))
 have aR:us.length=j.length:=GQ ay;have bg:j.length<=3000:=by have:=Zj (j.map (·.2.1));rw[Gv]at this;lia
 refine{0,ai,ar,1,.inl (Qk hb),λg T=>?_};have s1:=Qf T (.lst ar);let a3:Nat->St->Hp->Prop:=λi C H1=>iK λ(g:Gd)(xs:List V)(x3 x4 x5:Option V)=>jn (C=[Ga (.ref a),Ga (.ref ai),Ga (.ref g),x3,x4,x5,Gq,Gq,Gq,Gq,Gq,Gq,Gq,Gq,Gq,Gq,Gq]) (Q9 B H1) (B g=Gq) (H1 g=Ga (.lst xs)) (Zy H1 xs (L++Rp (j.take i)))
 refine⟨_,Xb,a,Xb,{_,Qk (s1 _ _ ha)},Yw (K:=K) (a:=a) (xs:=us) a3
  {g,ar,20,s1,T,Qb,by simp[Rp];exact a1.same s1} (by rintro i C H1 _ ⟨_,_,_,_,_,_,Y,_⟩;exact Qk (Y _ _ ha)) ?_ ?_⟩
 .rintro i x C H1 hi ⟨g,xs,x3,x4,x5,rfl,Y,T,G,H⟩;subst_vars;have((bb,u1,u2),eu,a',Z,v2,rfl,aw,t1,t2):=Qy ay hi;and_intros;exists a',0,Qj (Y _ _ aw),13030301;refine{000,Yy,λc M=>?_};have U:=Qf M (.lst [Z,v2]);have lx:=H.length;have R:=Zj (L++Rp (j.take i));have b2:Q6 (L++Rp (j.take i))<=3000:=by have o:=qR (j.take i);have N:=V6 (j.map (·.2.1)) i;have Q:=V6 (j.map (·.2.2)) i;rw[MD,MD]at o;rw[Xi];lia
  refine{g,c,xs,[Z,v2],11,U _ _ G,Qb,small (by show xs.length+2<=_;lia),λn O=>?_};have v:=Qf O (.lst (xs++[Z,v2]));have l:=(Y.trans U).trans v;exists n,xs++[Z,v2],20,l,(Y.trans U).free O,Qb;have e:L++Rp (j.take (i+1))=(L++Rp (j.take i))++[u1,u2]:=by unfold Rp;rw[TF,eu,NF,Dk];rfl
  rw[e];exact((H.same U).same v).append (.cons (t1.same l) (.cons (t2.same l) .nil))
 rintro C H1 ⟨g,xs,x3,x4,x5,rfl,Y,T,G,H⟩;rw[aR,Tz]at H;have aN:∀t∈L++Rp j,t.ok=Gi/\t.depth<=8:=λt ht=>by
  rcases Gh.mp ht with b|b
  .exact aQ t b
  .obtain⟨p,m,e⟩:=ql.mp b;rcases e with rfl|rfl
   .exact(aP p m).1
   .exact(aP p m).2
 have aT:Q6 (L++Rp j)<=3000:=by rw[Xi,qR];lia
 have a7:∀t∈L++Rp j,t∈L++Rp j:=λt b=>b;generalize aO:L++Rp j=T0 at H aN aT a7;intro d hd;have ax:B d=Gq:=Y.free hd;have U:=Qf hd (Uv P w d []);have ac:g≠d:=Qe G hd;exists λaS C D=>i0 λ(g:Gd)(xs:List V)(k S:List Th)(u:Th->Int)(x7:Option V)=>rZ (C=[Ga (.ref a),Ga (.ref ai),Ga (.ref g),x3,x4,x5,Ga (.ref d),x7,Gq,Gq,Gq,Gq,Gq,Gq,Gq,Gq,Gq]) (Q9 B D) (B g=Gq) (g≠d) (D g=Ga (.lst xs)) (Zy D xs k) (Num P w D d S u) (∀x∈S,∀y∈S,u x=u y->x=y) (∀x∈S,u x<S.length) (∀w h,Th.mk w h∈S->∀p∈h,p∈S\/p∈k) (∀t∈T0,t∈S\/t∈k) (∀t∈k,t.ok=Gi/\t.depth<=8) (aS=Q6 k) (S.length+Q6 k<=3000) (∀t∈S,t.size<=3000),
  {_,g,xs,T0,[],λ_=>0,0,Y.trans U,T,ac,U _ _ G,H.same U,{{[],Qb,(λp m=>nomatch m),1,(λt ht=>nomatch ht)},(λt ht=>nomatch ht)},(λt ht=>nomatch ht),(λt ht=>nomatch ht),(λ_ _ ht=>nomatch ht),λt ht=>.inr ht,aN,1,by simpa using aT,(λt ht=>nomatch ht)}
 clear G H T ac U;rintro aS C D ⟨g,xs,k,S,u,x7,rfl,aU,T,ac,G,H,aM,az,aq,cl,W,aA,rfl,sz,aB⟩;have lx:=H.length;have lT:=Zj k;refine{0,Tu _,λz hz=>?_};have s4:=Qf hz (.lst []);have be:g≠z:=Qe G hz;have a2:okL k=Gi:=by rw[Us,EW];exactλt ht=>(aA t ht).1
 exists .list (X9 k),.list [],.lst (s4 _ _ G) (H.same s4).dts,.lst Qb .nil,by simp only[Tv];exact lj k a2,by simp[Tv,Gw],?_,_,Xb
 .simp only[Dw,TV];lia
 have ev:TW (.list (X9 k)) (.list [])=k.isEmpty:=by
  simp only[TW];rw[U2];cases k with
  |nil=>simp[X9]
  |cons t r=>simp[X9]
 rw[ev];rcases Su k with rfl|⟨Tr,t,eT⟩
 ·
  refine Q4 ?_;have cl:∀w h,Th.mk w h∈S->∀p∈h,p∈S:=λw h b p m=>(cl w h b p m).resolve_right (by simp);have W:∀t∈T0,t∈S:=λt b=>(W t b).resolve_right (by simp);have Q:=aU.trans s4;have N3:=aM.same s4;generalize zj D z (.lst [])=H3 at Q N3⊢;refine{0,a,1,{_,Qk (Q _ _ ha)},λp m=>?_};have sp:=Qf m (.lst []);have aV:B p=Gq:=Q.free m;refine R3 (K:=K) (a:=a) (xs:=us) (small (by lia)) (λi R C o=>(∃x0,C=[x0])/\Q9 H3 o/\iz o R (Os (j.take i))) {{40},sp,by simp[Os];exact .nil} (by rintro i R C o _ ⟨_,l,_⟩;exact Qk (l _ _ (Q _ _ ha))) ?_ ?_
  .rintro i x R C o hi ⟨⟨x0,rfl⟩,l,gp⟩ v;subst_vars;have((bb,u1,u2),eu,a',Z,v2,rfl,aw,t1,t2):=Qy ay hi;and_intros;have aa:=Q.trans l;have a4:=aa _ _ aw;exists 0,a',201,Qj a4,Z6,10;rw[Zg,sF];cases bb with
   |true=>
    refine Yp ?_;refine{00,a',0,Qj a4,Wm _ _,λr hr=>?_};rw[iH];have M:=Qf hr (.tup [Z,v2]);have av:r≠p:=λz=>by rw[z,v]at hr;cases hr
    have N:Q7 o (zj (zj o r (.tup [Z,v2])) p (.lst (R++[.ref r]))):=(Q7.of M).trans (Z2 λxs e=>by rw[M _ _ v]at e;cases e);exists M _ _ v,{40},λc X e=>?_
    .rw[Qh (Qe e m)];exact M _ _ (l _ _ e)
    .rw[AC j i Gi u1 u2 eu];exact Zq (gp.Qv N) (.cons {r,Z,v2,1,by rw[Qh av];exact Qb,(t1.same aa).Qv N,(t2.same aa).Qv N} .nil)
   |false=>refine Q4 {v,{40},l,?_};rw[AC j i Gx u1 u2 eu];simpa using gp
  .rintro R C o ⟨_,l,gp⟩ v;rw[aR,Tz]at gp;have N4:=N3.same l;have(ap,dh,lk,an):=N4.names;refine{0,d,ap,1,dh,λn O=>?_};have N:=Qf O (.lst (ap.map λp=>V.ref p.2.1));have M:∀x∈j,x.2.1∈S/\x.2.2∈S:=λx I=>by rw[<-aO]at W;exact{W _ (TL _ (ql.mpr {x,I,.inl Xb})),W _ (TL _ (ql.mpr {x,I,.inr Xb}))}
   refine a6 j S u d p n R _ (Os j) _ _ _ _ _ _ (N4.same N) (N _ _ v) (gp.Qv (Q7.of N)) Qb (an.same N) (Ta (Qe v O)) ?_ ?_ cl aB (by lia) (by have:=Pt j;lia) ?_ _ _ _ {4132220} ?_
   .rintro⟨x,y⟩ ab;have b:=zZ.mp ab;exact{(M _ b).1,(M _ b).2,.told b}
   .intro x I y hy e;rw[az x I y hy e];exact .refl _
   .intro x y b;exact{(M _ b).1,(M _ b).2,zZ.mpr b}
   .rintro aW H7 ⟨L7,h6,kp,N7,T7⟩;refine{_,h6,q d S L7 H7 (λc X e=>?_) ax N7 T7 (λt ht=>W t (by rw[<-aO];exact Gu _ ht)) M};exact kp c X (N _ _ (l _ _ (Q _ _ e))) (Qe e ax) (Qe e aV)
 .have eT:k=Tr++[t]:=by simpa using eT
  subst eT;have aZ:(Tr++[t]).isEmpty=Gx:=by cases Tr<;>rfl
  rw[aZ];refine Yp ?_;subst_vars;have(o,x,rfl,k1,k2):=Ih H;and_intros;have am:Q6 (Tr++[t])=Q6 Tr+t.size:=by rw[Xi];simp[Q6]
  rw[am]at sz;have bd:=R0 t;have(ae,ak):=aA t (by simp);exists λaF Q=>∃m',m'<Q6 (Tr++[t])/\i0 λ(g:Gd)(xs:List V)(k S:List Th)(u:Th->Int)(x7:Option V)=>rZ (aF=[Ga (.ref a),Ga (.ref ai),Ga (.ref g),x3,x4,x5,Ga (.ref d),x7,Gq,Gq,Gq,Gq,Gq,Gq,Gq,Gq,Gq]) (Q9 B Q) (B g=Gq) (g≠d) (Q g=Ga (.lst xs)) (Zy Q xs k) (Num P w Q d S u) (∀x∈S,∀y∈S,u x=u y->x=y) (∀x∈S,u x<S.length) (∀w h,Th.mk w h∈S->∀p∈h,p∈S\/p∈k) (∀t∈T0,t∈S\/t∈k) (∀t∈k,t.ok=Gi/\t.depth<=8) (m'=Q6 k) (S.length+Q6 k<=3000) (∀t∈S,t.size<=3000),λaF Q b=>b;have aY:(o++[x])[(o++[x]).length - 1]?=Ga x:=by simp
  exists 0,.inl {13,Qk (s4 _ _ G)},g,301,s4 _ _ G,aY;rw[SI];have ad:Of g D (zj (zj D z (.lst [])) g (.lst o)):=λc X e b=>by rw[Qh b];exact s4 _ _ e
  have l5:(zj (zj D z (.lst [])) g (.lst o)) g=Ga (.lst o):=Qb;generalize zj (zj D z (.lst [])) g (.lst o)=R at ad l5⊢;have t5:Q7 D R:=ad.Qv G (λxs e=>by cases e);have aE:Q9 B R:=λc X e=>ad c X (aU _ _ e) (Qe e T);have N5:Num P w R d S u:=aM.keep (λX b=>ad _ _ b (Ta ac)) t5;have k1:=k1.Qv t5;have k2:=k2.Qv t5;subst_vars;have(b0,M,N,h,rfl,rfl,aX,aC):=k2.inv;and_intros;refine{00,N5.VD ae ak k2 {0,?_}};have aD:∀t∈Tr,t.ok=Gi/\t.depth<=8:=λt ht=>aA t (Gu _ ht);refine Uu (λc=>?_) (λc=>?_)
  .have c:¬Th.mk M h∈S:=by simpa using c
   have(ap,dh,lk,_):=N5.names;refine{0,d,ap,1,dh,00,N5.add (by lia) c ae ak k2 λH6 aG N6=>?_};have b6:Of d R H6:=aG;have(o5,aI):=N5.at;have ah:Q7 R H6:=b6.Qv aI (λxs e=>by cases e);have au:Q9 B H6:=λc X e=>b6 c X (aE _ _ e) (Qe e ax);have l6:=b6 _ _ l5 ac;have aQ:(Th.mk M h).size=Q6 h+1:=by simp only[Th.size]
   have ba:=aC.length;have a9:=Zj h;have bc:=k1.length;have a8:=Zj Tr;refine{000,b0,0,Qj (ah _ _ aX),Wm _ _,λr aK=>?_};rw[iH];have s7:=Qf aK (.tup N);refine{r,N,1,.inr (Qj Qb),λl2 aH=>?_};have s8:=Qf aH (.lst N);refine{g,l2,o,N,11,s8 _ _ (s7 _ _ l6),Qb,small (by lia),λn O=>?_};have s9:=Qf O (.lst (o++N));have af:=s7.trans s8;have ag:=af.trans s9;have(o6,aJ):=N6.at;have aL:∀p∈h,p.ok=Gi/\p.depth<=8:=λp m=>by
    have l:okL h=Gi:=by simp only[Th.ok,T5]at ae;exact ae.2
    rw[Us,EW]at l;have v:=Wl m;simp only[Th.depth]at ak;exact{l p m,by lia}
   exists Q6 (Tr++h),?_,n,o++N,Tr++h,S++[Th.mk M h],30,au.trans ag,(au.trans af).free O,?_,Qb,?_,N6.same ag,?_,?_,?_,?_,?_,1,?_
   .rw[am,Xi];lia
   .exactλz=>by rw[z,af _ _ aJ]at O;cases O
   .exact((k1.Qv ah).append (aC.Qv ah)).same ag
   .intro x I y hy e;rw[Gh,Tb]at I hy;by_cases l:x=Th.mk M h
    .by_cases v:y=Th.mk M h
     .rw[l,v]
     .rw[GV l,Gs v]at e;have:=aq y (hy.resolve_right v);lia
    .by_cases v:y=Th.mk M h
     .rw[Gs l,GV v]at e;have:=aq x (I.resolve_right l);lia
     .rw[Gs l,Gs v]at e;exact az x (I.resolve_right l) y (hy.resolve_right v) e
   .intro x I;rw[Gh,Tb]at I;rw[Gk,Gy];by_cases l:x=Th.mk M h
    .rw[GV l];lia
    .rw[Gs l];have:=aq x (I.resolve_right l);lia
   .intro w' ao b p m;rcases Gh.mp b with b|b
    .rcases cl w' ao b p m with z|z
     .exact .inl (Gu _ z)
     .rcases Gh.mp z with z|z
      .exact .inr (Gu _ z)
      .exact .inl (TL _ z)
    .rw[Tb]at b;cases b;exact .inr (TL _ m)
   .intro t ht;rcases W t ht with z|z
    .exact .inl (Gu _ z)
    .rcases Gh.mp z with z|z
     .exact .inr (Gu _ z)
     .exact .inl (TL _ z)
   .intro t ht;rcases Gh.mp ht with z|z
    .exact aD t z
    .exact aL t z
   .rw[Xi,Gk,Gy];lia
   .intro t ht;rcases Gh.mp ht with z|z
    .exact aB t z
    .rw[Tb]at z;rw[z];lia
  .have c:Th.mk M h∈S:=by simpa using c
   refine{Q6 Tr,by rw[am];lia,g,o,Tr,S,u,0,aE,T,ac,l5,k1,N5,az,aq,λw' ao b p m=>?_,λt ht=>?_,aD,1,by lia,aB}
   .rcases cl w' ao b p m with z|z
    .exact .inl z
    .rcases Gh.mp z with z|z
     .exact .inr z
     .rw[Tb]at z;rw[z];exact .inl c
   .rcases W t ht with z|z
    .exact .inl z
    .rcases Gh.mp z with z|z
     .exact .inr z
     .rw[Tb]at z;rw[z];exact .inl c
end
theorem Qfz{i g:Type}{F:i->g->Prop}{f:List i}{d:List g}{p:g}(h:Dg F f (d++[p])):∃a x,f=a++[x]/\Dg F a d/\F x p:=by
 induction d generalizing f with
 |nil=>
  cases h with
  |cons b c=>cases c;exact{[],0,.nil,b}
 |cons y r j=>
  cases h with
  |cons b c=>have(a,x,e,k,l):=j c;exact{_::a,x,by rw[e];rfl,.cons b k,l}
theorem VV(i:Int)(a:0<=i)(a:i<26):∃c:Nat,Oh (("abcdefghijklmnopqrstuvwxyz":TQ).cps.toList) i=Ga c/\c<0x110000:=by
 have b:(("abcdefghijklmnopqrstuvwxyz":TQ).cps.toList).length=26:=by decide+kernel
 have a:∀c∈(("abcdefghijklmnopqrstuvwxyz":TQ).cps.toList),c<0x110000:=by decide+kernel
 have hi:i.toNat<(("abcdefghijklmnopqrstuvwxyz":TQ).cps.toList).length:=by rw[b];lia
 have e:i=((i.toNat:Nat):Int):=by lia
 have q:=Zk (Ge hi);rw[<-e]at q;exact{_,q,a _ (Fi hi)}
theorem Qnd{c:Nat}{x:TQ}(b:c<0x110000)(h:DM x=Gi):DM ((⟨#[c]⟩:TQ)++x)=Gi:=by show((#[c]++x.cps).all (·<0x110000))=Gi;have a:x.cps.all (·<0x110000)=Gi:=h;rw[Array.all_append,a];simp[b]
theorem ZO{c:Nat}{x:TQ}:((⟨#[c]⟩:TQ)++x).length=x.length+1:=by show(#[c]++x.cps).size=x.cps.size+1;simp;lia
theorem OP{k:Nat}{l:Int}(b:1<=l)(h:l*2^k<=10^39):k<130:=by
 rcases Dh k 130 with a|a
 .exact a
 .exfalso;have e:(2:Int)^130<=2^k:=by
   have:(2:Nat)^130<=2^k:=Nat.pow_le_pow_right (by decide) a
   exact_mod_cast this
  have d:(2:Int)^k<=l*2^k:=by have c:(0:Int)<=2^k:=Hm (HP (by decide));have:=Fj b c;simpa using this
  have f:(10:Int)^39<2^130:=by decide
  lia
theorem P7{k:Nat}{l:Int}(a:1<=l / 26 - 1)(h:l*2^k<=10^39):(l / 26 - 1)*2^(k+1)<=10^39:=by
 have a:(0:Int)<2^k:=HP (by decide);have e:(l / 26 - 1)*2^(k+1)=((l / 26 - 1)*2)*2^k:=by rw[Int.pow_succ];ac_rfl
 rw[e];have:(l / 26 - 1)*2<=l:=by lia
 have:=Fj this (Hm a);lia
section
variable{P:Gn}{w:Tg}{K:Gf}{mg:TQ->Option Gj}{base:Heap}
theorem mw:Q8 ["_law_cell","_law_left","_law_word"] ["_law_cell"] (Qo kz):=by eq_refl
theorem KN(F:Wg K "_law_any_word" "_law_any_word" kz f fd)(G:mg "abs"=Gq):Q3 P w K mg base Ya 1 f fd ["_law_cell"] xU:=by
 refine F.ok mw (λI H Q E h=>?_) (λC A i s H I Q E S h=>?_)
 .obtain⟨n,rfl,_⟩:=h;rfl
 have(n,rfl,q):=h;show∃t,W0 ?my _ t/\_;let N:Xk ?my kz 3:={_,Qg (Qt {2})}
 let M:Xk ?my kz 2:=⟨_,Qc (Ww Tj (Qp lU {1} Qi (Qu _))
   (Qc (V5 (i:=2) mw.nd rfl (DX Xb) (Zf KB (Qn zT Zh (Zf Wn {1} Qi)) {2}))
   (Qg (V5 (i:=1) mw.nd rfl (DX Xb) (Zf Rm (Zf Wr {1} Qi) Qi))))) N.2⟩
 let J:Xk ?my kz 1:={_,Qc (V5 (i:=2) mw.nd rfl (DX Xb) Zh) M.2}
 exists _,Qc (V5 (i:=1) mw.nd rfl (DX Xb) (Zf Wn (Qm Qwr rfl G Ho (Qa {0} Qd)) (Zf xI Qi Qi))) J.2;exists 0,n,1301,{by decide,by decide,by decide},301,(by show(0:Int)<10^E9 39;decide);have y:0<=(if n<0 then -n else n) % (10:Int)^(E9 39):=DI _ (by decide);have B:(if n<0 then -n else n) % (10:Int)^(E9 39)<10^39:=Dx _ (by decide);exists λm v e=>kg λ(l:Int)(x:TQ)=>ir (v=[Ga (.int n),Ga (.int l),Ga (.str x)]) (e=H) (-1<=l) (m=(l+1).toNat) (DM x=Gi) (1<=l->l*2^x.length<=10^39) (0<=l->x.length<=131) (x.length<=132),
  {_,(if n<0 then -n else n) % (10:Int)^(E9 39),"",11,Int.le_trans (by decide) y,1,by decide+kernel,λ_=>?_,λ_=>by decide+kernel,by decide+kernel}
 .have:(("":TQ).length)=0:=by decide+kernel
  rw[this];generalize (if n<0 then -n else n) % (10:Int)^(E9 39)=L at B⊢;ext
 rintro m v e ⟨l,x,rfl,rfl,O,rfl,p,r,u,R⟩;exists 403010;refine Uu (λc=>?_) (λc=>?_)
 .have k:0<=l:=Du c;exists λd j=>jA λb=>jQ (d=[Ga (.int n),Ga (.int (l / 26 - 1)),Ga (.str b)]) (j=e) (DM b=Gi) (b.length=x.length+1),?_
  .rintro d j ⟨b,rfl,rfl,g,a⟩;exists _,?_,l / 26 - 1,b,11,by ext,1,g,λz=>?_,λz=>?_
   .ext
   .rw[a];exact P7 z (r (by ext))
   .rw[a];have:=OP (k:=x.length) (l:=l) (by ext) (r (by ext));ext
   .rw[a];have:=u k;ext
  .obtain⟨o,g,a⟩:=VV (l % 26) (DI _ (by decide)) (Dx _ (by decide));exists 0301,(by show(0:Int)<26;decide),2,o,11,by decide+kernel,g,0301,?_
   .have D:((⟨#[o]⟩:TQ).length)=1:=rfl;have:=u k;rw[TJ,D];ext
   .exists 0301,{by decide,by decide},301;exact{01,Qnd a p,ZO}
 .exact{0,q x (by unfold Oo;rw[p,Ti (by ext)];rfl)}
end
def iG(b H:Hp):List V->List DO->Prop:=Dg λx d=>∃a y z,x=.ref a/\H a=Ga (.tup [y,z])/\Dt b y d/\Dt b z d
theorem iG.Qv{c b:Hp}(e:Q7 H b)(h:iG c H xs ds):iG c b xs ds:=
 Qr h (by rintro x d ⟨a,y,z,f,g,i,j⟩;exact{a,y,z,f,e _ _ g,i,j})
def prD(d:DO):DO:=.tuple [d,d]
theorem iG.dts{b:Hp}(g:Q9 b H)(h:iG b H xs ds):hH H xs (ds.map prD):=by
 unfold iG at h;induction h with
 |nil=>exact .nil
 |cons h r i=>have(a,y,z,c,d,e,f):=h;subst c;exact .cons (.tup d (.cons (e.same g) (.cons (f.same g) .nil))) i
theorem uo:∀(a:List DO),Gw a=Gi->Gw (a.map prD)=Gi
 |[],_=>by simp[Gw]
 |d::r,h=>by simp only[Gw,T5]at h;have b:=uo r h.2;simp[prD,Gw,Tv,h.1,b]
theorem Ow:∀(b a:List DO),Gw (b++a)=(Gw b&&Gw a)
 |[],a=>by simp[Gw]
 |x::r,a=>by simp[Gw,Ow r a,Bool.and_assoc]
theorem AJ:∀{a:List DO}{d:DO},d∈a->d.depth<=TV a
 |x::r,d,h=>by
  simp only[TV];rcases Tf.mp h with rfl|h
  .lia
  .have:=AJ h;lia
theorem A6:∀(a:List DO)(n:Nat),Z0 (a.take n)<=Z0 a
 |[],_=>by simp[Z0]
 |x::r,0=>by simp[Z0]
 |x::r,n+1=>by have:=A6 r n;simp only[SQ,Z0];lia
def TT(b:Bool):String:=if b then"list"else"tuple"
theorem PZ(b:Bool):Sn K (.type (TT b)) [.type "list",.type "tuple"]=Ga Gi:=by
 cases b
 .exact WH
 .exact PJ
theorem xM(b:Bool):T1 K (.type (TT b)) (.type "list")=Ga b:=by
 cases b
 .exact vQ
 .exact jG
theorem wz(b:Bool):T1 K (.type (TT b)) (.type "tuple")=Ga (!b):=by
 cases b
 .exact Im
 .exact WJ
def iQ(b:Bool)(ds:List DO):DO:=if b then .list ds else .tuple ds
theorem uR{b:Bool}(h:Dt H v (iQ b ds)):∃p a,v=.ref p/\(Uw K H p a\/hB K H p a)/\hH H a ds:=by
 cases b with
 |true=>
  have h:Dt H v (.list ds):=h;cases h with
  |lst e t=>exact{30,.inl (Qk e),t}
 |false=>
  have h:Dt H v (.tuple ds):=h;cases h with
  |tup e t=>exact{30,.inr (Qj e),t}
theorem yi{b:Bool}(h:Dt H v (iQ b ds)):Om K H v (.type (TT b)):=by
 cases b with
 |true=>
  have h:Dt H v (.list ds):=h;cases h with
  |lst e t=>exact .lst e
 |false=>
  have h:Dt H v (.tuple ds):=h;cases h with
  |tup e t=>exact .tup e
theorem PL(b:Bool)(is:List DO):W8 (iQ b is)=Z0 is+1:=by cases b<;>simp[iQ,W8]
theorem QT(b:Bool)(is:List DO):(iQ b is).canLay0=Gw is:=by cases b<;>simp[iQ,Tv]
theorem Qss(b:Bool)(is:List DO):(iQ b is).depth=TV is+1:=by cases b<;>simp[iQ,Dw]
theorem YA(d:DO)(h:d.canLay0=Gi):(∃b is,d=iQ b is)\/d=.none\/(∃b,d=.bool b)\/(∃i,d=.int i)\/∃x,d=.str x:=by
 cases d with
 |none=>exact .inr (.inl Xb)
 |bool b=>exact .inr (.inr (.inl ⟨b,Xb⟩))
 |int i=>exact .inr (.inr (.inr (.inl ⟨i,Xb⟩)))
 |str x=>exact .inr (.inr (.inr (.inr ⟨x,Xb⟩)))
 |list is=>exact .inl ⟨Gi,is,Xb⟩
 |tuple is=>exact .inl ⟨Gx,is,Xb⟩
 |dict a=>simp[Tv]at h
theorem mi{a:Hp}(g:Q9 H a)(h:Uw K H p xs\/hB K H p xs):Uw K a p xs\/hB K a p xs:=by
 rcases h with h|h
 .exact .inl (g.seq h)
 .refine .inr ?_;rcases h with(h|⟨o,h⟩)|h
  .exact .inl (.inl (g _ _ h))
  .exact .inl (.inr {o,g _ _ h})
  .exact .inr h
theorem vC{i:Int}{Q:VK}(h:Uw K H p xs\/hB K H p xs)(e:Oh xs i=Ga v)(q:Q v H):rIx K (.ref p) (.int i) H Q:=by
 rcases h with h|h
 .exact .inl ⟨p,xs,i,v,Xb,Xb,h,e,q⟩
 .exact .inr (.inl ⟨p,xs,i,v,Xb,Xb,h,e,q⟩)
section
variable{P:Gn}{w:Tg}{K:Gf}{mg:TQ->Option Gj}{base:Heap}
theorem lG:Q8 ["_law_found","_law_due","_law_todo","_law_one","_law_other","_law_k"] ["_law_found","_law_due"] (Qo sSo):=by eq_refl
theorem QA(F:Wg K "_law_so" "_law_so" sSo f fd)(b:hO mg):Q3 P w K mg base Ya 1 f fd ["_law_found","_law_due"] qF:=by
 refine F.ok lG (λvs m av au Y=>?_) (λaT aS aY s m vs av au hr Y=>?_)
 .obtain⟨x,y,d,rfl,_⟩:=Y;rfl
 have(x,y,d,rfl,hx,hy,aC,aE,az,q):=Y;have hu:=hr.units;show∃t,W0 ?my _ t/\_;let aI:Subtype (W0 ?my (sub [1,0,1,0,3,0] (Zs sSo))):={_,Qg (Zl (X6 Te Tx TC Z4 {2} (Qa (Ze (Qa (Qn wa {3} {5}) (Qa (Qn wa {4} {5}) Qd))) Qd)))}
 let aK:Subtype (W0 ?my (sub [1,0,1,0,2] (Zs sSo))):={_,Qc (Zb (Qp Wh (Qm Zo rfl b.len GX (Qa {3} Qd)) (Qm Zo rfl b.len GX (Qa {4} Qd)) (Qu _)) (Qg (Qt Z9)) Qw) (Qg (Yb Tj rfl (V4 rfl b.range (Qa (Qm Zo rfl b.len GX (Qa {4} Qd)) Qd)) (Yz (i:=5) lG.nd rfl (DX Xb)) aI.2))}
 let aL:Subtype (W0 ?my (sub [1,0,1,0,1] (Zs sSo))):={_,Qc (Zb (Qp Wh (Qm Zx rfl b.isinstance GY (Qa {3} (Qa (Z8 (v:=.ty "tuple") rfl b.tuple Di Xb) Qd))) (Qm Zx rfl b.isinstance GY (Qa {4} (Qa (Z8 (v:=.ty "tuple") rfl b.tuple Di Xb) Qd))) (Qu _)) (Qg (Qt Z9)) Qw) aK.2}
 let aM:Subtype (W0 ?my (sub [1,0,1,0] (Zs sSo))):={_,Qc (Zb (Qp Wh (Qm Zx rfl b.isinstance GY (Qa {3} (Qa (Z8 (v:=.ty "list") rfl b.list T9 Xb) Qd))) (Qm Zx rfl b.isinstance GY (Qa {4} (Qa (Z8 (v:=.ty "list") rfl b.list T9 Xb) Qd))) (Qu _)) (Qg (Qt Z9)) Qw) aL.2}
 let aN:Subtype (W0 ?my (sub [1,0,1,1,0,0] (Zs sSo))):={_,Qg (Zb (PW.pt (Yv (Yk (Z1 (Qm Zx rfl b.isinstance GY (Qa {3} (Qa (Z8 (v:=.ty "str") rfl b.str EO Xb) Qd))))) (Xe (Qp Wh {3} {4} (Qu _))))) (Qg (Qt Z9)) Qw)}
 let aO:Subtype (W0 ?my (sub [1,0,1,1,0,1,0,0] (Zs sSo))):={_,Qg (Zb (PW.pt (Yv (Yk (Z1 (Qm Zx rfl b.isinstance GY (Qa {3} (Qa (Z8 (v:=.ty "bool") rfl b.bool Lg Xb) Qd))))) (Xe (Qp Wh {3} {4} (Qu _))))) (Qg (Qt Z9)) Qw)}
 let aP:Subtype (W0 ?my (sub [1,0,1,1,0,1,0,1,0,1] (Zs sSo))):={_,Qg (Zb (PW.pt (Yv (Yk (Z1 (Qm Zx rfl b.isinstance GY (Qa {3} (Qa (Z8 (v:=.ty "int") rfl b.int Ff Xb) Qd))))) (Yv (Z1 (Qm Zx rfl b.isinstance GY (Qa {3} (Qa (Z8 (v:=.ty "bool") rfl b.bool Lg Xb) Qd)))) (Xe (Qp Wh {3} {4} (Qu _)))))) (Qg (Qt Z9)) Qw)}
 let aQ:Subtype (W0 ?my (sub [1,0,1,1,0,1] (Zs sSo))):={_,Qg (Zb (Z1 (Qm Zx rfl b.isinstance GY (Qa {4} (Qa (Z8 (v:=.ty "bool") rfl b.bool Lg Xb) Qd)))) aO.2 (Qg (Zb (Oy (VH {4})) (Qg (Zb (Oy (wj {3})) (Qg (Qt Z9)) Qw)) aP.2)))}
 let aR:Subtype (W0 ?my (sub [1,0,1] (Zs sSo))):={_,Qg (Zb (Z1 (Qm PU rfl b.isinstance GY (Qa {4} (Qa (Ze (Qa (Z8 (v:=.ty "list") rfl b.list T9 Xb) (Qa (Z8 (v:=.ty "tuple") rfl b.tuple Di Xb) Qd))) Qd)))) aM.2 (Qg (Zb (Z1 (Qm Zx rfl b.isinstance GY (Qa {4} (Qa (Z8 (v:=.ty "str") rfl b.str EO Xb) Qd)))) aN.2 aQ.2)))}
 let aJ:Subtype (W0 ?my (sub [1,0] (Zs sSo))):={_,Qc (Rk (O0 Te Et Eu O3 {2}) (Uc rfl (Zr (Yz (i:=3) lG.nd rfl (DX Xb)) (Zr (Yz (i:=4) lG.nd rfl (DX Xb)) Wp)))) aR.2}
 exists _,Qc (V5 (i:=2) lG.nd rfl (DX Xb) (Zt (Qa (Ze (Qa {0} (Qa {1} Qd))) Qd))) (Qc (Ww Tj (Qp (jO hu) {2} (Zt Qd) (Qu _)) aJ.2) (Qg (Qt Z9)));refine{00,Yy,λj he=>?_};have s1:=Qf he (.tup [x,y]);refine{Wz,λg hl=>?_};have s2:=Qf hl (.lst [.ref j]);exists λaq Q B=>iK λ(A:List V)(e:List DO)(N O o:Option V)=>ir (Q=[Ga x,Ga y,Ga (.ref g),N,O,o]) (Q9 m B) (B g=Ga (.lst A)) (iG m B A e) (aq=Z0 e) (Gw e=Gi) (∀d∈e,d.depth<=60) (Z0 e<=1000000),
  {_,[.ref j],[d],Gq,Gq,Gq,1,s1.trans s2,Qb,.cons {j,x,y,1,s2 _ _ Qb,hx,hy} .nil,1,by simp[Gw,aC],?_,by simp[Z0];exact aE}
 .intro n l;rw[Tb]at l;subst l;exact az
 have am:m g=Gq:=s1.free hl;rintro aq Q B ⟨A,e,N,O,o,rfl,ae,U,g2,rfl,g3,g4,g5⟩;have aX:A.length=e.length:=GQ g2;refine{0,Tu _,λz hz=>?_};have s4:=Qf hz (.lst []);have aU:g≠z:=Qe U hz;exists .list (e.map prD),.list [],.lst (s4 _ _ U) ((g2.Qv (Q7.of s4)).dts (ae.trans s4)),.lst Qb .nil,by simp only[Tv];exact uo e g3,by simp[Tv,Gw],?_,_,Xb
 .simp only[Dw,TV];ext
 have ev:TW (.list (e.map prD)) (.list [])=e.isEmpty:=by simp only[TW];rw[U2];cases e<;>rfl
 rw[ev];rcases Su e with rfl|⟨h,p,ad⟩
 .refine Q4 ?_;exact q _ (ae.trans s4)
 .have ad:e=h++[p]:=by simpa using ad
  subst ad;have aF:(h++[p]).isEmpty=Gx:=by cases h<;>rfl
  rw[aF];refine Yp ?_;have(l,xl,ex,k1,(a,u,v,ea,e2,e3,e4)):=Qfz g2;subst ex ea;have ag:Z0 (h++[p])=Z0 h+W8 p:=by rw[Wv];simp[Z0]
  rw[ag]at g5;have aV:=yV p;rw[Ow]at g3;simp only[Gw,T5,SM]at g3;have(ak,af):=g3;have al:∀d∈h,d.depth<=60:=λd E=>g4 d (Gu _ E);have ay:p.depth<=60:=g4 p (by simp);have aB:(l++[V.ref a])[(l++[V.ref a]).length - 1]?=Ga (.ref a):=by simp
  have t5:Q7 B (zj (zj B z (.lst [])) g (.lst l)):=(Q7.of s4).trans (Z2 λA j=>by rw[s4 _ _ U]at j;cases j);have ab:Q9 m (zj (zj B z (.lst [])) g (.lst l)):=λc aG j=>by rw[Qh (Qe j am)];exact s4 _ _ (ae _ _ j)
  have l5:(zj (zj B z (.lst [])) g (.lst l)) g=Ga (.lst l):=Qb;have k1:iG m B l h:=k1;have p5:iG m (zj (zj B z (.lst [])) g (.lst l)) l h:=k1.Qv t5;exists λR C=>∃Z,Z<Z0 (h++[p])/\iK λ(A:List V)(e:List DO)(N O o:Option V)=>ir (R=[Ga x,Ga y,Ga (.ref g),N,O,o]) (Q9 m C) (C g=Ga (.lst A)) (iG m C A e) (Z=Z0 e) (Gw e=Gi) (∀d∈e,d.depth<=60) (Z0 e<=1000000),λR C Y=>Y;exists 0,.inl {13,Qk (s4 _ _ U)},g,301,s4 _ _ U,aB,a,0,Qj (by rw[SI];exact t5 _ _ e2),1,u,0,v,01;rw[SI];generalize zj (zj B z (.lst [])) g (.lst l)=H5 at*;have aa:∀{R:St}{C:Hp}{o:Option V},R=[Ga x,Ga y,Ga (.ref g),Ga u,Ga v,o]->Q9 H5 C->∃Z,Z<Z0 (h++[p])/\iK λ(A:List V)(e:List DO)(N O o:Option V)=>ir (R=[Ga x,Ga y,Ga (.ref g),N,O,o]) (Q9 m C) (C g=Ga (.lst A)) (iG m C A e) (Z=Z0 e) (Gw e=Gi) (∀d∈e,d.depth<=60) (Z0 e<=1000000):=λ{R C o}j gs=>{Z0 h,by rw[ag];ext,l,h,32,j,ab.trans gs,gs _ _ l5,p5.Qv (Q7.of gs),1,ak,al,by ext}
  have T:Dt H5 v p:=e4.same ab;have S:Dt H5 u p:=e3.same ab;refine{0,Yy,λc hc=>?_};have H:=Qf hc (.tup [.ty "list",.ty "tuple"]);rcases YA p af with⟨n,r,rfl⟩|rfl|⟨bb,rfl⟩|⟨i,rfl⟩|⟨xx,rfl⟩
  .obtain⟨pu,J,rfl,ap,ai⟩:=uR (K:=K) e3;have(pw,D,rfl,ah,aj):=uR (K:=K) e4;have tu:=yi (K:=K) (S.same H);have tv:=yi (K:=K) (T.same H);have lu:=ai.length;have lw:=aj.length;have ar:W8 (iQ n r)=Z0 r+1:=PL n r;have aW:=Jq r;have aw:Gw r=Gi:=by rw[QT]at af;exact af
   have ax:∀d∈r,d.depth<=60:=λd E=>by have L:=AJ E;rw[Qss]at ay;ext
   refine{_,c,2,TT n,Gi,1,Qb,tv,PZ n,Gi,1,Yp ?_};refine{032,n,1,tu,xM n,032,n,1,tv,xM n,10,kq rfl ?_};refine{032,!n,1,tu,wz n,032,!n,1,tv,wz n,10,kq rfl ?_};have ac:=ab.trans H;refine{0,pu,J,1,mi ac ap,0,pw,D,1,mi ac ah,10,kq (by rw[lu,lw]) ?_};have ao:((D.length:Int)).toNat=D.length:=by simp
   let aH:Nat->St->Hp->Prop:=λk Q I=>kg λ(o:Option V)(G:List V)=>jQ (Q=[Ga x,Ga y,Ga (.ref g),Ga (.ref pu),Ga (.ref pw),o]) (Q9 m I) (I g=Ga (.lst (l++G))) (iG m I (l++G) (h++r.take k))
   refine⟨_,Xb,pw,D,Xb,mi ac ah,_,Xb,by ext,by ext,Ua (lo:=0) (n:=((D.length:Int)).toNat) aH
    {_,[],1,ac,by rw[DV];exact H _ _ l5,by rw[DV,Ny,DV];exact p5.Qv (Q7.of H)} ?_ ?_⟩
   .rintro k Q I hk ⟨o,G,rfl,W,M,X⟩;rw[ao]at hk;have aA:k<J.length:=by ext
    have eu:J[k]?=Ga J[k]:=Ge aA;have ew:D[k]?=Ga D[k]:=Ge hk;have(d1,f1,f2):=ai.get eu;have(d2,f3,f4):=aj.get ew;rw[f1]at f3;cases f3;have lg:(l++G).length=(h++r.take k).length:=GQ X;have ln:=Jq (h++r.take k);rw[Wv]at ln;have lt:=A6 r k;refine{0,.inl {13,Qk M},00,vC (mi W ap) (by rw[Si];exact Zk eu) ?_};refine{00,vC (mi W ah) (by rw[Si];exact Zk ew) ?_};refine{Yy,λL an=>?_};have s8:=Qf an (.tup [J[k],D[k]]);have aD:g≠L:=Qe M an;exists g,l++G,.ref L,11,s8 _ _ M,(by rw[TJ];ext);have t8:Q7 I (zj (zj I L (.tup [J[k],D[k]])) g (.lst (l++G++[.ref L]))):=(Q7.of s8).trans (Z2 λA j=>by rw[s8 _ _ M]at j;cases j);exists _,G++[.ref L],1,λn aG j=>?_,(by rw[Qb,Dk])
    .rw[Qh (Qe j am)];exact s8 _ _ (W _ _ j)
    .rw[TF,f1,<-Dk,<-Dk];refine E2 (X.Qv t8) {L,J[k],D[k],1,?_,f2,f4};rw[Qh (Ta aD)];exact Qb
   .rintro Q I ⟨o,G,rfl,W,M,X⟩;rw[ao,lw,Tz]at X;exists Z0 (h++r),?_,l++G,h++r,20,W,M,X,1,?_,?_
    .rw[ag,Wv,ar];ext
    .rw[Ow,ak,aw];rfl
    .intro d E;rcases Gh.mp E with E|E
     .exact al d E
     .exact ax d E
    .rw[Wv];rw[ar]at g5;ext
  .cases T;cases S;refine{_,c,32,Gx,1,Qb,.non,nz Q36 QF,Gx,1,Q4 ?_};refine{032,Gx,1,.non,Q3m,Gx,1,Q4 ?_};refine{032,Gx,1,.non,QK,Gx,1,Q4 ?_};refine{00,Yp ?_};refine{00,Q4 ?_};exact aa rfl H
  .cases T;cases S;refine{_,c,32,Gx,1,Qb,.bl _,nz QY Q3h,Gx,1,Q4 ?_};refine{032,Gx,1,.bl _,Q4b,Gx,1,Q4 ?_};refine{032,Gi,1,.bl _,tX,Gi,1,Yp ?_};refine{032,Gi,1,.bl _,tX,Gi,1,Q4 ?_};refine{0010,kq rfl ?_};exact aa rfl H
  .cases T;cases S;refine{_,c,32,Gx,1,Qb,.int _,nz UK Q26,Gx,1,Q4 ?_};refine{032,Gx,1,.int _,Q2l,Gx,1,Q4 ?_};refine{032,Gx,1,.int _,Ik,Gx,1,Q4 ?_};refine{00,Q4 ?_};refine{032,Gi,1,.int _,Rl,Gi,1,Q4 ?_};refine{032,Gx,1,.int _,Ik,Gx,1,Q4 ?_};refine{0010,kq rfl ?_};exact aa rfl H
  .cases T;cases S;refine{_,c,32,Gx,1,Qb,.str _,nz ZI Q3l,Gx,1,Q4 ?_};refine{032,Gi,1,.str _,R5,Gi,1,Yp ?_};refine{032,Gi,1,.str _,R5,Gi,1,Q4 ?_};refine{0010,kq rfl ?_};exact aa rfl H
end
theorem I0{a:List V}(b:H p=Gq)(h:Zy H a ps):Z7 (zj H p (.tup (.str w::a))) (.ref p) (.mk w ps):=.mk Qb (h.same (Qf b _))
structure jW(t u:Th)(r:Th):Prop where
 ok:t.ok=Gi->u.ok=Gi->r.ok=Gi
 dep:r.depth<=max t.depth u.depth+1
 siz:r.size<=t.size+u.size+2
 sh:t.short=Gi->u.short=Gi->r.short=Gi
 pts:∀p∈r.parts,p=t\/p=u\/p=.mk "tab" []
theorem zI(hw:Oo w=Gi):jW t u (.mk w [t]):={λa _=>by simp[Th.ok,okL,Oo.str hw,a],by simp only[Th.depth,Vi];lia,by simp only[Th.size,Q6];lia,λa _=>by simp[Th.short,ko,Oo.len hw,a],λp b=>by simp only[Th.parts,Tf,EU,F0]at b;exact .inl b}
theorem pK(hw:Oo w=Gi):jW t u (.mk w [t,u]):={λa b=>by simp[Th.ok,okL,Oo.str hw,a,b],by simp only[Th.depth,Vi];lia,by simp only[Th.size,Q6];lia,λa b=>by simp[Th.short,ko,Oo.len hw,a,b],λp c=>by simp only[Th.parts,Tf,EU,F0]at c;exact c.elim .inl (λh=>.inr (.inl h))}
theorem ZW(hw:Oo w=Gi)(d:Oo "tab"=Gi):jW t u (.mk w [t,u,.mk "tab" []]):={λa b=>by simp[Th.ok,okL,Oo.str hw,Oo.str d,a,b],by have:=qr t;simp only[Th.depth,Vi];lia,by simp only[Th.size,Q6];lia,λa b=>by simp[Th.short,ko,Oo.len hw,Oo.len d,a,b],λp c=>by simp only[Th.parts,Tf,EU,F0]at c;exact c}
theorem zf(hw:Oo w=Gi):jW t u (.mk w []):={λa b=>by simp[Th.ok,okL,Oo.str hw],by simp only[Th.depth,Vi];ext,by simp only[Th.size,Q6];ext,λa b=>by simp[Th.short,ko,Oo.len hw],λp c=>by simp[Th.parts]at c}
inductive pO(H:Hp)(l:Gd)(t u:Th):Prop
 |mk (vs:List V) (h0:H l=Ga (.lst vs)) (h1:vs.length=4) (h2:∀v∈vs,∃r,Z7 H v r/\jW t u r):pO H l t u
theorem zG{c:List Th}{m a b:Nat}{r:Th}(D:Drawn c m)(d:c[a]?=Ga t)(f:c[b]?=Ga u)(e:b<5)(R:jW t u r):Drawn (c++[r]) (m+1):=by
 have q:a<c.length:=(Gg.mp d).1;have v:b<c.length:=(Gg.mp f).1;have o:=D.len;have cases:∀(j:Nat)s,(c++[r])[j]?=Ga s->c[j]?=Ga s\/(j=c.length/\s=r):=λj s e=>by
  rcases Dh j c.length with h|h
  .left;rw[Tt h]at e;exact e
  .right;rw[TR h]at e;have g:j - c.length=0:=by have:=(Gg.mp e).1;simp at this;lia
   rw[g]at e;simp at e;exact{by lia,e.symm}
 have k:=D.dep a t d;have l:=D.dep b u f;have n:=R.dep;have w:=D.any a t d;have x:=D.tri b u f (by lia);have y:=R.siz;refine⟨by rw[Gk,Gy];lia,λs hs=>?_,λj s e=>?_,λj s e g=>?_,λj s e g=>?_,λj s e g=>?_,λj s e=>?_,λs hs=>by
   rcases Gh.mp hs with h|h
   .exact D.sh s h
   .rw[Tb]at h;subst h;exact R.sh (D.sh t (Gc d)) (D.sh u (Gc f)),by rw[Tt (by lia)];exact D.tab,λs hs p i=>?_⟩
 .rcases Gh.mp hs with h|h
  .exact D.ok s h
  .rw[Tb]at h;subst h;exact R.ok (D.ok t (Gc d)) (D.ok u (Gc f))
 .rcases cases j s e with h|⟨rfl,rfl⟩
  .exact D.dep j s h
  .lia
 .rcases cases j s e with h|⟨rfl,rfl⟩
  .exact D.one j s h g
  .lia
 .rcases cases j s e with h|⟨rfl,rfl⟩
  .exact D.two j s h g
  .have:=D.one a t d (by lia);have:=D.one b u f (by lia);lia
 .rcases cases j s e with h|⟨rfl,rfl⟩
  .exact D.tri j s h g
  .have:=D.two a t d (by lia);have:=D.two b u f (by lia);lia
 .rcases cases j s e with h|⟨rfl,rfl⟩
  .exact D.any j s h
  .lia
 .rcases Gh.mp hs with h|h
  .exact Gu _ (D.cl s h p i)
  .rw[Tb]at h;subst h;refine Gu _ ?_;rcases R.pts p i with h|h|h
   .rw[h];exact Gc d
   .rw[h];exact Gc f
   .rw[h];exact Gc D.tab
theorem U6{b:Type}(a:List b)(i:Int)(c:0<=i)(c:i<a.length):∃v,Oh a i=Ga v/\a[i.toNat]?=Ga v:=by
 have hi:i.toNat<a.length:=by lia
 have e:i=((i.toNat:Nat):Int):=by lia
 have q:=Zk (Ge hi);rw[<-e]at q;exact{_,q,Ge hi}
section
variable{P:Gn}{w:Tg}{K:Gf}{mg:TQ->Option Gj}{base:Heap}
theorem Kv:Q8 ["_law_cells","_law_things","_law_cell","_law_rest","_law_one","_law_other","_law_made","_law_word","_law_three"] ["_law_cells"] (Qo lq):=by eq_refl
theorem Quz{l:Gd}{gd:Do}(F:Wg K "_law_drawn_things" "_law_drawn_things" lq f fd)(ad:hO mg)(aA:Q3 P w K mg base Ya 1 l gd ["_law_cell"] xU)(kG:KI K l)(bG:zk K gd ["_law_cell"] [])(mG:MG mg "_law_any_word" l):
  Q3 P w K mg base Ya 2 f fd ["_law_cells"] (A9 K):=by
 refine F.ok Kv (λh H g e ae=>?_) (λv k C s H h g e hr ae=>?_)
 .obtain⟨a,ns,rfl,_⟩:=ae;rfl
 have(a,ns,rfl,hS,aO,q):=ae;have m:=Kv.nd;show∃t,W0 ?my _ t/\_;let w3:Xk ?my lq 2:={_,Qg (Qt {1})}
 let w2:Xk ?my lq 1:=⟨_,Qc (Yb Tj rfl (Yh {0}) (Z5 2 m)
   (Qc (Qz 3 m (Zf Wr {2} Qi))
   (Qc (Qz 4 m (Qn Zd {1} (Zf Wn {3} (Qm Zo rfl ad.len GX (Qa {1} Qd)))))
   (Qc (Qz 5 m (Qn Zd {1} (Zf Wn (Zf Wr {3} Qi) (Qm (WQ Xb) rfl ad.min Hq (Qa Qi (Qa (Qm Zo rfl ad.len GX (Qa {1} Qd)) Qd))))))
   (Qc (Qz 6 m (Zt (Qa (Ze (Qa Zh (Qa {4} Qd))) (Qa (Ze (Qa Zh (Qa {4} (Qa {5} Qd)))) (Qa (Ze (Qa Zh (Qa {4} (Qa {5} Qd)))) (Qa (Ze (Qa Zh Qd)) Qd))))))
   (Qc (Zb (Qp Xu (Zf Wn {2} Qi) Qi (Qu _))
    (Qc (Qz 7 m (Qn Zd (Zt (Qa (Za aA hr rfl mG kG bG .nil Q5 (Qa (Zf Wr {2} Qi) Qd)) (Qa Zh Qd))) (Zf Wn (Zf Wr {2} Qi) Qi)))
    (Qc (Qz 8 m (Ze (Qa {7} (Qa {4} (Qa {5} (Qa (Ze (Qa Zh Qd)) Qd))))))
    (Qg (Qz 6 m (Zt (Qa (Ze (Qa {7} (Qa {4} Qd))) (Qa (Ze (Qa {7} (Qa {4} (Qa {5} Qd)))) (Qa {8} (Qa (Ze (Qa {7} Qd)) Qd)))))))))
    Qw)
   (Qg (Zl (X6 Te Tx TC Z4 {1} (Qa (Qn Zd {6} (Zf Wn {2} Qi)) Qd)))))))))) w3.2⟩
 exists _,Qc (Qz 1 m (Zt (Qa (Ze (Qa Zh Qd)) (Qa (Ze (Qa Zh Qd)) (Qa (Ze (Qa Zh Qd)) Qd))))) w2.2;have aL:Oo ("sab":TQ)=Gi:=by decide+kernel
 have az:Oo ("tab":TQ)=Gi:=by decide+kernel
 have aN:Oo ("sob":TQ)=Gi:=by decide+kernel
 have aM:Oo ("sat":TQ)=Gi:=by decide+kernel
 have ak:Oo ("fig":TQ)=Gi:=by decide+kernel
 have aC:Oo ("fog":TQ)=Gi:=by decide+kernel
 have aI:Oo ("hog":TQ)=Gi:=by decide+kernel
 refine{Wz,λp1 h1=>{Wz,λp2 h2=>{Wz,λp3 h3=>{Vm,λp hp=>?_}}}};have s1:=Qf h1 (.tup [.str "sab"]);have s2:=Qf h2 (.tup [.str "tab"]);have X:=Qf h3 (.tup [.str "sob"]);have s4:=Qf hp (.lst [.ref p1,.ref p2,.ref p3]);have ag:H p=Gq:=((s1.trans s2).trans X).free hp;have i1:Z7 _ (.ref p1) (.mk "sab" []):=(I0 (w:="sab") h1 .nil).same ((s2.trans X).trans s4);have i2:Z7 _ (.ref p2) (.mk "tab" []):=(I0 (w:="tab") h2 .nil).same (X.trans s4);have i3:Z7 _ (.ref p3) (.mk "sob" []):=(I0 (w:="sob") h3 .nil).same s4;let aK:Nat->St->Hp->Prop:=λi ac n=>qK λ(b:List V)(A:List Th)(x2 x3 x4 x5 x6 x7 x8:Option V)=>jn (ac=[Ga (.ref a),Ga (.ref p),x2,x3,x4,x5,x6,x7,x8]) (Q9 H n) (n p=Ga (.lst b)) (Zy n b A) (Drawn A i)
 refine⟨_,Xb,a,Xb,{_,(((s1.trans s2).trans X).trans s4).seq hS},Yw (K:=K) (a:=a) (xs:=ns.map V.int) aK
  {22220,((s1.trans s2).trans X).trans s4,Qb,.cons i1 (.cons i2 (.cons i3 .nil)),?_} (by rintro i ac n _ ⟨_,_,_,_,_,_,_,_,_,_,l,_⟩;exact l.seq hS) ?_ ?_⟩
 .refine{1,λt ht=>?_,λj t d=>?_,λj t d _=>?_,λj t d _=>?_,λj t d _=>?_,λj t d=>?_,λt ht=>by simp at ht;rcases ht with rfl|rfl|rfl<;>decide+kernel,rfl,λt ht p hp=>?_}
  .simp at ht;rcases ht with rfl|rfl|rfl
   .simp[Th.ok,okL,Oo.str aL]
   .simp[Th.ok,okL,Oo.str az]
   .simp[Th.ok,okL,Oo.str aN]
  rotate_right
  .simp at ht;rcases ht with rfl|rfl|rfl<;>simp[Th.parts]at hp
  all_goals
   have N:=Gc d;simp at N;rcases N with rfl|rfl|rfl<;>simp[Th.depth,Vi,Th.size,Q6]
 .rintro i y ac n hi ⟨b,A,x2,x3,x4,x5,x6,x7,x8,rfl,l,r,u,B⟩;obtain⟨c,rfl⟩:∃z,y=V.int z:=by
   rw[Ts]at hi;cases d:ns[i]? with
   |none=>rw[d]at hi;cases hi
   |some z=>rw[d]at hi;exact{z,(T3 hi).symm}
  have aF:i<(ns.map V.int).length:=(Gg.mp hi).1;rw[Gv]at aF;have lu:=u.length;have ld:=B.len;have hL:(b.length:Int)=3+i:=by ext
  exists 0301,{by decide,by decide};have(g,a1,b1):=U6 b (c / 4 % (b.length:Int)) (DI _ (by ext)) (Dx _ (by ext));exists 000,p,b,1,.inl (Qk r),301,(by show(0:Int)<b.length;ext),p,b,_,g,11,Qk r,a1;have E:(if(b.length:Int)<5 then(b.length:Int)else 5)<=b.length/\0<(if(b.length:Int)<5 then(b.length:Int)else 5)/\(if(b.length:Int)<5 then(b.length:Int)else 5)<=5:=by split<;>ext
  have(k,a2,b2):=U6 b (c / 4 / 5 % (if(b.length:Int)<5 then(b.length:Int)else 5)) (DI _ (by ext)) (Int.lt_of_lt_of_le (Dx _ E.2.1) E.1);have ay:(c / 4 / 5 % (if(b.length:Int)<5 then(b.length:Int)else 5)).toNat<5:=by have h1:=Dx (c / 4 / 5) E.2.1;have h2:=DI (c / 4 / 5) (Int.ne_of_gt E.2.1);have h3:=E.2.2;ext
  exists 00301,{by decide,by decide},0,p,b,1,.inl (Qk r),(5),0301,E.2.1,p,b,_,k,11,Qk r,a2;have(t1,c1,G):=u.get b1;have(t2,c2,k2):=u.get b2;refine{0,Yy,λq1 am=>{00,Vm,λq2 an=>{00,Vm,λq3 ao=>{Wz,λq4 ap=>{oE,λai hl=>?_}}}}};have C:=Qf am (.tup [.str "fig",g]);have J:=Qf an (.tup [.str "fog",g,k]);have e3:=Qf ao (.tup [.str "fig",g,k]);have L:=Qf ap (.tup [.str "sat"]);have D:=Qf hl (.lst [.ref q1,.ref q2,.ref q3,.ref q4]);have aa:=(((C.trans J).trans e3).trans L).trans D;have m1:=(I0 (w:="fig") am (.one G)).same (((J.trans e3).trans L).trans D);have m2:=(I0 (w:="fog") an (.cons (G.same C) (.one (k2.same C)))).same ((e3.trans L).trans D);have m3:=(I0 (w:="fig") ao (.cons (G.same (C.trans J)) (.one (k2.same (C.trans J))))).same (L.trans D);have m4:=(I0 (w:="sat") ap .nil).same D;generalize al:zj (zj (zj (zj (zj n q1 (.tup [.str "fig",g])) q2 (.tup [.str "fog",g,k])) q3 (.tup [.str "fig",g,k])) q4 (.tup [.str "sat"])) ai (.lst [.ref q1,.ref q2,.ref q3,.ref q4])=Y at*;have aD:pO Y ai t1 t2:=by
   refine{_,by rw[<-al];exact Qb,1,λh O=>?_};simp at O;rcases O with rfl|rfl|rfl|rfl
   .exact{_,m1,zI ak}
   .exact{_,m2,pK aC}
   .exact{_,m3,pK ak}
   .exact{_,m4,zf aM}
  clear m1 m2 m3 m4 al C J e3 L D;exists 0301,(by show(0:Int)<9;decide),10;refine Uu (λ_=>?_) (λ_=>?_)
  .refine{0301,{by decide,by decide},0,λx hx=>{Yy,λl2 aG=>?_}};have d1:=Qf aG (.lst [.str x,.str "hog"]);have(wv,a3,b3):=U6 [V.str x,V.str "hog"] (c / 36 % 2) (DI _ (by decide)) (Dx _ (by decide));have aJ:∃e,wv=.str e/\Oo e=Gi:=by
    have N:=Gc b3;simp at N;rcases N with rfl|rfl
    .exact{0,hx}
    .exact{0,aI}
   have(e,rfl,ab):=aJ;exists 0301,{by decide,by decide},301,(by show(0:Int)<2;decide),l2,201,Qk Qb,a3;refine{000,Wz,λU aw=>{oE,λW ax=>?_}};have d2:=Qf aw (.tup [.str "tab"]);have d3:=Qf ax (.tup [.str e,g,k,.ref U]);refine{00,Yy,λQ aq=>{000,Vm,λS ar=>{00,Wz,λT au=>{oE,λl3 aH=>?_}}}};have d4:=Qf aq (.tup [.str e,g]);have d5:=Qf ar (.tup [.str e,g,k]);have Z:=Qf au (.tup [.str e]);have I:=Qf aH (.lst [.ref Q,.ref S,.ref W,.ref T]);have aP:=d1;have z2:=aa.trans d1;have z3:=z2.trans d2;have z4:=z3.trans d3;have z5:=z4.trans d4;have z6:=z5.trans d5;have tb:=(I0 (w:="tab") aw .nil);have n1:=(I0 (w:=e) ax (.cons (G.same z3) (.cons (k2.same z3) (.one tb)))).same (((d4.trans d5).trans Z).trans I);have n2:=(I0 (w:=e) aq (.one (G.same z4))).same ((d5.trans Z).trans I);have n3:=(I0 (w:=e) ar (.cons (G.same z5) (.one (k2.same z5)))).same (Z.trans I);have n4:=(I0 (w:=e) au .nil).same I;have zz:=(z6.trans Z).trans I;have up:=@Qb (zj (zj (zj (zj (zj (zj Y l2 (.lst [.str x,.str "hog"])) U (.tup [.str "tab"])) W (.tup [.str e,g,k,.ref U])) Q (.tup [.str e,g])) S (.tup [.str e,g,k])) T (.tup [.str e])) l3 (.lst [.ref Q,.ref S,.ref W,.ref T]);generalize zj (zj (zj (zj (zj (zj (zj Y l2 (.lst [.str x,.str "hog"])) U (.tup [.str "tab"])) W (.tup [.str e,g,k,.ref U])) Q (.tup [.str e,g])) S (.tup [.str e,g,k])) T (.tup [.str e])) l3 (.lst [.ref Q,.ref S,.ref W,.ref T])=H4 at*;have aE:pO H4 l3 t1 t2:=by
    refine{_,up,1,λh O=>?_};simp at O;rcases O with rfl|rfl|rfl|rfl
    .exact{_,n2,zI ab}
    .exact{_,n3,pK ab}
    .exact{_,n1,ZW ab az}
    .exact{_,n4,zf ab}
   have(M,hf,lf,af):=aE;have(h,av,bv):=U6 M (c % 4) (DI _ (by decide)) (by rw[lf];exact Dx _ (by decide));have(aj,ah,R):=af h (Gc bv);have v:=zz _ _ r;exists 0,.inl {13,Qk v},00301,(by show(0:Int)<4;decide),l3,M,_,h,11,Qk hf,av,p,b,h,11,v,(by rw[TJ];ext);have tu:=Z2 (H:=H4) (a:=p) (o:=.lst (b++[h])) λxs d=>by rw[v]at d;cases d
   refine{b++[h],A++[aj],2220,λaB o d=>?_,Qb,((u.same zz).append (.one ah)).Qv tu,zG B c1 c2 ay R};rw[Qh (Qe d ag)];exact zz _ _ (l _ _ d)
  .skip
   have(M,hf,lf,af):=aD;have(h,av,bv):=U6 M (c % 4) (DI _ (by decide)) (by rw[lf];exact Dx _ (by decide));have(aj,ah,R):=af h (Gc bv);have v:=aa _ _ r;exists 0,.inl {13,Qk v},00301,(by show(0:Int)<4;decide),ai,M,_,h,11,Qk hf,av,p,b,h,11,v,(by rw[TJ];ext);have tu:=Z2 (H:=Y) (a:=p) (o:=.lst (b++[h])) λxs d=>by rw[v]at d;cases d
   refine{b++[h],A++[aj],2220,λaB o d=>?_,Qb,((u.same aa).append (.one ah)).Qv tu,zG B c1 c2 ay R};rw[Qh (Qe d ag)];exact aa _ _ (l _ _ d)
 .rintro ac n ⟨b,A,x2,x3,x4,x5,x6,x7,x8,rfl,l,r,u,B⟩;rw[Gv]at B;exact{0,q p b A n l ag r u B}
end
theorem WK(b:Bool):(tw b==("unlike":TQ))= !b:=by cases b<;>decide+kernel
section
variable{P:Gn}{w:Tg}{K:Gf}{mg:TQ->Option Gj}{base:Heap}
theorem yW:Q8 ["_law_told","_law_deed","_law_every","_law_leaders","_law_word","_law_one","_law_other"] ["_law_told","_law_deed"] (Qo qY):=by eq_refl
theorem Qsm{E:Gd}{N:Do}(F:Wg K "_law_barred" "_law_barred" qY f fd)
  (GC:Q3 P w K mg base Ya 1 E N ["_law_told","_law_things"] (AE P w))(kC:KI K E)(bC:zk K N ["_law_told","_law_things"] [])(mC:MG mg "_law_classes" E):
  Q3 P w K mg base Ya 2 f fd ["_law_told","_law_deed"] rB:=by
 refine F.ok yW (λA J k j b=>?_) (λD B O s J A k j S b=>?_)
 .obtain⟨a,c,e,d,v1,v2,h,x,y,rfl,_⟩:=b;rfl
 have(a,c,e,d,v1,v2,h,x,y,rfl,ha,U,he,G,H,kx,ky,ae,ak,q):=b;have m:=yW.nd;have T:=S.units;exists _,(Qc (Qz 2 m (Zf Wc {0} (Zt (Qa {1} Qd))))
  (Qc (Qz 3 m (Za GC S rfl mC kC bC .nil Q5 (Qa {2} (Qa (Zt Qd) Qd))))
  (Qc (Yb Tj rfl (Yh {2}) (Uc rfl (Zr (Z5 4 m) (Zr (Z5 5 m) (Zr (Z5 6 m) Wp))))
  (Qg (Zb (PW.pt (Ii (Qp Xu {4} Zh (Qu _)) (Jk (Qp Xu (Qn (i8 T) {3} {5}) (Qn (i8 T) {3} {6}) (Qu _)))))
  (Qg (Qt Z9)) Qw)))
  (Qg (Qt Z9)))))
 have am:e.length=d.length:=GQ U;have al:d.length<=3000:=by have:=Zj (d.map (·.2.1));rw[Gv]at this;ext
 refine{00,Wz,λag hl=>?_};have Y:=Qf hl (.lst [.ref c]);refine{a,ag,e,[.ref c],11,Y _ _ ha,Qb,small (by show e.length+1<=_;ext),λn hn=>?_};have s4:=Qf hn (.lst (e++[.ref c]));refine{0,Tu _,λz hz=>?_};have Z:=Qf hz (.lst []);have sC:=(Y.trans s4).trans Z;have ad:Q6 ([]:List Th)+Q6 ((d++[(h,x,y)]).map (·.2.1))+Q6 ((d++[(h,x,y)]).map (·.2.2))<=3000:=by rw[TY,TY,Xi,Xi];simp only[Tp,Ly,Q6];ext
 have I:Um J (e++[.ref c]) (d++[(h,x,y)]):=Zq U (.cons ⟨c,v1,v2,Xb,he,G,H⟩ .nil);have ah:(e++[V.ref c]).length=(d++[(h,x,y)]).length:=GQ I;have R:=Z _ _ (@Qb _ n (.lst (e++[.ref c])));have ac:∀p∈d++[(h,x,y)],(p.2.1.ok=Gi/\p.2.1.depth<=8)/\p.2.2.ok=Gi/\p.2.2.depth<=8:=by
  intro p j;rcases Gh.mp j with j|j
  .exact ae p j
  .rw[Tb]at j;subst j;exact⟨kx,ky⟩
 generalize e++[V.ref c]=aa at*;generalize d++[(h,x,y)]=r at*;refine{n,z,aa,[],r,[],1,R,I.Qv (Q7.of sC),Qb,.nil,(λt ht=>nomatch ht),ac,ad,λd2 S2 L2 H2 Q aj L M _ af=>?_};have o:=sC.trans Q;have X:=Q _ _ R;let ai:Nat->St->Hp->Prop:=λi C v=>mJ (v=H2) (∃x4 x5 x6,C=[Ga (.ref a),Ga (.ref c),Ga (.ref n),Ga (.ref d2),x4,x5,x6]) (∀u g,(Gx,u,g)∈r.take i->¬Cg r u g)
 refine⟨_,Xb,n,Xb,{_,Qk X},Yw (K:=K) (a:=n) (xs:=aa) ai
  {1,{420},by simp} (by rintro i C v _ ⟨c,_⟩;exact Qk (by rw[c];exact X)) ?_ ?_⟩
 .rintro i p C v hi ⟨rfl,⟨x4,x5,x6,rfl⟩,l⟩;subst_vars;have((D,A,B),O,a',w1,w2,rfl,ab,t1,t2):=Qy I hi;have(c1,_,_,_,rfl,_,_,_):=t1.inv;have(c2,_,_,_,rfl,_,_,_):=t2.inv;and_intros;have W:=Gc O;have j:=af (D,A,B) W;have tk:r.take (i+1)=r.take i++[(D,A,B)]:=by rw[TF,O];rfl
  exists a',0,Qj (o _ _ ab),13030301;exists 4010;rw[Zg,WK];cases D with
  |true=>
   refine Q4 (Q4 {1,{420},λu g b=>?_});rw[tk,Gh,Tb]at b;rcases b with b|b
   .exact l u g b
   .cases b
  |false=>
   refine Yp ?_;refine{00,L.get j.1 (t1.same o) {00,L.get j.2 (t2.same o) {10,?_}}};rw[Jo];refine Uu (λk=>?_) (λk=>?_)
   .have k:L2 A=L2 B:=by simpa using k
    exact q Gi _ o {λ_=>{A,B,W,(M.iff j.1 j.2).mp k},λ_=>rfl}
   .refine{1,{420},λu g b=>?_};rw[tk,Gh,Tb]at b;rcases b with b|b
    .exact l u g b
    .cases b;intro z;have:=(M.iff j.1 j.2).mpr z;simp[this]at k
 .rintro C v ⟨rfl,_,l⟩;rw[ah,Tz]at l;exact q Gx _ o {λz=>by(cases z),(by rintro⟨u,g,G,H⟩;exact absurd H (l u g G))}
theorem Aw:Q8 ["_law_cell","_law_size"] ["_law_cell"] (Qo rL):=by eq_refl
theorem Pm(F:Wg K "_law_any" "_law_any" rL f fd):Q3 P w K mg base Ya 1 f fd ["_law_cell"] ve:=by
 refine F.ok Aw (λj H Q E h=>?_) (λd A a s H j Q E k h=>?_)
 .obtain⟨n,rfl,_⟩:=h;rfl
 have(n,rfl,q):=h;have i:=Aw.nd;exists _,(Qc (Qz 1 i (Zf Wn (Zf Wr {0} Qi) (Zf xI Qi Qi)))
  (Qg (Qt (Zf sU {1} (Qn Zd (Zt (Qa Qi (Qa (Js Ud Qi) Qd))) (Zf Wn {0} Qi))))))
 exists 0301,{by decide,by decide},301,{by decide,by decide,by decide},301,(by show(0:Int)<10^E9 59;decide);refine{00,Yy,λl b=>?_};have(v,e,g):=U6 [V.int 1,V.int (-1)] (n % 2) (DI _ (by decide)) (Dx _ (by decide));have c:=Gc g;simp only[Tf,EU,F0]at c;exists 0301,(by show(0:Int)<2;decide),l,2,v,11,Qk Qb,e;rcases c with rfl|rfl
 .exact{301,.inr {by decide,by decide},q _ _ (Qf b _)}
 .exact{301,.inr {by decide,by decide},q _ _ (Qf b _)}
theorem Au:Q8 ["_law_cells","_law_things","_law_deeds","_law_k","_law_rest","_law_one","_law_other","_law_way","_law_odd"] ["_law_cells","_law_things"] (Qo pQ):=by eq_refl
theorem Qwe{fA:Gd}{dA:Do}(F:Wg K "_law_drawn_deeds" "_law_drawn_deeds" pQ f fd)(S:hO mg)
  (GA:Q3 P w K mg base Ya 1 fA dA ["_law_cell"] ve)(kA:KI K fA)(bA:zk K dA ["_law_cell"] [])(mA:MG mg "_law_any" fA):
  Q3 P w K mg base Ya 2 f fd ["_law_cells","_law_things"] (wK K):=by
 refine F.ok Au (λn T e b j=>?_) (λr o v s T n e b hr j=>?_)
 .obtain⟨a,y,E,m,J,rfl,_⟩:=j;rfl
 have(a,y,E,m,J,rfl,X,am,hb,ab,ao,an,q):=j;have u:=Au.nd;have aq:=ab.length;exists _,(Qc (Qz 2 u (Zt Qd))
  (Qc (Yb Tj rfl (V4 rfl S.range (Qa (Qm Zc rfl S.len GX (Qa {0} Qd)) Qd)) (Z5 3 u)
  (Qc (Qz 4 u (Zf Wr (Qn Zd {0} {3}) Qi))
  (Qc (Qz 5 u (Qn Zd {1} (Zf Wn (Zf Vl {4} {3}) (Qm Zc rfl S.len GX (Qa {1} Qd)))))
  (Qc (Qz 6 u (Qn Zd {1} (Zf Wn (Zf Vl (Zf Vl (Zf Wr {4} Qi) (Zf sU Qi {3})) Qi) (Qm Zc rfl S.len GX (Qa {1} Qd)))))
  (Qc (Qz 7 u (Zf Wn (Qn Zd {0} {3}) Qi))
  (Qg (Zb (Qp Vg {7} Qi (Qu _))
  (Qg (Zl (X6 Te Tx TC Z4 {2} (Qa (Ze (Qa Zh (Qa {5} (Qa {6} Qd)))) Qd)))) (Qg (Zb (Qp Vg {7} Qi (Qu _))
  (Qg (Zl (X6 Te Tx TC Z4 {2} (Qa (Ze (Qa Zh (Qa {5} (Qa {6} Qd)))) Qd)))) (Qg (Zb (Qp Vg {7} Qi (Qu _))
  (Qg (Zl (X6 Te Tx TC Z4 {2} (Qa (Ze (Qa Zh (Qa {5} (Qa {6} Qd)))) Qd)))) (Qc (Qz 8 u (Za GA hr rfl mA kA bA .nil Q5 (Qa (Qn Zd {0} {3}) Qd)))
  (Qg (Zl (X6 Te Tx TC Z4 {2} (Qa (Ze (Qa Zh (Qa (Qn Zd (Zt (Qa (Zf Wn {4} Qi) (Qa Qi (Qa (Js Ud Qi) (Qa {8} Qd))))) (Zf Wn (Zf Wr {4} Qi) Qi)) Qd))) Qd))))))))))))))))
  (Qg (Qt {2}))))
 refine{Tu _,λp hp=>?_};have s1:=Qf hp (.lst []);let al:Nat->St->Hp->Prop:=λi ae k=>oU λ(g:List V)(l:List Dd)(L M N O Q R:Option V)=>mV (ae=[Ga (.ref a),Ga (.ref y),Ga (.ref p),L,M,N,O,Q,R]) (Q9 T k) (k p=Ga (.lst g)) (Vx k g l) (l.length=i) (∀d∈l,d.fits J)
 refine⟨_,Xb,_,_,Xb,.inl {_,s1.seq X,1},_,Xb,by lia,by rw[Gv];lia,Ua (lo:=0) (n:=(((E.map V.int).length:Int)).toNat) al
  {[],[],3220,s1,Qb,.nil,1,λd D=>nomatch D} ?_ ?_⟩
 .rintro i ae k hi ⟨g,l,L,M,N,O,Q,R,rfl,t,h,W,g3,g4⟩;have hi:i<E.length:=by rw[Gv]at hi;lia
  have ap:g.length=l.length:=GQ W;generalize hc:E[i]=c;have ec:Oh (E.map V.int) (0+(i:Int))=Ga (.int c):=by rw[Si];refine Zk ?_;rw[Ts,Ge hi,hc];rfl
  have Z:(0:Int)<m.length:=by lia
  have(n,a1,f1):=U6 m ((c / 10+(0+(i:Int))) % m.length) (DI _ (by lia)) (Dx _ Z);have(o,a2,f2):=U6 m ((c / 10 / 7+2*(0+(i:Int))+1) % m.length) (DI _ (by lia)) (Dx _ Z);have(H,e1,i1):=ab.get f1;have(I,e2,i2):=ab.get f2;have A:=Gc e1;have B:=Gc e2;have Y:=t _ _ hb;exists 00,a,201,t.seq X,ec,301,{by decide,by decide};exists 000301030,.inl {m,Qk Y,1},301,Z,y,m,_,n,11,Qk Y,a1;exists 00301,{by decide,by decide},0301,.inl {by decide,by decide},301301030,.inl {m,Qk Y,1},301,Z,y,m,_,o,11,Qk Y,a2;exists 00,a,201,t.seq X,ec,301,(by show(0:Int)<10;decide);have U:∀{r:Hp}{b:Gd}{v:List V}{d:Dd}{ai:Option V},Q9 k r->r b=Gq->d.fits J->iF (zj (zj r b (.tup v)) p (.lst (g++[.ref b]))) (.ref b) d->
    oU λ(ag:List V)(l:List Dd)(L M N O Q R:Option V)=>mV ([Ga (V.ref a),Ga (.ref y),Ga (.ref p),Ga (.int (0+(i:Int))),Ga (.int (c / 10)),Ga n,Ga o,Ga (.int (c % 10)),ai]=[Ga (.ref a),Ga (.ref y),Ga (.ref p),L,M,N,O,Q,R]) (Q9 T (zj (zj r b (.tup v)) p (.lst (g++[.ref b])))) ((zj (zj r b (.tup v)) p (.lst (g++[.ref b]))) p=Ga (.lst ag)) (Vx (zj (zj r b (.tup v)) p (.lst (g++[.ref b]))) ag l) (l.length=i+1) (∀d∈l,d.fits J):=by
   intro r b v d ai G e hf D;have s4:=Qf e (.tup v);have p4:=s4 _ _ (G _ _ h);have C:Q7 k (zj (zj r b (.tup v)) p (.lst (g++[.ref b]))):=((Q7.of G).trans (Q7.of s4)).trans (Z2 λys z=>by rw[p4]at z;cases z);refine{g++[.ref b],l++[d],3220,λq ar hq=>?_,Qb,Zq (W.Qv C) (.cons D .nil),by rw[Gk,Gy,g3],λd' aj=>?_}
   .rw[Qh (Qe hq hp)];exact s4 _ _ (G _ _ (t _ _ hq))
   .rcases Gh.mp aj with z|z
    .exact g4 d' z
    .rw[Tb]at z;rw[z];exact hf
  have ad:∀{x:TQ}{b:Gd}{d:Dd},k b=Gq->d.fits J->(d=.ask H I/\x="ask"\/∃bb,d=.tell bb H I/\x=tw bb)->iF (zj (zj k b (.tup [.str x,n,o])) p (.lst (g++[.ref b]))) (.ref b) d:=by
   intro x b d e hf D;have s4:=Qf e (.tup [.str x,n,o]);have p4:=s4 _ _ h;have aa:b≠p:=λz=>by rw[z,h]at e;cases e
   have C:Q7 T (zj (zj k b (.tup [.str x,n,o])) p (.lst (g++[.ref b]))):=((Q7.of t).trans (Q7.of s4)).trans (Z2 λys z=>by rw[p4]at z;cases z);have af:(zj (zj k b (.tup [.str x,n,o])) p (.lst (g++[.ref b]))) b=Ga (.tup [.str x,n,o]):=by rw[Qh aa];exact Qb
   rcases D with⟨rfl,rfl⟩|⟨bb,rfl,rfl⟩
   .exact{b,n,o,1,af,i1.Qv C,i2.Qv C}
   .exact{b,n,o,1,af,i1.Qv C,i2.Qv C}
  exists 403010;refine Uu (λc1=>?_) (λc1=>?_)
  .refine{0,.inl {13,Qk h},00,Vm,λb e=>?_};exists p,g,.ref b,11,Qf e _ _ _ h,(by rw[TJ];lia);exact U (d:=.tell Gi H I) (λ_ _ j=>j) e ⟨A,B⟩ (ad e ⟨A,B⟩ (.inr ⟨Gi,Xb,Xb⟩))
  exists 403010;refine Uu (λc2=>?_) (λc2=>?_)
  .refine{0,.inl {13,Qk h},00,Vm,λb e=>?_};exists p,g,.ref b,11,Qf e _ _ _ h,(by rw[TJ];lia);exact U (d:=.tell Gx H I) (λ_ _ j=>j) e ⟨A,B⟩ (ad e ⟨A,B⟩ (.inr ⟨Gx,Xb,Xb⟩))
  exists 403010;refine Uu (λc3=>?_) (λc3=>?_)
  .refine{0,.inl {13,Qk h},00,Vm,λb e=>?_};exists p,g,.ref b,11,Qf e _ _ _ h,(by rw[TJ];lia);exact U (d:=.ask H I) (λ_ _ j=>j) e ⟨A,B⟩ (ad e ⟨A,B⟩ (.inl ⟨Xb,Xb⟩))
  refine{00,a,201,t.seq X,ec,0,λah H2 s2=>?_};refine{0,.inl {13,Qk (s2 _ _ h)},0301,(by show(0:Int)<4;decide),00,oE,λak hl=>?_};have G:=Qf hl (.lst [.int (c / 10 % 4),.int 0,.int (-1),.int ah]);have(v3,a3,f3):=U6 [V.int (c / 10 % 4),.int 0,.int (-1),.int ah] (c / 10 / 4 % 4) (DI _ (by decide)) (Dx _ (by decide));have hv:=Gc f3;obtain⟨z,rfl⟩:∃z,v3=V.int z:=by simp only[Tf,EU,F0]at hv;rcases hv with j|j|j|j<;>exact⟨_,j⟩
  refine{0301,{by decide,by decide},301,(by show(0:Int)<4;decide),ak,2,.int z,11,Qk Qb,a3,Yy,λb e=>?_};have ac:=s2.trans G;have aa:b≠p:=λz=>by rw[z,ac _ _ h]at e;cases e
  exists p,g,.ref b,11,Qf e _ _ _ (ac _ _ h),(by rw[TJ];lia);exact U (d:=.back z) ac e DJ {b,1,by rw[Qh aa];exact Qb}
 .rintro ae k ⟨g,l,L,M,N,O,Q,R,rfl,t,h,W,g3,g4⟩;refine{0,q p g l k t hp h W ?_ g4};rw[g3,Gv];lia
end
inductive Ai(K:Gf)(vs:List V)(H:Hp)(Q:VK):Prop
 |mk (v:V) (t:Gj) (b1:Bool) (b2:Bool) (h0:vs=[v]) (h1:Om K H v t) (h2:T1 K t (.type "int")=Ga b1) (h3:T1 K t (.type "bool")=Ga b2) (h4:Q (.bl (b1&&!b2)) H):Ai K vs H Q
def mq(K:Gf):Sp:=λa H Q _=>Ai K a H Q
inductive xO(K:Gf)(vs:List V)(H:Hp)(Q:VK):Prop
 |mk (a:Gd) (ns:List Int) (k:Nat) (h0:vs=[.ref a,.int (k:Int)]) (h1:Uw K H a (ns.map V.int)) (h2:∀m:Int,Q (.int m) H):xO K vs H Q
def yw(K:Gf):Sp:=λa H Q _=>xO K a H Q
inductive Ag(vs:List V)(H:Hp)(Q:VK):Prop
 |mk (a:Gd) (es:List V) (dl:List Dd) (h0:vs=[.ref a]) (h1:H a=Ga (.lst es)) (h2:Vx H es dl) (h3:(∀d∈dl,d.good)) (h4:dl.length<=10) (h5:∀(r:Gd)(rs:List V)(H':Hp),Q9 H H'->H r=Gq->H' r=Ga (.lst rs)->Um H' rs (after [] dl)->Q (.ref r) H'):Ag vs H Q
def yt:Sp:=λa H Q _=>Ag a H Q
theorem vx(b:Bool):(tw b==("ask":TQ))=Gx:=by cases b<;>decide+kernel
theorem vb(b:Bool):(tw b==("back":TQ))=Gx:=by cases b<;>decide+kernel
theorem vS:(("ask":TQ)=="ask")=Gi:=by decide+kernel
theorem Qs3:(("ask":TQ)=="back")=Gx:=by decide+kernel
theorem Qv5:(("back":TQ)=="ask")=Gx:=by decide+kernel
theorem A7:(("back":TQ)=="back")=Gi:=by decide+kernel
theorem Qxl(a:List V)(i:Int)(b:0<=i):Jf a Gq (Ga i)=a.take i.toNat:=by obtain⟨k,rfl⟩:∃k:Nat,i=(k:Int):={i.toNat,by lia};unfold Jf;rw[HT.Rt,HT.Iz];simp
theorem Jy(n:Nat)(h:Um H xs tl):Um H (xs.take n) (tl.take n):=by
 unfold Um at h⊢;induction h generalizing n with
 |nil=>cases n<;>exact .nil
 |cons h r a=>
  cases n with
  |zero=>exact .nil
  |succ n=>exact .cons h (a n)
section
variable{P:Gn}{w:Tg}{K:Gf}{mg:TQ->Option Gj}{base:Heap}
theorem wC:Q8 ["_law_found"] ["_law_found"] (Qo qE):=by eq_refl
theorem XR(F:Wg K "_law_whole" "_law_whole" qE f fd)(B:hO mg):Q3 P w K mg base Ya 1 f fd ["_law_found"] (mq K):=by
 refine F.ok wC (λi H Q E h=>?_) (λd A c s H i Q E j h=>?_)
 .obtain⟨v,t,a,b,rfl,_⟩:=h;rfl
 have(v,t,a,b,rfl,ht,e,g,q):=h;have k:=wC.nd;exists _,(Qg (Qt (lR (Qm Zx rfl B.isinstance GY (Qa {0} (Qa (Z8 (v:=.ty "int") rfl B.int Ff Xb) Qd))) (kM (PH (Qm Zx rfl B.isinstance GY (Qa {0} (Qa (Z8 (v:=.ty "bool") rfl B.bool Lg Xb) Qd))))))));exists 032,a,1,ht,e,a,1;cases a with
 |false=>exact Q4 q
 |true=>exact Yp {032,b,1,ht,g,b,1,q}
theorem AU:Q8 ["_law_script","_law_k"] ["_law_script","_law_k"] (Qo sAt):=by eq_refl
theorem P4(F:Wg K "_law_at" "_law_at" sAt f fd)(B:hO mg):Q3 P w K mg base Ya 1 f fd ["_law_script","_law_k"] (yw K):=by
 refine F.ok AU (λi H Q E h=>?_) (λg A d s H i Q E j h=>?_)
 .obtain⟨a,b,k,rfl,_⟩:=h;rfl
 have(a,b,k,rfl,e,q):=h;have l:=AU.nd;exists _,(Qc (Zb (Qp Vg {1} (Qm Zc rfl B.len GX (Qa {0} Qd)) (Qu _))
  (Qg (Qt (Qn Zd {0} {1}))) Qw)
  (Qg (Qt Qi)))
 exists 0030,.inl {_,e,1},3010;refine Uu (λc=>?_) (λc=>q 0);have c:k<b.length:=by have:=Du c;rw[Gv]at this;ext
 refine{00,a,2,.int b[k],11,e,Zk ?_,q _};rw[Ts,Ge c];rfl
theorem u7:Q8 ["_law_deeds","_law_told","_law_deed"] ["_law_deeds"] (Qo pC):=by eq_refl
theorem UW{J:Gd}{X:Do}(F:Wg K "_law_after" "_law_after" pC f fd)(af:hO mg)
  (GZ:Q3 P w K mg base Ya 2 J X ["_law_told","_law_deed"] rB)(kZ:KI K J)(bZ:zk K X ["_law_told","_law_deed"] [])(mZ:MG mg "_law_barred" J):
  Q3 P w K mg base Ya 3 f fd ["_law_deeds"] yt:=by
 refine F.ok u7 (λo H m g C=>?_) (λu r A s H o m g hr C=>?_)
 .obtain⟨a,I,B,rfl,_⟩:=C;rfl
 have(a,I,B,rfl,ha,ab,aa,ai,q):=C;have Q:=u7.nd;exists _,(Qc (Qz 1 Q (Zt Qd))
  (Qc (Yb Tj rfl (Yh {0}) (Z5 2 Q)
  (Qg (Zb (Qp Xu (Qn Qs {2} Qi) Zh (Qu _))
  (Qg (Zb (wU jV jV Qi (Qn Qs {2} Qi) (Qm Zc rfl af.len GX (Qa {1} Qd)))
  (Qg (Qz 1 Q (Z3 Wo {1} Yu (Yd (Qn Qs {2} Qi))))) Qw)) (Qg (Zb (PW.pt (Ii (Qp Wh (Qn Qs {2} Qi) Zh (Qu _)) (Jk (Yk (Z1 (Za GZ hr rfl mZ kZ bZ .nil Q5 (Qa {1} (Qa {2} Qd))))))))
  (Qg (Zl (X6 Te Tx TC Z4 {1} (Qa {2} Qd)))) Qw)))))
  (Qg (Qt {1}))))
 refine{Tu _,λl0 ac=>?_};have s1:=Qf ac (.lst []);have ag:I.length=B.length:=GQ ab;refine⟨_,Xb,a,Xb,{_,Qk (s1 _ _ ha)},Yw (K:=K) (a:=a) (xs:=I) (λk G t=>∃(e:Gd)(b:List V)(W:Option V),G=[Ga (.ref a),Ga (.ref e),W]/\Q9 H t/\H e=Gq/\t e=Ga (.lst b)/\Um t b (after [] (B.take k)))
  {l0,[],Gq,1,s1,ac,Qb,by simp[after];exact .nil} (by rintro k G t _ ⟨_,_,_,_,j,_⟩;exact Qk (j _ _ ha)) ?_ ?_⟩
 .rintro k x G t hk ⟨e,b,W,rfl,j,v,h,l⟩;have(d,Y,N):=Qy ab hk;have O:=N.Qv (Q7.of j);have Z:=aa d (Gc Y);have E:iw (after [] (B.take k)):=Ox (λp D=>nomatch D) λd N=>aa d (Dq N);have ad:=Ia (ds:=B.take k) (tl:=[]);rw[Dc]at ad;simp only[Lh]at ad;rw[O4 Y];generalize after [] (B.take k)=tl at*;have ae:b.length=tl.length:=GQ l;have sz:=xP E;have ah:∀p∈tl,(p.2.1.ok=Gi/\p.2.1.depth<=8)/\p.2.2.ok=Gi/\p.2.2.depth<=8:=λp D=>{{(E p D).1.1,(E p D).1.2.1},(E p D).2.1,(E p D).2.2.1};cases d with
  |tell u x y=>
   have(g,T,U,rfl,m,R,S):=O;have L:=Z.1;have M:=Z.2;have zx:=L.2.2;have zy:=M.2.2;exists 0,g,201,Qj m,Z6,10;rw[Zg,vb];refine Q4 ?_;exists 0,g,201,Qj m,Z6,10;rw[Zg,vx];refine Yp ?_;refine{00,e,g,b,tl,T,U,u,x,y,1,h,l,m,R,S,{L.1,L.2.1},{M.1,M.2.1},ah,by ext,λrr H2 o hb=>{rr,1,?_}};cases rr with
   |true=>
    refine Q4 ?_;have r:Up tl (.tell u x y)=(tl,.str "clash"):=by simp only[Up];rw[GV (hb.mp Xb)]
    rw[r];exact{e,b,0,j.trans o,v,o _ _ h,l.Qv (Q7.of o)}
   |false=>
    refine Yp ?_;have nb:¬Xr (tl++[(u,x,y)]):=λz=>TD (hb.mpr z);have r:Up tl (.tell u x y)=(tl++[(u,x,y)],.int ((tl.length:Int)+1)):=by simp only[Up];rw[Gs nb]
    rw[r];exists 0,.inl {13,Qk (o _ _ h)},0,e,b,01,o _ _ h,(by rw[TJ];ext);have A:Q7 t (zj H2 e (.lst (b++[.ref g]))):=(Q7.of o).trans (Z2 λxs z=>by rw[o _ _ h]at z;cases z);exact{e,b++[.ref g],0,λc aj C=>by rw[Qh (Qe C v)];exact o _ _ (j _ _ C),v,Qb,Zq (l.Qv A) (.cons {g,T,U,1,A _ _ m,R.Qv A,S.Qv A} .nil)}
  |ask x y=>have(g,T,U,rfl,m,R,S):=O;exists 0,g,201,Qj m,Z6,10;rw[Zg,Qs3];refine Q4 ?_;exists 0,g,201,Qj m,Z6,10;rw[Zg,vS];refine Q4 (Q4 ?_);exact{e,b,0,j,v,h,l}
  |back i=>
   have(g,rfl,m):=O;exists 0,g,201,Qj m,Z6,10;rw[Zg,A7];refine Yp ?_;exists 0,g,201,Qj m,Xv,3010;refine Uu (λu=>?_) (λu=>?_)
   .have u:0<=i:=Du u;exists 030,.inl {_,Qk h,1},3010;refine Uu (λA=>?_) (λA=>?_)
    .have A:i<=(b.length:Int):=Du A;have r:Up tl (.back i)=(tl.take i.toNat,.int ((tl.length:Int) - i)):=by simp only[Up];rw[GV {u,by rw[<-ae];exact A}]
     rw[r];refine{00,g,201,Qj m,Xv,0,e,0,Qk h,λn L=>?_};rw[Qxl b i u];have o:=Qf L (.lst (b.take i.toNat));exact{n,30,j.trans o,j.free L,Qb,Jy _ (l.Qv (Q7.of o))}
    .have A:¬i<=(b.length:Int):=λz=>A (Ti z);have r:Up tl (.back i)=(tl,.str "no moment"):=by simp only[Up];rw[Gs (λz=>A (by rw[ae];exact z.2))]
     rw[r];exact{e,b,0,j,v,h,l}
   .have u:¬0<=i:=λz=>u (Ti z);have r:Up tl (.back i)=(tl,.str "no moment"):=by simp only[Up];rw[Gs (λz=>u z.1)]
    rw[r];exact{Gx,1,Q4 {e,b,0,j,v,h,l}}
 .rintro G t ⟨e,b,W,rfl,j,v,h,l⟩;rw[ag,Tz]at l;exact{0,q e b t j v h l}
end
inductive uG(vs:List V)(H:Hp)(Q:VK):Prop
 |mk (v:V) (t:Th) (h0:vs=[v]) (h1:Z7 H v t) (h2:t.good) (h3:∀H':Hp,Q9 H H'->Q (.bl Gi) H'):uG vs H Q
def Ko:Sp:=λa H Q _=>uG a H Q
theorem WW(h:(Th.mk w ps).good):∀p∈ps,p.good:=λp a=>by have(c,d,e):=h;simp only[Th.ok,Th.depth,Th.size,T5]at c d e;have b:=c.2;rw[Us,EW]at b;have:=Wl a;have:=xr a;exact{b p a,by ext,by ext}
section
variable{P:Gn}{w:Tg}{K:Gf}{mg:TQ->Option Gj}{base:Heap}
theorem sO:Q8 ["_law_found","_law_todo","_law_part"] ["_law_found"] (Qo pj):=by eq_refl
theorem YI(F:Wg K "_law_is_thing" "_law_is_thing" pj f fd)(j:hO mg):Q3 P w K mg base Ya 1 f fd ["_law_found"] Ko:=by
 refine F.ok sO (λvs k af ae g=>?_) (λao an ax s k vs af ae hr g=>?_)
 .obtain⟨v,t,rfl,_⟩:=g;rfl
 have(v,t,rfl,hv,O,q):=g;have J:=sO.nd;have m:=hr.units;exists _,(Qc (Qz 1 J (Zt (Qa {0} Qd)))
  (Qc (Ww Tj (Qp (jO m) {1} (Zt Qd) (Qu _))
  (Qc (Qz 2 J (O0 Te Et Eu O3 {1}))
  (Qc (Zb (PW.pt (Yv (Yk (Z1 (Qm Zx rfl j.isinstance GY (Qa {2} (Qa (Z8 (v:=.ty "tuple") rfl j.tuple Di Xb) Qd))))) (Yv (Qp Xu (Qm Zc rfl j.len GX (Qa {2} Qd)) Qi (Qu _)) (Xe (Yk (Z1 (Qm Zx rfl j.isinstance GY (Qa (Qn Qs {2} Qi) (Qa (Z8 (v:=.ty "str") rfl j.str EO Xb) Qd)))))))))
  (Qg (Qt Z9)) Qw)
  (Qg (Qz 1 J (Zf Wc {1} (X0 Ut rfl j.list T9 (Qa (Z3 V9 {2} (Yd Qi) Yu) Qd))))))))
  (Qg (Qt Z9))))
 have am:=O.2.2;refine{0,Wz,λb o=>?_};have L:=Qf o (.lst [v]);exists λU ac d=>iC λ(b:Gd)(i:List V)(a:List Th)(C:Option V)=>ir (ac=[Ga v,Ga (.ref b),C]) (Q9 k d) (k b=Gq) (d b=Ga (.lst i)) (Zy d i a) (∀u∈a,u.good) (U=Q6 a) (Q6 a<=100),
  {_,b,[v],[t],Gq,1,L,o,Qb,.one (hv.same L),λu m=>by rw[Tb]at m;subst m;exact O,1,by simp[Q6];exact am}
 clear L o;rintro U ac d ⟨b,i,a,C,rfl,sm,o,y,D,H,rfl,sz⟩;have lx:=D.length;have lT:=Zj a;refine{0,Tu _,λz hz=>?_};have s4:=Qf hz (.lst []);exists .list (X9 a),.list [],.lst (s4 _ _ y) (D.same s4).dts,.lst Qb .nil,by simp only[Tv];exact lj a (by rw[Us,EW];exactλu m=>(H u m).1),by simp[Tv,Gw],?_,_,Xb
 .simp only[Dw,TV];ext
 have ev:TW (.list (X9 a)) (.list [])=a.isEmpty:=by
  simp only[TW];rw[U2];cases a with
  |nil=>simp[X9]
  |cons t Y=>simp[X9]
 rw[ev];rcases Su a with rfl|⟨Tr,u,G⟩
 .exact Q4 (q _ (sm.trans s4))
 .have G:a=Tr++[u]:=by simpa using G
  subst G;have ai:(Tr++[u]).isEmpty=Gx:=by cases Tr<;>rfl
  rw[ai];refine Yp ?_;subst_vars;have(e,x,rfl,B,I):=Ih D;and_intros;have S:Q6 (Tr++[u])=Q6 Tr+u.size:=by rw[Xi];simp[Q6]
  rw[S]at sz;have ap:=R0 u;have al:=H u (by simp);exists λad r=>∃W,W<Q6 (Tr++[u])/\iC λ(b:Gd)(i:List V)(a:List Th)(C:Option V)=>ir (ad=[Ga v,Ga (.ref b),C]) (Q9 k r) (k b=Gq) (r b=Ga (.lst i)) (Zy r i a) (∀u∈a,u.good) (W=Q6 a) (Q6 a<=100),λad r g=>g;have ah:(e++[x])[(e++[x]).length - 1]?=Ga x:=by simp
  exists 0,.inl {13,Qk (s4 _ _ y)},b,301,s4 _ _ y,ah;rw[SI];have E:Of b d (zj (zj d z (.lst [])) b (.lst e)):=λc X l g=>by rw[Qh g];exact s4 _ _ l
  have T:(zj (zj d z (.lst [])) b (.lst e)) b=Ga (.lst e):=Qb;generalize zj (zj d z (.lst [])) b (.lst e)=M at E T⊢;have t5:Q7 d M:=E.Qv y (λi l=>by cases l);have ab:Q9 k M:=λc X l=>E c X (sm _ _ l) (Qe l o);have B:=B.Qv t5;have I:=I.Qv t5;subst_vars;have(N,wd,h,p,rfl,rfl,A,R):=I.inv;and_intros;have av:=R.length;have au:=Zj p;have aw:=B.length;have ar:=Zj Tr;have aq:(Th.mk wd p).size=Q6 p+1:=by simp only[Th.size]
  refine{032,Gi,1,.tup A,Im,Gi,1,Q4 ?_};exists 030,.inr {_,Qj A,1},10;rw[Jo];rw[show((((V.str wd::h).length:Nat):Int)==0)=Gx by simp;ext];refine Q4 ?_;refine{0,N,201,Qj A,Z6,32,Gi,1,.str _,R5,Gi,1,Q4 ?_};refine{000,N,0,Qj A,Wm _ _,λY aj=>?_};rw[iH];have s7:=Qf aj (.tup h);refine{Y,h,1,.inr (Qj Qb),λl2 ag=>?_};have s8:=Qf ag (.lst h);refine{b,l2,e,h,11,s8 _ _ (s7 _ _ T),Qb,small (by ext),λn Q=>?_};have s9:=Qf Q (.lst (e++h));have Z:=s7.trans s8;have aa:=Z.trans s9;refine{Q6 (Tr++p),by rw[S,Xi];ext,n,e++h,Tr++p,0,ab.trans aa,(ab.trans Z).free Q,Qb,(B.append R).same aa,λu' ak=>?_,1,by rw[Xi];ext};rcases Gh.mp ak with z|z
  .exact H u' (Gu _ z)
  .exact WW al u' z
end
end K06
namespace Sb
open PySem PySem.Spec PyProof.Rows L2
noncomputable def rn(w:TQ):TQ:=if w="sab"then"tab"else if w="tab"then"x"else if w="sob"then"sab"else if w="sat"then"sob"else if w="fig"then"fog"else if w="fog"then"hog"else("q":TQ)++w++"q"
def unq(w:TQ):TQ:=⟨w.cps.extract 1 (w.cps.size - 1)⟩
noncomputable def un(w:TQ):TQ:=if w="tab"then"sab"else if w="x"then"tab"else if w="sab"then"sob"else if w="sob"then"sat"else if w="fog"then"fig"else if w="hog"then"fog"else unq w
end Sb
namespace L2
open PySem PySem.Spec PyProof.Rows
theorem Od(a:List V)(k:Nat):Jf a Gq (Ga (k:Int))=a.take k:=by unfold Jf;rw[HT.Rt,HT.Iz];simp
theorem xf(a:List V)(k:Nat)(h:k<a.length):¬(HT.Vc a.length 0 Gq=0/\HT.Vc a.length a.length (Ga (k:Int))=a.length):=by rw[HT.Iz];rintro⟨_,b⟩;ext
theorem PD{c:Type}{a:List c}{v:c}(h:a[a.length - 1]?=Ga v):Oh a (-1)=Ga v:=by
 rcases Su a with rfl|⟨b,u,e⟩
 .simp at h
 .have e:a=b++[u]:=by simpa using e
  subst e;have:u=v:=by simpa using h
  rw[this];exact OO b v
end L2
namespace Sb
open PySem PySem.Spec PyProof.Rows L2
theorem Q3d{a:List Th}{e:Tl}{d:Dd}(h:∀p∈e,p.2.1∈a/\p.2.2∈a)(g:d.fits a):∀p∈(Up e d).1,p.2.1∈a/\p.2.2∈a:=by
 cases d with
 |ask x y=>exact h
 |back i=>
  simp only[Up];split
  .exactλp c=>h p (Dq c)
  .exact h
 |tell b x y=>
  simp only[Up];split
  .exact h
  .intro p c;rcases Gh.mp c with z|z
   .exact h p z
   .rw[Tb]at z;subst z;exact g
theorem sH{a:List Th}:∀{ds:List Dd}{tl:Tl},(∀p∈tl,p.2.1∈a/\p.2.2∈a)->(∀d∈ds,d.fits a)->∀p∈after tl ds,p.2.1∈a/\p.2.2∈a
 |[],_,h,_=>h
 |d::ds,tl,h,g=>by have:=sH (ds:=ds) (tl:=(Up tl d).1) (Q3d h (g d Tc)) λe b=>g e (Gr _ b);simp only[after];exact this
theorem Um.dds{H:Hp}{b:List V}{a:Tl}(h:Um H b a):Vx H b (a.map Wy):=by
 unfold Um at h;unfold Vx;induction h with
 |nil=>exact .nil
 |cons h r c=>exact .cons h c
end Sb
namespace K06
open PySem L2 Sb
variable{H:Hp}{v1 v2:V}{t:Th}{Q:VK}
def iv:Gd->Prop:=λ_=>False
theorem pe(a:Z7 H v1 t)(c:Z7 H v2 t)(g:t.good)(q:Q (.bl Gi) H):ku (λb=>b) v1 v2 H Q:=
 {t.toD,t.toD,a.dt,c.dt,Wf t g.1,Wf t g.1,by rw[Xj];have:=g.2.1;ext,by rw[la,Ti rfl];exact q}
theorem rd(a:Z7 H v1 t)(c:Z7 H v2 t)(g:t.good)(q:Q (.bl Gx) H):ku (λb=>!b) v1 v2 H Q:=
 {t.toD,t.toD,a.dt,c.dt,Wf t g.1,Wf t g.1,by rw[Xj];have:=g.2.1;ext,by rw[la,Ti rfl];exact q}
theorem za(t:Th):TW t.toD t.toD=Gi:=by rw[la];exact Ti rfl
theorem z7{c d:Gd}{i j:V}{s:Th}(o:H c=Ga (.tup [v1,v2]))(p:H d=Ga (.tup [i,j]))(k:Z7 H v1 s)(l:Z7 H v2 t)(m:Z7 H i s)(n:Z7 H j t)(a:s.good)(f:t.good)(q:Q (.bl Gi) H):ku (λb=>b) (.ref c) (.ref d) H Q:=by
 have g:=Wf s a.1;have h:=Wf t f.1;have r:=Xj s;have u:=Xj t;have:=a.2.1;have:=f.2.1;exists .tuple [s.toD,t.toD],.tuple [s.toD,t.toD],.tup o (.cons k.dt (.cons l.dt .nil)),.tup p (.cons m.dt (.cons n.dt .nil)),by simp[Tv,Gw,g,h],by simp[Tv,Gw,g,h],?_
 .simp only[Dw,TV];ext
 .have e:TW (.tuple [s.toD,t.toD]) (.tuple [s.toD,t.toD])=Gi:=by simp[TW,Ds,za]
  rw[e];exact q
theorem VC{c d:Gd}{x:TQ}{j k:V}{s:Th}(g:DM x=Gi)(p:H c=Ga (.tup [.str x,v1,v2]))(r:H d=Ga (.tup [.str x,j,k]))(l:Z7 H v1 s)(m:Z7 H v2 t)(n:Z7 H j s)(o:Z7 H k t)(a:s.good)(f:t.good)(q:Q (.bl Gi) H):ku (λb=>b) (.ref c) (.ref d) H Q:=by
 have h:=Wf s a.1;have i:=Wf t f.1;have u:=Xj s;have v:=Xj t;have:=a.2.1;have:=f.2.1;exists .tuple [.str x,s.toD,t.toD],.tuple [.str x,s.toD,t.toD],.tup p (.cons (.str _) (.cons l.dt (.cons m.dt .nil))),.tup r (.cons (.str _) (.cons n.dt (.cons o.dt .nil))),by simp[Tv,Gw,h,i,g],by simp[Tv,Gw,h,i,g],?_
 .simp only[Dw,TV];ext
 .have e:TW (.tuple [.str x,s.toD,t.toD]) (.tuple [.str x,s.toD,t.toD])=Gi:=by simp[TW,Ds,za]
  rw[e];exact q
def lH(H:Hp)(v:V):Option (Th×Th)->Prop
 |none=>v=.non
 |some p=>∃c a b,v=.ref c/\H c=Ga (.tup [a,b])/\Z7 H a p.1/\Z7 H b p.2/\p.1.good/\p.2.good
theorem lH.same{H a:Hp}(e:Q9 H a){v:V}:∀{b:Option (Th×Th)},lH H v b->lH a v b
 |none,h=>h
 |some _,⟨c,j,k,d,f,g,h,i⟩=>{c,j,k,d,e _ _ f,g.same e,h.same e,i}
structure ji(H:Hp)(L:Gd)(lv:List V)(ls:List Lt):Prop where
 at_:H L=Ga (.lst lv)
 pr:Dg (qA H iv) lv ls
 good:∀l∈ls,l.1.good/\l.2.1.good
 len:ls.length<=900000
theorem ji.same{H a:Hp}(e:Q9 H a){L:Gd}{d:List V}{b:List Lt}(h:ji H L d b):ji a L d b:=
 {e _ _ h.at_,Qr h.pr (by rintro _ _ ⟨c,n,o,m,f,g,i,j,k,l⟩;exact{c,n,o,m,f,e _ _ g,i.same e,j.same e,k.kp (λh=>e _ _ h) (λh _=>e _ _ h),l}),h.good,h.len}
inductive v5(vs:List V)(H:Hp)(Q:VK):Prop
 |mk (a:Gd) (L:Gd) (us:List V) (lv:List V) (pq:V) (tl:Tl) (pr:Option (Th×Th)) (ls:List Lt) (k:Nat) (x:Th) (y:Th) (r:Lr) (h0:vs=[.ref a,.ref L,.int (k:Int),pq]) (h1:H a=Ga (.lst us)) (h2:Um H us tl) (h3:iw tl) (h4:tl.length<=1000) (h5:ji H L lv ls) (h6:lH H pq pr) (h7:ls[k]?=Ga (x,y,r)) (h8:yX tl pr (ls.take k) x y r) (h9:∀H':Hp,Q9 H H'->Q (.bl Gi) H'):v5 vs H Q
def xC:Sp:=λa H Q _=>v5 a H Q
theorem qG{b:Type}{l:List b}{k n:Nat}{x:b}(h:(l.take k)[n]?=Ga x):n<k/\l[n]?=Ga x:=by
 have c:=(Gg.mp h).1;rw[Dc]at c;have a:n<k:=by ext
 rw[DS a]at h;exact⟨a,h⟩
theorem AY{c:List Lt}:∀{e:List Nat}{a b:Th},i4 c a e b->∀k∈e,∃l,c[k]?=Ga l
 |[],_,_,_,k,d=>nomatch d
 |j::e,a,b,⟨m,r,f,g⟩,k,d=>by
  rcases Tf.mp d with z|z
  .exact{_,by rw[z];exact f}
  .exact AY g k z
theorem Qwq{c:List Lt}:∀{d:List Nat}{a b:Th}{i k:Nat},i4 c a d b->d[i]?=Ga k->∀t,i4 c t (d.drop i) b->∃m r,c[k]?=Ga (t,m,r)/\i4 c m (d.drop (i+1)) b:=by intro d a b i k _ f t ht;have e:d.drop i=k::d.drop (i+1):=LO.trans (by rw[f];rfl);rw[e]at ht;exact ht
noncomputable def rowsOf(b:List V)(a:List Nat):List V:=a.map λk=>b.getD k .non
theorem getD_at{a:List V}{k:Nat}(h:k<a.length):a[k]?=Ga (a.getD k .non):=by rw[DL,Ge h];rfl
theorem OB:(("told":TQ)=="told")=Gi:=by decide+kernel
theorem Pz:(("asked":TQ)=="told")=Gx:=by decide+kernel
theorem Q3r:(("asked":TQ)=="asked")=Gi:=by decide+kernel
theorem WV:(("turn":TQ)=="told")=Gx:=by decide+kernel
theorem UP:(("turn":TQ)=="asked")=Gx:=by decide+kernel
theorem ZF:(("turn":TQ)=="turn")=Gi:=by decide+kernel
theorem Q90:(("chain":TQ)=="told")=Gx:=by decide+kernel
theorem Q9g:(("chain":TQ)=="asked")=Gx:=by decide+kernel
theorem Q9i:(("chain":TQ)=="turn")=Gx:=by decide+kernel
theorem XE:(("chain":TQ)=="chain")=Gi:=by decide+kernel
theorem Q9j:(("like":TQ)=="told")=Gx:=by decide+kernel
theorem Q9u:(("like":TQ)=="asked")=Gx:=by decide+kernel
theorem Q9m:(("like":TQ)=="turn")=Gx:=by decide+kernel
theorem VA:(("like":TQ)=="chain")=Gx:=by decide+kernel
theorem OY:(("like":TQ)=="like")=Gi:=by decide+kernel
theorem OF:(["_law_number","_law_lines"]:List TQ).Nodup:=by decide+kernel
section
variable{P:Gn}{w:Tg}{K:Gf}{mg:TQ->Option Gj}{base:Heap}
theorem yn:Q8 ["_law_told","_law_lines","_law_k","_law_pair","_law_one","_law_other","_law_reason","_law_number","_law_rows","_law_here","_law_row","_law_j"] ["_law_told","_law_lines","_law_k","_law_pair"] (Qo nR):=by eq_refl
theorem UL{aB fH:Gd}{fd dH:Do}(F:Wg K "_law_line_follows" "_law_line_follows" nR aB fd)(L:hO mg)
  (GH:Q3 P w K mg base Ya 1 fH dH ["_law_found"] (mq K))(kH:KI K fH)(bH:zk K dH ["_law_found"] [])(mH:MG mg "_law_whole" fH):
  Q3 P w K mg base Ya 2 aB fd ["_law_told","_law_lines","_law_k","_law_pair"] xC:=by
 refine F.ok yn (λo Y h g Z=>?_) (λH A I s Y o h g hr Z=>?_)
 .obtain⟨a,T,us,m,pq,tl,pr,ls,k,x,y,r,rfl,_⟩:=Z;rfl
 have(a,T,us,m,pq,tl,pr,ls,k,x,y,r,rfl,ha,aC,aL,aK,E,aI,hk,ok,q):=Z;have C:=yn.nd;have hu:=hr.units;exists _,(Qc (Rk (Qn Zd {1} {2}) (Uc rfl (Zr (Z5 4 C) (Zr (Z5 5 C) (Zr (Z5 6 C) Wp)))))
  (Qc (Zb (Qp Xu (Qn Qs {6} Qi) Zh (Qu _))
  (Qc (Qz 7 C (Qn Qs {6} Qi))
  (Qc (Zb (PW.pt (Yv (Yk (Z1 (Za GH hr rfl mH kH bH .nil Q5 (Qa {7} Qd)))) (Yv (Qp Vg {7} Qi (Qu _)) (Xe (Qp lU {7} (Qm Zc rfl L.len GX (Qa {0} Qd)) (Qu _))))))
  (Qg (Qt Z9)) Qw)
  (Qg (Qt (Vh (U1 hu) (Qn Zd {0} {7}) (Ze (Qa Zh (Qa {4} (Qa {5} Qd)))) (Qu _)))))) Qw)
  (Qc (Zb (Qp Xu (Qn Qs {6} Qi) Zh (Qu _))
  (Qg (Qt (Vh (U1 hu) {3} (Ze (Qa {4} (Qa {5} Qd))) (Qu _)))) Qw)
  (Qc (Zb (Qp Xu (Qn Qs {6} Qi) Zh (Qu _))
  (Qc (Qz 7 C (Qn Qs {6} Qi))
  (Qc (Zb (PW.pt (Yv (Yk (Z1 (Za GH hr rfl mH kH bH .nil Q5 (Qa {7} Qd)))) (Yv (Qp Vg {7} Qi (Qu _)) (Xe (Qp lU {7} {2} (Qu _))))))
  (Qg (Qt Z9)) Qw)
  (Qg (Qt (Vh (U1 hu) (Z3 V9 (Qn Zd {1} {7}) Yu (Yd Qi)) (Ze (Qa {5} (Qa {4} Qd))) (Qu _)))))) Qw)
  (Qc (Zb (Yk (Z1 (Qm Zx rfl L.isinstance GY (Qa (Qn Qs {6} Qi) (Qa (Z8 (v:=.ty "list") rfl L.list T9 Xb) Qd)))))
  (Qg (Qt Z9)) Qw)
  (Qc (Yb Tj rfl (Yh (Qn Qs {6} Qi)) (Z5 7 C)
  (Qg (Zb (PW.pt (Yv (Yk (Z1 (Za GH hr rfl mH kH bH .nil Q5 (Qa {7} Qd)))) (Yv (Qp Vg {7} Qi (Qu _)) (Xe (Qp lU {7} {2} (Qu _))))))
  (Qg (Qt Z9)) Qw)))
  (Qc (U3 (i:=8) (own:=["_law_number"]) (fv:=[(1,"_law_lines")]) C rfl rfl rfl (S:=(by eq_refl:Wb (Qo nR) _)) (.cons rfl (DX Xb) rfl .nil) (Yh (Qn Qs {6} Qi))
   (λ_ _ _ _ _=>Yz (i:=0) OF rfl (DX Xb) (Sq Xb)) (λ_ _ _ _ _=>Wk) (λ_ _ _ _ _=>(Qn (r:=rj K) Zd {1} {0})))
  (Qc (Zb (Qp Xu (Qn Qs {6} Qi) Zh (Qu _))
  (Qc (Qz 9 C {4})
  (Qc (Yb Tj rfl (Yh {8}) (Z5 10 C)
  (Qc (Zb (Qp (jO hu) (Qn Qs {10} Qi) {9} (Qu _))
  (Qg (Qt Z9)) Qw)
  (Qg (Qz 9 C (Qn Qs {10} Qi)))))
  (Qg (Qt (Vh (U1 hu) {9} {5} (Qu _)))))) Qw)
  (Qc (Zb (PW.pt (Yv (Qp Wh (Qn Qs {6} Qi) Zh (Qu _)) (Yv (Qp Wh (Qn Qs {4} Qi) (Qn Qs {5} Qi) (Qu _)) (Xe (Qp Wh (Qm Zc rfl L.len GX (Qa {4} Qd)) (Qm Zc rfl L.len GX (Qa {5} Qd)) (Qu _))))))
  (Qg (Qt Z9)) Qw)
  (Qc (Zb (Qp Wh (Qm Zc rfl L.len GX (Qa {8} Qd)) (Zf Rm (Qm Zc rfl L.len GX (Qa {4} Qd)) Qi) (Qu _))
  (Qg (Qt Z9)) Qw)
  (Qc (Yb Tj rfl (V4 rfl L.range (Qa (Qm Zc rfl L.len GX (Qa {8} Qd)) Qd)) (Z5 11 C)
  (Qg (Zb (PW.pt (Yv (Qp (jO hu) (Qn Qs (Qn Zd {8} {11}) Qi) (Qn Qs {4} (Zf Vl {11} Qi)) (Qu _)) (Xe (Qp (jO hu) (Qn Qs (Qn Zd {8} {11}) Qi) (Qn Qs {5} (Zf Vl {11} Qi)) (Qu _)))))
  (Qg (Qt Z9)) Qw)))
  (Qg (Qt Z9)))))))))))))
 have aM:m.length=ls.length:=GQ E.pr;have aN:us.length=tl.length:=GQ aC;have aJ:k<ls.length:=(Gg.mp hk).1;have l9:=E.len;subst_vars;obtain⟨u,eu⟩:∃u,m[k]?=Ga u:={_,Ge (by ext)};have(l',e',c,D,G,rv,rfl,hc,t1,t2,ad,_):=Qy E.pr eu;and_intros;rw[hk]at e';cases e';have(gx,gy):=E.good _ (Gc hk);have ay:∀{n:Nat}{l:Lt},(ls.take k)[n]?=Ga l->n<k/\∃c D G rv,m[n]?=Ga (.ref c)/\Y c=Ga (.tup [D,G,rv])/\Z7 Y D l.1/\Z7 Y G l.2.1/\l.1.good/\l.2.1.good:=λ{n l}Z=>by have(h,g):=qG Z;obtain⟨u,eu⟩:∃u,m[n]?=Ga u:={_,Ge (by ext)};have(l',e',c,D,G,rv,rfl,hc,t1,t2,_):=Qy E.pr eu;rw[g]at e';cases e';exact{h,c,D,G,rv,eu,hc,t1,t2,(E.good _ (Gc g)).1,(E.good _ (Gc g)).2}
 exists 00,T,m,301,Qk E.at_,Zk eu,c,0,Qj hc,13030301;have M:(∃(wd:TQ)(e l:Gd)(b:List Nat),rv=.ref e/\Y e=Ga (.tup [.str wd,.ref l])/\Y l=Ga (.lst (b.map jv))/\b.length<=1000000/\(∀n∈b,∃l,(ls.take k)[n]?=Ga l)/\(wd="chain"/\i4 (ls.take k) x b y\/wd="like"/\r=.like b))\/((∃n,r=.told n)\/r=.asked\/∃n,r=.turn n):=by
  cases r with
  |told n=>exact .inr (.inl ⟨n,Xb⟩)
  |asked=>exact .inr (.inr (.inl Xb))
  |turn n=>exact .inr (.inr (.inr ⟨n,Xb⟩))
  |chain b=>have(e,l,rfl,f,N,_,an):=ad;exact .inl {_,e,l,b,1,f,N,an,AY ok,.inl ⟨Xb,ok⟩}
  |like b=>have(e,l,rfl,f,N,_,an):=ad;have(o1,o2,o3,o4):=(show x.word=y.word/\x.parts.length=y.parts.length/\b.length=x.parts.length/\_ from ok);refine .inl {_,e,l,b,1,f,N,an,λn hn=>?_,.inr ⟨Xb,Xb⟩};have(j,hj):=Dl.mp hn;have g:=(Gg.mp hj).1;have(r,Z):=o4 j n _ _ hj (Ge (by ext)) (Ge (by ext));exact{_,Z}
 rcases M with⟨wd,e,l,b,rfl,f,N,an,lt,M⟩|M
 .have J:(wd=="told")=Gx:=by rcases M with⟨rfl,_⟩|⟨rfl,_⟩<;>decide+kernel
  have S:(wd=="asked")=Gx:=by rcases M with⟨rfl,_⟩|⟨rfl,_⟩<;>decide+kernel
  have w3:(wd=="turn")=Gx:=by rcases M with⟨rfl,_⟩|⟨rfl,_⟩<;>decide+kernel
  exists 0,e,201,Qj f,Z6,10;rw[Zg,J];refine Q4 ?_;exists 0,e,201,Qj f,Z6,10;rw[Zg,S];refine Q4 ?_;exists 0,e,201,Qj f,Z6,10;rw[Zg,w3];refine Q4 ?_;refine{0,e,201,Qj f,Xv,32,Gi,1,.lst N,jG,Gi,1,Q4 ?_};let aH:Nat->St->Hp->Prop:=λi g X=>jA λ(x7:Option V)=>nK (g=[Ga (.ref a),Ga (.ref T),Ga (.int (k:Int)),Ga pq,Ga D,Ga G,Ga (.ref e),x7,Gq,Gq,Gq,Gq]) (X=Y)
  refine⟨_,Xb,e,_,_,_,Xb,Xb,Qj f,Xv,l,Xb,{_,Qk N},Yw (K:=K) (a:=l) (xs:=b.map jv) aH
   {401} (λi g X _⟨_,_,o⟩=>Qk (by rw[o];exact N)) ?_ ?_⟩
  .rintro i u g X hi ⟨x7,rfl,rfl⟩;obtain⟨n,A,rfl⟩:∃n,n∈b/\jv n=u:=by
    rw[Ts]at hi;cases o:b[i]? with
    |none=>rw[o]at hi;cases hi
    |some n=>rw[o]at hi;exact{n,Gc o,T3 hi}
   have(ll,el):=lt n A;have hn:=(qG el).1;refine{02,Gi,Gx,1,.int _,Rl,Ik,Gi,1,Q4 ?_};exists 403010;rw[Td (show¬((n:Int)<0) by ext)];refine Q4 ?_;exists 4003010;rw[Td (show¬((n:Int)>=(k:Int)) by ext)];exact Q4 {401}
  rintro g X ⟨x7,rfl,rfl⟩;refine{0,e,201,Qj f,Xv,l,1,{_,Qk N},λp hp=>?_};have sp:=Qf hp (.lst []);refine Oe (K:=K) (a:=l) (xs:=b.map jv) (small (by rw[Gv];ext)) (λi ys g H=>(∃x0,g=[x0,Ga (.ref T)])/\ys=rowsOf m (b.take i)/\H=zj X p (.lst ys)) {{40},11} (λi ys g H _⟨_,_,o⟩=>Qk (by rw[o];exact Qf hp _ _ _ N)) ?_ ?_
  .rintro i u ys g H hi az ⟨⟨x0,rfl⟩,rfl,rfl⟩ U;obtain⟨n,A,rfl⟩:∃n,b[i]?=Ga n/\jv n=u:=by
    rw[Ts]at hi;cases o:b[i]? with
    |none=>rw[o]at hi;cases hi
    |some n=>rw[o]at hi;exact{n,1,T3 hi}
   have(ll,el):=lt n (Gc A);have hn:=(qG el).1;refine{00,T,m,301,Qk (Qf hp _ _ _ E.at_),Zk (getD_at (by ext)),U,{40},?_,by rw[Vq]};unfold rowsOf;rw[TF,A,TY];rfl
  rintro ys g H az ⟨_,rfl,rfl⟩ R;rw[Gv,Tz]at R az⊢;have h:=Qf hp (.lst (rowsOf m b));generalize zj X p (.lst (rowsOf m b))=H at*;rcases M with⟨rfl,ok⟩|⟨rfl,rfl⟩
  .exists 0,e,201,Qj (h _ _ f),Z6,10;rw[Zg,XE];refine Yp ?_;exists 40;let aA:Nat->St->Hp->Prop:=λi g I=>kL λ(W:V)(t:Th)(ab:Option V)=>jn (g=[Ga (.ref a),Ga (.ref T),Ga (.int (k:Int)),Ga pq,Ga D,Ga G,Ga (.ref e),x7,Ga (.ref p),Ga W,ab,Gq]) (I=H) (Z7 H W t) (t.good) (i4 (ls.take k) t (b.drop i) y)
   refine⟨_,Xb,p,Xb,{_,Qk R},Yw (K:=K) (a:=p) (xs:=rowsOf m b) aA
    {D,x,01,t1.same h,gx,by rw[Nz];exact ok} (by rintro i g I _ ⟨_,_,_,_,o,_⟩;exact Qk (by rw[o];exact R)) ?_ ?_⟩
   .rintro i u g I hi ⟨W,t,ab,rfl,rfl,th,tg,U⟩;subst_vars;obtain⟨n,A,aw⟩:∃n,b[i]?=Ga n/\m.getD n .non=u:=by
     unfold rowsOf at hi;rw[Ts]at hi;cases o:b[i]? with
     |none=>rw[o]at hi;cases hi
     |some n=>rw[o]at hi;exact{n,1,T3 hi}
    have(ax,r3,e3,av):=Qwq ok A t U;have(hn,d,u1,u2,aD,ed,B,O,Q,g3,g4):=ay e3;and_intros;have:u=.ref d:=by rw[<-aw,DL,ed];rfl
    subst this;refine{0,d,201,Qj (h _ _ B),Z6,0,rd (O.same h) th tg {0,Q4 ?_}};exists 0,d,201,Qj (h _ _ B),Xv;exact{u2,ax,01,Q.same h,g4,av}
   .rintro g I ⟨W,t,ab,rfl,rfl,th,tg,U⟩;rw[show(rowsOf m b).length=b.length from Gv _,List.drop_length]at U;have:t=y:=U;subst this;exact{00,pe th (t2.same h) tg (q _ h)}
  .obtain⟨o1,o2,o3,o4⟩:=(show x.word=y.word/\x.parts.length=y.parts.length/\b.length=x.parts.length/\_ from ok);exists 0,e,201,Qj (h _ _ f),Z6,10;rw[Zg,VA];refine Q4 ?_;have(b1,J,U,af,rfl,rfl,W,ao):=(t1.same h).inv;have(b2,S,aa,au,rfl,rfl,ae,ap):=(t2.same h).inv;have o1:J=S:=o1;have o2:af.length=au.length:=o2;have o3:b.length=af.length:=o3;have aq:=ao.length;have aF:=ap.length;exists 0,e,201,Qj (h _ _ f),Z6,10;rw[Zg,OY];refine Q4 ?_;exists 0,b1,201,Qj W,Z6,0,b2,201,Qj ae,Z6,10;rw[Ti (show V.str J=V.str S by rw[o1])];refine Q4 ?_;exists 030,.inr {_,Qj W,1},030,.inr {_,Qj ae,1},10;rw[Ti (show V.int (((V.str J::U).length:Nat):Int)=V.int (((V.str S::aa).length:Nat):Int) by rw[TB,TB,aq,aF,o2])];refine Q4 ?_;have aE:(rowsOf m b).length=b.length:=Gv _;exists 030,.inl {_,Qk R,1},030,.inr {_,Qj W,1},30110;rw[Ti (show V.int (((rowsOf m b).length:Nat):Int)=V.int ((((V.str J::U).length:Nat):Int) - 1) by rw[TB,aE,aq,o3];congr 1;ext)];refine Q4 ?_;let aG:Nat->St->Hp->Prop:=λj g I=>jA λ(ag:Option V)=>nK (g=[Ga (.ref a),Ga (.ref T),Ga (.int (k:Int)),Ga pq,Ga (.ref b1),Ga (.ref b2),Ga (.ref e),x7,Ga (.ref p),Gq,Gq,ag]) (I=H)
   refine⟨_,Xb,_,_,Xb,.inl {_,Qk R,1},_,Xb,by ext,by ext,Ua (lo:=0) (n:=(((rowsOf m b).length:Int)).toNat) aG
    {401} ?_ ?_⟩
   .rintro j g I hj ⟨ag,rfl,rfl⟩;have hj:j<b.length:=by ext
    have A:b[j]?=Ga b[j]:=Ge hj;subst_vars;obtain⟨p1,ah⟩:∃p1,af[j]?=Ga p1:={_,Ge (by ext)};obtain⟨p2,ai⟩:∃p2,au[j]?=Ga p2:={_,Ge (by ext)};have(r3,e3):=o4 j _ p1 p2 A ah ai;have(hn,d,u1,u2,aD,ed,B,O,Q,g3,g4):=ay e3;obtain⟨z1,al⟩:∃z,U[j]?=Ga z:={_,Ge (by ext)};obtain⟨z2,am⟩:∃z,aa[j]?=Ga z:={_,Ge (by ext)};have(y1,aj,i1):=ao.get al;have(y2,ak,i2):=ap.get am;and_intros;rw[ah]at aj;cases aj;rw[ai]at ak;cases ak;have er:(rowsOf m b)[j]?=Ga (.ref d):=by unfold rowsOf;rw[Ts,A];show Ga (m.getD b[j] .non)=_;rw[DL,ed];rfl
    have ar:Oh (rowsOf m b) (0+(j:Int))=Ga (.ref d):=by rw[Si];exact Zk er
    have a1:Oh (V.str J::U) (0+(j:Int)+1)=Ga z1:=by rw[Si];exact Zk (xs:=V.str J::U) (j:=j+1) (by rw[SY];exact al)
    have a2:Oh (V.str S::aa) (0+(j:Int)+1)=Ga z2:=by rw[Si];exact Zk (xs:=V.str S::aa) (j:=j+1) (by rw[SY];exact am)
    refine{00,p,201,Qk R,ar,d,201,Qj (h _ _ B),Z6,00301,b1,201,Qj W,a1,rd (O.same h) i1 g3 {0,Q4 ?_}};refine{00,p,201,Qk R,ar,d,201,Qj (h _ _ B),Xv,00301,b2,201,Qj ae,a2,rd (Q.same h) i2 g4 {0,Q4 ?_}};exact{401}
   .rintro g I ⟨ag,rfl,rfl⟩;exact q _ h
 cases r with
 |told n=>have(e,rfl,f):=ad;have ok:tl[n]?=Ga (Gi,x,y):=ok;have hn:=(Gg.mp ok).1;obtain⟨o,h⟩:∃o,us[n]?=Ga o:={_,Ge (by ext)};have(p,g,d,u1,u2,rfl,B,O,Q):=Qy aC h;rw[ok]at g;cases g;exists 0,e,201,Qj f,Z6,10;rw[Zg,OB];refine Yp ?_;exists 0,e,201,Qj f,Xv;refine{02,Gi,Gx,1,.int _,Rl,Ik,Gi,1,Q4 ?_};exists 403010;rw[Td (show¬((n:Int)<0) by ext)];refine Q4 ?_;exists 0030,.inl {_,Qk ha,1},3010;rw[Td (show¬((n:Int)>=((us.length:Nat):Int)) by ext)];refine Q4 ?_;refine{00,a,us,301,Qk ha,Zk h,00,Vm,λc3 ac=>?_};have v:=Qf ac (.tup [.str "same",D,G]);exact VC (tQ Gi) (v _ _ B) Qb (O.same v) (Q.same v) (t1.same v) (t2.same v) gx gy (q _ v)
 |asked=>have(e,rfl,f):=ad;have ok:pr=Ga (x,y):=ok;subst ok;have(d,u1,u2,rfl,B,O,Q,_,_):=aI;exists 0,e,201,Qj f,Z6,10;rw[Zg,Pz];refine Q4 ?_;exists 0,e,201,Qj f,Z6,10;rw[Zg,Q3r];refine Yp ?_;refine{000,Yy,λc3 ac=>?_};have v:=Qf ac (.tup [D,G]);exact z7 (v _ _ B) Qb (O.same v) (Q.same v) (t1.same v) (t2.same v) gx gy (q _ v)
 |turn n=>have(e,rfl,f):=ad;have(A,ok):=ok;have(hn,d,u1,u2,aD,ed,B,O,Q,_,_):=ay ok;exists 0,e,201,Qj f,Z6,10;rw[Zg,WV];refine Q4 ?_;exists 0,e,201,Qj f,Z6,10;rw[Zg,UP];refine Q4 ?_;exists 0,e,201,Qj f,Z6,10;rw[Zg,ZF];refine Yp ?_;exists 0,e,201,Qj f,Xv;refine{02,Gi,Gx,1,.int _,Rl,Ik,Gi,1,Q4 ?_};exists 403010;rw[Td (show¬((n:Int)<0) by ext)];refine Q4 ?_;exists 4003010;rw[Td (show¬((n:Int)>=(k:Int)) by ext)];refine Q4 ?_;refine{00,T,m,301,Qk E.at_,Zk ed,0,d,0,Qj B,xf _ 2 (by show 2<3;decide),λo h=>?_};have s4:=Qf h (.tup [u1,u2]);refine{00,Yy,λc3 ac=>?_};have v:=Qf ac (.tup [G,D]);have g:=s4.trans v;exact z7 (v _ _ Qb) Qb (O.same g) (Q.same g) (t2.same g) (t1.same g) gy gx (q _ g)
 |chain b=>rcases M with⟨_,z⟩|z|⟨_,z⟩<;>cases z
 |like b=>rcases M with⟨_,z⟩|z|⟨_,z⟩<;>cases z
theorem Ro.Q8y{H:Hp}{X:Gd->Prop}{v:V}:∀{r:Lr},Ro H X v r->∃e d X8,v=.ref e/\H e=Ga (.tup (.str d::X8))/\(((V.str d::X8).length:Nat):Int)=2 - (if decide (V.str d=V.str "asked")=Gi then 1 else 0)
 |.told n,⟨c,a,b⟩=>{c,2,a,b,by rw[Zg,show(("told":TQ)=="asked")=Gx by decide+kernel];rfl}
 |.asked,⟨c,a,b⟩=>{c,2,a,b,by rw[Zg,show(("asked":TQ)=="asked")=Gi by decide+kernel];rfl}
 |.turn n,⟨c,a,b⟩=>{c,2,a,b,by rw[Zg,show(("turn":TQ)=="asked")=Gx by decide+kernel];rfl}
 |.chain f,⟨c,l,a,b,_⟩=>{c,2,a,b,by rw[Zg,show(("chain":TQ)=="asked")=Gx by decide+kernel];rfl}
 |.like f,⟨c,l,a,b,_⟩=>{c,2,a,b,by rw[Zg,show(("like":TQ)=="asked")=Gx by decide+kernel];rfl}
noncomputable def lrD:Lr->DO
 |.told n=>.tuple [.str "told",.int n]
 |.asked=>.tuple [.str "asked"]
 |.turn n=>.tuple [.str "turn",.int n]
 |.chain a=>.tuple [.str "chain",.list ((a.map λn:Nat=>(n:Int)).map Ei)]
 |.like a=>.tuple [.str "like",.list ((a.map λn:Nat=>(n:Int)).map Ei)]
theorem vh(a:List Nat):a.map jv=(a.map λn:Nat=>(n:Int)).map V.int:=by rw[Dj];rfl
theorem Q4i{H:Hp}{X:Gd->Prop}{v:V}:∀{r:Lr},Ro H X v r->Dt H v (lrD r)
 |.told n,⟨c,a,b⟩=>by subst a;exact .tup b (.cons (.str _) (.cons (.int _) .nil))
 |.asked,⟨c,a,b⟩=>by subst a;exact .tup b (.cons (.str _) .nil)
 |.turn n,⟨c,a,b⟩=>by subst a;exact .tup b (.cons (.str _) (.cons (.int _) .nil))
 |.chain e,⟨c,l,a,b,d,_⟩=>by subst a;exact .tup b (.cons (.str _) (.cons (.lst d (by rw[vh];exact Vf _)) .nil))
 |.like e,⟨c,l,a,b,d,_⟩=>by subst a;exact .tup b (.cons (.str _) (.cons (.lst d (by rw[vh];exact Vf _)) .nil))
theorem PB:∀r:Lr,(lrD r).canLay0=Gi
 |.told n=>by simp[lrD,Tv,Gw];decide+kernel
 |.asked=>by simp[lrD,Tv,Gw];decide+kernel
 |.turn n=>by simp[lrD,Tv,Gw];decide+kernel
 |.chain b=>by
  have h:=Vn (b.map λn:Nat=>(n:Int));have a:DM ("chain":TQ)=Gi:=by decide+kernel
  simp only[lrD,Tv,Gw,h,a,SM,LJ]
 |.like b=>by
  have h:=Vn (b.map λn:Nat=>(n:Int));have a:DM ("like":TQ)=Gi:=by decide+kernel
  simp only[lrD,Tv,Gw,h,a,SM,LJ]
noncomputable def ltD(l:Lt):DO:=.tuple [l.1.toD,l.2.1.toD,lrD l.2.2]
theorem ji.dts{L:Gd}{d:List V}{b:List Lt}(h:ji H L d b):hH H d (b.map ltD)/\Gw (b.map ltD)=Gi:=by
 have o:=h.pr;have a:=h.good;clear h;induction o with
 |nil=>exact{.nil,1}
 |@cons v l w b h r n=>have(k,m):=n λl i=>a l (Gr _ i);have(c,t,u,s,rfl,g,p,q,j,_):=h;have(e,f):=a l Tc;exists .cons (.tup g (.cons p.dt (.cons q.dt (.cons (Q4i j) .nil)))) k;rw[Tp];simp only[Gw,ltD,Tv,Wf _ e.1,Wf _ f.1,PB,m,SM,LJ]
inductive wt(vs:List V)(H:Hp)(Q:VK):Prop
 |mk (a:Gd) (L:Gd) (us:List V) (lv:List V) (o1:V) (o2:V) (pq:V) (tl:Tl) (pr:Option (Th×Th)) (ls:List Lt) (x:Th) (y:Th) (r:Lr) (h0:vs=[.ref a,.ref L,o1,o2,pq]) (h1:H a=Ga (.lst us)) (h2:Um H us tl) (h3:iw tl) (h4:tl.length<=1000) (h5:ji H L lv ls) (h6:mr tl pr ls) (h7:lH H pq pr) (h8:Z7 H o1 x) (h9:Z7 H o2 y) (h10:ls.getLast?=Ga (x,y,r)) (h11:∀H':Hp,Q9 H H'->Q (.bl Gi) H'):wt vs H Q
def wD:Sp:=λa H Q _=>wt a H Q
theorem xN:Q8 ["_law_told","_law_lines","_law_one","_law_other","_law_pair","_law_k","_law_line"] ["_law_told","_law_lines","_law_one","_law_other","_law_pair"] (Qo jh):=by eq_refl
theorem XU{aa C B:Gd}{fd dT dF:Do}(F:Wg K "_law_lines_show" "_law_lines_show" jh aa fd)(b:hO mg)
  (Y:Q3 P w K mg base Ya 1 C dT ["_law_found"] Ko)(kT:KI K C)(Z:zk K dT ["_law_found"] [])(mT:MG mg "_law_is_thing" C)
  (GF:Q3 P w K mg base Ya 2 B dF ["_law_told","_law_lines","_law_k","_law_pair"] xC)(kF:KI K B)(bF:zk K dF ["_law_told","_law_lines","_law_k","_law_pair"] [])(mF:MG mg "_law_line_follows" B):
  Q3 P w K mg base Ya 3 aa fd ["_law_told","_law_lines","_law_one","_law_other","_law_pair"] wD:=by
 refine F.ok xN (λr v p o G=>?_) (λO N S s v r p o I G=>?_)
 .obtain⟨a,j,us,f,o1,o2,L,tl,pr,e,x,y,M,rfl,_⟩:=G;rfl
 have(a,j,us,f,o1,o2,L,tl,pr,e,x,y,M,rfl,ha,aj,ai,af,d,hg,ag,hx,hy,H,q):=G;have nd:=xN.nd;have J:=I.units;have ac:Yl 1 _:=I.mono (by ext);show∃t,W0 ?my _ t/\_;let an:Xk ?my jh 2:={_,Qg (Qt (lR (Vh (U1 J) (Qn Qs (Qn Zd {1} (Js Ud Qi)) Qi) {2} (Qu _)) (kM (Vh (U1 J) (Qn Qs (Qn Zd {1} (Js Ud Qi)) Qi) {3} (Qu _)))))}
 let ao:Subtype (W0 ?my (sub [1,0,4] (Zs jh))):={_,Qc (Zb (Qp Wh (Qm Zc rfl b.len GX (Qa (Qn Qs {6} Qi) Qd)) (Zf Rm Qi (X0 ZL rfl b.int Ff (Qa (Vh Xu (Qn Qs (Qn Qs {6} Qi) Qi) Zh (Qu _)) Qd))) (Qu _)) (Qg (Qt Z9)) Qw) (Qg (Zb (Yk (Z1 (Za GF I rfl mF kF bF .nil Q5 (Qa {0} (Qa {1} (Qa {5} (Qa {4} Qd))))))) (Qg (Qt Z9)) Qw))}
 let ap:Subtype (W0 ?my (sub [1,0,3] (Zs jh))):={_,Qc (Zb (Yk (Z1 (Qm Zx rfl b.isinstance GY (Qa (Qn Qs (Qn Qs {6} Qi) Qi) (Qa (Z8 (v:=.ty "str") rfl b.str EO Xb) Qd))))) (Qg (Qt Z9)) Qw) ao.2}
 let aq:Subtype (W0 ?my (sub [1,0,2] (Zs jh))):={_,Qc (Zb (PW.pt (Yv (Yk (Z1 (Za Y ac rfl mT kT Z .nil Q5 (Qa (Qn Qs {6} Qi) Qd)))) (Yv (Yk (Z1 (Za Y ac rfl mT kT Z .nil Q5 (Qa (Qn Qs {6} Qi) Qd)))) (Xe (Qp Xu (Qm Zc rfl b.len GX (Qa (Qn Qs {6} Qi) Qd)) Qi (Qu _)))))) (Qg (Qt Z9)) Qw) ap.2}
 let ar:Subtype (W0 ?my (sub [1,0,1] (Zs jh))):={_,Qc (Zb (PW.pt (Yv (Yk (Z1 (Qm Zx rfl b.isinstance GY (Qa {6} (Qa (Z8 (v:=.ty "tuple") rfl b.tuple Di Xb) Qd))))) (Yv (Qp Wh (Qm Zc rfl b.len GX (Qa {6} Qd)) Qi (Qu _)) (Xe (Yk (Z1 (Qm Zx rfl b.isinstance GY (Qa (Qn Qs {6} Qi) (Qa (Z8 (v:=.ty "tuple") rfl b.tuple Di Xb) Qd))))))))) (Qg (Qt Z9)) Qw) aq.2}
 let au:Xk ?my jh 1:={_,Qc (Yb Tj rfl (V4 rfl b.range (Qa (Qm Zc rfl b.len GX (Qa {1} Qd)) Qd)) (Z5 5 nd) (Qc (Qz 6 nd (Qn Zd {1} {5})) ar.2)) an.2}
 exists _,Qc (Zb (PW.pt (Yv (Yk (Z1 (Qm Zx rfl b.isinstance GY (Qa {1} (Qa (Z8 (v:=.ty "list") rfl b.list T9 Xb) Qd))))) (Xe (Qp (U1 J) {1} (Zt Qd) (Qu _))))) (Qg (Qt Z9)) Qw) au.2;have am:f.length=e.length:=GQ d.pr;have l9:=d.len;have ab:e≠[]:=λz=>by rw[z]at H;cases H
 have aw:0<e.length:=LG.mpr ab;have(av,ak):=d.dts;refine{032,Gi,1,.lst d.at_,jG,Gi,1,Q4 ?_};refine{0,Tu _,λz hz=>?_};have n:=Qf hz (.lst []);exists .list (e.map ltD),.list [],.lst (n _ _ d.at_) (d.same n).dts.1,.lst Qb .nil,by simp only[Tv];exact ak,by simp[Tv,Gw],?_,_,Xb
 .simp only[Dw,TV];ext
 have ev:TW (.list (e.map ltD)) (.list [])=Gx:=by
  simp only[TW];rw[U2];cases e with
  |nil=>exact absurd rfl ab
  |cons t M=>simp
 rw[ev];refine Q4 ?_;generalize zj v z (.lst [])=H1 at n;refine⟨_,Xb,_,_,Xb,.inl {_,Qk (n _ _ d.at_),1},_,Xb,by ext,by ext,Ua (lo:=0) (n:=((f.length:Int)).toNat) (λi X A=>∃T U:Option V,X=[Ga (.ref a),Ga (.ref j),Ga o1,Ga o2,Ga L,T,U]/\Q9 v A)
  {30,n} ?_ ?_⟩
 .rintro i X A hi ⟨T,U,rfl,h⟩;have hi:i<e.length:=by ext
  have l:=d.same h;subst_vars;obtain⟨u,m⟩:∃u,f[i]?=Ga u:={_,Ge (by ext)};have((S,W,r'),k,c,v1,v2,rv,rfl,g,Q,R,ae,_):=Qy l.pr m;have(D,E):=d.good _ (Gc k);have(rc,wd,X8,rfl,ad,ah):=ae.Q8y;and_intros;exists 00,j,f,301,Qk l.at_,(by rw[Si];exact Zk m);refine{032,Gi,1,.tup g,Im,Gi,1,Q4 ?_};exists 030,.inr {_,Qj g,1},10;rw[Ti (by rfl)];refine Q4 ?_;refine{0,c,201,Qj g,Rw,32,Gi,1,.tup ad,Im,Gi,1,Q4 ?_};refine{0,c,201,Qj g,Z6,v1,S,1,Q,D,λH3 N=>{Gi,1,Q4 ?_}};refine{0,c,201,Qj (N _ _ g),Xv,v2,W,1,R.same N,E,λH4 s4=>{Gi,1,Q4 ?_}};have O:=N.trans s4;have p:=O _ _ g;have r:=O _ _ ad;exists 0,c,201,Qj p,Rw,30,.inr {_,Qj r,1},10;rw[Td (show¬V.int (((V.str wd::X8).length:Nat):Int)=V.int 0 by rw[TB];intro z;injection z with z;ext)];refine Q4 ?_;refine{0,c,201,Qj p,Rw,rc,201,Qj r,Z6,32,Gi,1,.str _,R5,Gi,1,Q4 ?_};refine{0,c,201,Qj p,Rw,30,.inr {_,Qj r,1},0,c,201,Qj p,Rw,rc,201,Qj r,Z6,1,.inr {030110,?_}};rw[Ti (by rw[ah])];refine Q4 ?_;have o:=h.trans O;refine{0000,a,j,us,f,L,tl,pr,e,i,S,W,r',(by rw[Si];rfl),o _ _ ha,aj.Qv (Q7.of o),ai,af,d.same o,ag.same o,k,hg i S W r' k,λH5 s5=>{Gi,1,Q4 ?_}};exact{30,o.trans s5}
 .rintro X A ⟨T,U,rfl,h⟩;have l:=d.same h;have k:e[e.length - 1]?=Ga (x,y,M):=by rw[<-List.getLast?_eq_getElem?];exact H
  subst_vars;obtain⟨u,m⟩:∃u,f[e.length - 1]?=Ga u:={_,Ge (by ext)};have(r,p,c,v1,v2,rv,rfl,g,Q,R,ae,_):=Qy l.pr m;and_intros;rw[k]at p;cases p;have(D,E):=d.good _ (Gc k);have o:Oh f (-1)=Ga (.ref c):=PD (by rw[am];exact m);refine{00,j,f,301,Qk l.at_,o,c,201,Qj g,Z6,0,pe Q (hx.same h) D {Gi,1,Yp ?_}};exact{00,j,f,301,Qk l.at_,o,c,201,Qj g,Xv,0,pe R (hy.same h) E (q _ h)}
end
end K06
namespace L2
open PySem PySem.Spec PyProof.Rows
inductive uE(P:Gn)(w:Tg)(x:V)(vs:List V)(H:Hp)(Q:VK):Prop
 |mk (d:_) (b:_) (dv:_) (zw:_) (k:_) (h0:x=.ref d) (h1:vs=[.ref b,dv]) (h2:DH P w H d zw) (h3:iu H b k) (h4:Q ((Yt zw k).getD dv) H):uE P w x vs H Q
def uL(P:Gn)(w:Tg):V->List V->Hp->VK->Prop:=λx a H Q=>uE P w x a H Q
theorem tE{X:Cx}(a:X.A.units+64<EY):iO X "dict.get" (uL X.prog X.w):=by
 intro i s C H x B v A Q I t r h;have(d,b,j,c,k,rfl,rfl,D,m,q):=h;cases(show v=Tk d from t);have(u,w,rfl,n,o):=vals2 r;cases(show u=Tk b from n);have(z,l,f,e,g):=jU I D.at_ D.keys;refine MZ F.slot_dict_get g.typeIs F.entry_dict_get (F.args_dict_get_3 _ _ _) (meetsH_dict_get_default (V3 X.prog X.w) d b l w) {by first|(show X.A.units+1+10<EY;ext)|(show X.A.units+1+1+10<EY;ext),k,f,m.is I,g,?_};have a:=e.val k;cases q1:Yt c k with
 |some y=>
  rw[q1]at a q;cases q2:atKey f k with
  |none=>rw[q2]at a;exact(show False from a).elim
  |some p=>rw[q2]at a;exact{y,H,I.tok _,a,q}
 |none=>
  rw[q1]at a q;cases q2:atKey f k with
  |some p=>rw[q2]at a;exact(show False from a).elim
  |none=>exact{j,H,I.tok _,o,q}
end L2
namespace K06
open PySem L2 Sb
variable{H:Hp}{rs:List Row}{n:Nat}{f fH f0 fS:Gd}{fd dH dS:Do}{v:V}{r:Row}{tl:Tl}
structure jK(H:Hp)(R:Gd)(es:List V)(rs:List Row):Prop where
 at_:H R=Ga (.lst es)
 pr:Dg (Uz H iv) es rs
 len:rs.length<=100000
 ok:∀r∈rs,DM r.1=Gi
 few:∀r∈rs,r.2.1.length<=1000
 nd:(rs.map λr=>(r.1,r.2.1)).Nodup
theorem jK.same{a:Hp}(e:Q9 H a){R:Gd}{b:List V}(h:jK H R b rs):jK a R b rs:=
 {e _ _ h.at_,Qr h.pr λ_ _ h=>h.kp (λh=>e _ _ h) (λh _=>e _ _ h),h.len,h.ok,h.few,h.nd}
structure rz(S:List Th)(L:Th->Nat)(rs:List Row):Prop where
 cl:∀t∈S,∀p∈t.parts,p∈S
 good:∀t∈S,t.good
 mem:∀t∈S,(t.word,t.parts.map L,L t)∈rs
inductive uy(vs:List V)(H:Hp)(Q:VK):Prop
 |mk (R:Gd) (v:V) (es:List V) (rs:List Row) (S:List Th) (L:Th->Nat) (t:Th) (h0:vs=[.ref R,v]) (h1:jK H R es rs) (h2:rz S L rs) (h3:t∈S) (h4:Z7 H v t) (h5:∀H':Hp,Q9 H H'->Q (jv (L t)) H'):uy vs H Q
def AW:Sp:=λa H Q _=>uy a H Q
inductive jj(P:Gn)(w:Tg)(H:Hp)(d:Gd)(n:Nat)(S:Th->Prop)(L:Th->Nat):Prop
 |mk (zw:List KE) (h0:zw.length<=n) (h1:H d=Ga (Uv P w d zw)) (h2:Jg H zw) (h3:∀t,S t->Yt zw (kd t)=Ga (jv (L t))):jj P w H d n S L
theorem jj.same{P:Gn}{w:Tg}{b:Hp}(e:Q9 H b){d:Gd}{S:Th->Prop}{L:Th->Nat}(h:jj P w H d n S L):jj P w b d n S L:=by have(a,c,f,g,i):=h;exact{a,c,e _ _ f,Zp (Q7.of e) g,i}
theorem jj.set{P:Gn}{w:Tg}{d b:Gd}{S:Th->Prop}{L:Th->Nat}{t:Th}{Q:Hp->Prop}(N:jj P w H d n S L)(c:n<=1000000)(ok:t.ok=Gi)(j:t.depth<=8)(h:Z7 H (.ref b) t)
  (q:∀c,(∀e o,H e=Ga o->e≠d->c e=Ga o)->jj P w c d (n+1) (λu=>S u\/u=t) L->Q c):m8 P w (.ref d) (.ref b) (jv (L t)) H Q:=by
 have(a,c,f,g,k):=N;have i:=jE h ok j;refine{d,b,kd t,a,11,⟨f,g⟩,i,by rw[TJ];ext,q _ (λe o h c=>by rw[Qh c];exact h) ?_};have m:Q7 H (zj H d (Uv P w d (Vo a (kd t) b (jv (L t))))):=Z2 λp e=>by rw[f]at e;cases e
 refine{_,DA (ng _ _ _ _) (by ext),Qb,Zp m (g.put i),λu l=>?_};rw[J2];by_cases e:u=t
 .subst e;exact GV rfl
 .rw[Gs (λz=>e (lC z))];exact k u (l.resolve_right e)
theorem WE{w:TQ}{ns:List Nat}(nd:(rs.map λr=>(r.1,r.2.1)).Nodup)(h:(w,ns,n)∈rs):(rs.filter λr=>decide (r.1=w)).filter (λr=>decide (r.2.1=ns))=[(w,ns,n)]:=by
 induction rs with
 |nil=>cases h
 |cons r rs a=>
  rw[Tp,Dy]at nd;have(c,d):=nd;rcases Tf.mp h with z|z
  .subst z;have Gq:(rs.filter λr=>decide (r.1=w)).filter (λr=>decide (r.2.1=ns))=[]:=by rw[List.filter_filter,List.filter_eq_nil_iff];intro r b e;simp only[T5,decide_eq_true_eq]at e;exact c (Tw.mpr {r,b,by rw[<-e.1,<-e.2]})
   rw[Sa (by simp),Sa (by simp),Gq]
  .have a:=a d z;by_cases e:r.1=w
   .rw[Sa (by simp[e])];rw[S0,a];intro b;have b:r.2.1=ns:=Du b;exact c (Tw.mpr {(w,ns,n),z,by rw[<-e,<-b]})
   .rw[S0 (by simp[e])];exact a
theorem Pd:(["_law_inner","_law_values"]:List TQ).Nodup:=by decide+kernel
theorem Q4w:(["_law_row","_law_part"]:List TQ).Nodup:=by decide+kernel
theorem Q6i:(["_law_row","_law_numbers"]:List TQ).Nodup:=by decide+kernel
theorem R9(a:List Nat):a.map jv=(a.map λn:Nat=>(n:Int)).map V.int:=by rw[Dj];rfl
theorem zX{a b:List Nat}:(a.map λn:Nat=>(n:Int))=(b.map λn:Nat=>(n:Int))↔a=b:=by
 constructor
 .intro h;have back:∀l:List Nat,(l.map λn:Nat=>(n:Int)).map E9=l:=λl=>by rw[Dj];exact(TX (λn _=>Er n)).trans (Fq l)
  rw[<-back a,h,back b]
 .rintro rfl;rfl
section
variable{P:Gn}{w:Tg}{K:Gf}{mg:TQ->Option Gj}{base:Heap}
theorem tF:Q8 ["_law_rows","_law_thing","_law_order","_law_todo","_law_part","_law_values","_law_numbers","_law_near","_law_found"] ["_law_rows","_law_thing"] (Qo V7):=by eq_refl
theorem YP(F:Wg K "_law_number_in" "_law_number_in" V7 f fd)(aD:hO mg):Q3 P w K mg base Ya 1 f fd ["_law_rows","_law_thing"] AW:=by
 refine F.ok tF (λvs Q bd bc v=>?_) (λbz bx bB s Q vs bd bc hr v=>?_)
 .obtain⟨R,aj,es,I,S,A,t,rfl,_⟩:=v;rfl
 have(R,aj,es,I,S,A,t,rfl,hR,W,tS,hv,q):=v;have U:=tF.nd;have H:=hr.units;have gt:=W.good t tS;have bC:=gt.2.2;have be:es.length=I.length:=GQ hR.pr;have bA:=hR.len;show∃t,W0 ?my _ t/\_;let bg:Subtype (W0 ?my (sub [4,0,3] (Zs V7))):={_,Qg (Zb (PW.pt (Ii (Qp Xu (Qm Zc rfl aD.len GX (Qa {8} Qd)) Qi (Qu _)) (Jk (Qp (WB H) (Js Ud Qi) {6} rfl)))) (Qg (Rk (Qn Zd {8} Qi) (ke {5} {4} (kj H)))) Qw)}
 let bh:Subtype (W0 ?my (sub [4,0,2] (Zs V7))):=⟨_,Qc (U3 (i:=8) (own:=["_law_row"]) (fv:=[(6,"_law_numbers")]) U rfl rfl rfl (S:=(by eq_refl:Wb (Qo V7) _)) (.cons rfl (DX Xb) rfl .nil) (Yh {7})
   (λ_ _ _ _ _=>Yz (i:=0) Q6i rfl (DX Xb) (Sq Xb)) (λ_ _ _ _ _=>n9 (Qp (U1 H) (Qn (r:=jw K) Qs {0} Qi) {1} (Qu _))) (λ_ _ _ _ _=>(Qn (r:=jw K) Qs {0} Qi))) bg.2⟩
 let bi:Subtype (W0 ?my (sub [4,0,1] (Zs V7))):=⟨_,Qc (U3 (i:=7) (own:=["_law_row"]) (fv:=[(4,"_law_part")]) U rfl rfl rfl (S:=(by eq_refl:Wb (Qo V7) _)) (.cons rfl (DX Xb) rfl .nil) (Yh {0})
   (λ_ _ _ _ _=>Yz (i:=0) Q4w rfl (DX Xb) (Sq Xb)) (λ_ _ _ _ _=>n9 (Qp Xu (Qn (r:=jw K) Qs {0} Qi) (Qn (r:=jw K) Qs {1} Qi) (Qu _))) (λ_ _ _ _ _=>{0})) bh.2⟩
 let bj:Subtype (W0 ?my (sub [4,0] (Zs V7))):=⟨_,Qc (V5 (i:=6) U rfl (Sq Xb) (Ug (te:=zi P w (uL P w) (Ul 1) (jx (Ul 0) (jx (tUn (rU λi=>.int (-i)) (tC (.int 1))) jB))) (own:=["_law_inner"]) (fv:=[(5,"_law_values")]) rfl (S:=(by eq_refl:Wb (Qo V7) _)) (.cons rfl (DX Xb) rfl .nil) (Jd (Z3 V9 {4} (Yd Qi) Yu))
   (λ_ _ _ _ _=>Yz (i:=0) Pd rfl (DX Xb) (Sq Xb)) (λ_ _ _ _ _=>Wk) (λ_ _ _ _ _=>(rC Nk Nl (tE H) {1} (Qa {0} (Qa (Js Ud Qi) Qd)))))) bi.2⟩
 let bk:Xk ?my V7 4:={_,Qc (Yb Tj rfl (xj rfl aD.reversed (Qa {2} Qd)) (Yz (i:=4) U rfl (Sq Xb)) bj.2) (Qg (Qt (rC Nk Nl (tE H) {5} (Qa {1} (Qa (Js Ud Qi) Qd)))))}
 let bl:Subtype (W0 ?my (sub [2,0,1] (Zs V7))):={_,Qc (Zl (X6 Te Tx TC Z4 {2} (Qa {4} Qd))) (Qg (Qz 3 U (Zf Wc {3} (X0 Ut rfl aD.list T9 (Qa (Z3 V9 {4} (Yd Qi) Yu) Qd)))))}
 let bm:Xk ?my V7 2:={_,Qc (Ww Tj (Qp (jO H) {3} (Zt Qd) (Qu _)) (Qc (V5 (i:=4) U rfl (Sq Xb) (O0 Te Et Eu O3 {3})) bl.2)) (Qc (V5 (i:=5) U rfl (Sq Xb) Rn) bk.2)}
 exists _,Qc (Qz 2 U (Zt Qd)) (Qc (Qz 3 U (Zt (Qa {1} Qd))) bm.2);refine{Tu _,λB ho=>?_};have s2:=Qf ho (.lst []);refine{0,Wz,λm hl=>?_};have s3:=Qf hl (.lst [aj]);have aC:=s2.trans s3;have am:B≠m:=Qe Qb hl;have aN:Q m=Gq:=s2.free hl;exists λaP o J=>i0 λ(m:Gd)(ov xs:List V)(e l:List Th)(x4:Option V)=>lr (o=[Ga (.ref R),Ga aj,Ga (.ref B),Ga (.ref m),x4,Gq,Gq,Gq,Gq]) (Q9 Q J) (Q m=Gq) (B≠m) (J B=Ga (.lst ov)) (J m=Ga (.lst xs)) (Zy J ov e) (Zy J xs l) (∀u∈e,u∈S) (∀u∈l,u∈S) (t∈e\/t∈l) (∀(i:Nat)w a,e[i]?=Ga (Th.mk w a)->∀p∈a,(∃j:Nat,i<j/\e[j]?=Ga p)\/p∈l) (aP=Q6 l) (e.length+Q6 l<=1000),
  {_,m,[],[aj],[],[t],Gq,1,aC,aN,am,s3 _ _ Qb,Qb,.nil,.one (hv.same aC),(λu H=>nomatch H),λu H=>by rw[Tb]at H;subst H;exact tS,.inr Tc,λi w a b=>by simp at b,1,by simp[Q6];ext}
 clear s3 aC am aN hl;rintro aP o J ⟨m,ov,xs,e,l,x4,rfl,sm,hl,am,go,gl,aO,aT,fO,fT,aQ,Xt,rfl,sz⟩;have lx:=aT.length;have lo:=aO.length;have lT:=Zj l;refine{0,Tu _,λz hz=>?_};have s4:=Qf hz (.lst []);exists .list (X9 l),.list [],.lst (s4 _ _ gl) (aT.same s4).dts,.lst Qb .nil,by simp only[Tv];exact lj l (by rw[Us,EW];exactλu H=>(W.good u (fT u H)).1),by simp[Tv,Gw],?_,_,Xb
 .simp only[Dw,TV];ext
 have ev:TW (.list (X9 l)) (.list [])=l.isEmpty:=by
  simp only[TW];rw[U2];cases l with
  |nil=>simp[X9]
  |cons t r=>simp[X9]
 rw[ev];rcases Su l with rfl|⟨Tr,u,eT⟩
 .refine Q4 ?_;have tO:t∈e:=aQ.resolve_right (by simp);have Xt:∀(i:Nat)w a,e[i]?=Ga (Th.mk w a)->∀p∈a,∃j:Nat,i<j/\e[j]?=Ga p:=λi w a b p L=>(Xt i w a b p L).resolve_right (by simp);have ah:=sm.trans s4;have ay:=s4 _ _ go;have aK:=aO.same s4;generalize zj J z (.lst [])=H3 at ah ay aK⊢;intro d hd;have s5:=Qf hd (Uv P w d []);have aM:Q d=Gq:=ah.free hd;have aL:=s5 _ _ ay;have a9:=aK.same s5;have ba:B≠d:=Qe ay hd;have bw:e.length<=1000:=by ext
  let bb:Nat->St->Hp->Prop:=λk o C=>iC λ(x4 x6 x7 x8:Option V)=>mJ (o=[Ga (.ref R),Ga aj,Ga (.ref B),Ga (.ref m),x4,Ga (.ref d),x6,x7,x8]) (Of d (zj H3 d (Uv P w d [])) C) (jj P w C d k (λu=>u∈e.reverse.take k) A)
  refine⟨_,Xb,B,ov,Xb,Qk aL,va (K:=K) (a:=B) (xs:=ov) bb
   {320,Of.refl,[],GJ _,Qb,(λp L=>nomatch L),by simp} (by rintro k o C _ ⟨_,_,_,_,_,T,_⟩;exact Qk (T _ _ aL ba)) ?_ ?_⟩
  .rintro k x o C hk ⟨x4,x6,x7,x8,rfl,T,N5⟩;have a1:k<ov.length:=by have:=(Gg.mp hk).1;simpa using this
   have hx:∃u,e.reverse[k]?=Ga u/\Z7 (zj H3 d (Uv P w d [])) x u:=by rw[EN a1]at hk;have(u,e1,e2):=a9.get hk;refine{u,?_,e2};rw[EN (by ext),<-lo];exact e1
   subst_vars;have(u,eu,hx):=hx;have tu:Q7 (zj H3 d (Uv P w d [])) C:=T.Qv Qb (λxs z=>by cases z);have aH:=hx.Qv tu;have fu:=fO u (SW.mp (Gc eu));have(ag,h,us,a,rfl,rfl,hb,an):=aH.inv;and_intros;have aZ:∀p∈a,p∈S:=W.cl _ fu;have gu:=W.good _ fu;have a7:∀p∈a,p∈e.reverse.take k:=λp L=>by
    have e1:e[e.length - 1 - k]?=Ga (Th.mk h a):=by rw[EN (by ext)]at eu;exact eu
    have(j,hj,ej):=Xt _ _ _ e1 p L;have aY:j<e.length:=(Gg.mp ej).1;have e2:e.reverse[e.length - 1 - j]?=Ga p:=by rw[EN (by ext)];rw[show e.length - 1 - (e.length - 1 - j)=j by ext];exact ej
    have E:(e.reverse.take k)[e.length - 1 - j]?=Ga p:=by rw[DS (by ext)];exact e2
    exact Gc E
   have bf:a.length<=3000:=by have M:=Zj a;have N:=gu.2.2;simp only[Th.size]at N;ext
   have a4:=an.length;refine{00,ag,0,Qj hb,Wm _ _,λr hr=>?_};rw[iH];have s6:=Qf hr (.tup us);refine{r,1,{_,Qj Qb},λp L=>?_};refine Ib (K:=K) (a:=r) (xs:=us) (small (by ext)) (λi g o G=>(∃O,o=[O,Ga (.ref d)])/\g=((a.take i).map A).map jv/\G=zj (zj C r (.tup us)) p (.lst g)) {{40},by simp,1} (by rintro i g o G _ ⟨_,_,b⟩;exact Qj (by rw[b];exact Qf L _ _ _ Qb)) ?_ ?_
   .rintro i y g o G hi a3 ⟨⟨O,rfl⟩,rfl,rfl⟩ aw;subst_vars;have(E,aa,hy):=an.get hi;have(b',_,_,_,rfl,_,_,_):=hy.inv;have s7:=s6.trans (Qf L (.lst (((a.take i).map A).map jv)));have(ab,h0,M,N,h3):=N5.same s7;and_intros;have af:=W.good E (aZ E (Gc aa));exists 0,⟨d,ab,Xb,M⟩,00,d,b',_,ab,kd E,11,⟨M,N⟩,jE (hy.same s7) af.1 af.2.1;rw[h3 E (a7 E (Gc aa))];refine{aw,{40},?_,by rw[Vq]};rw[TF,aa];simp
   rintro g o G a3 ⟨_,rfl,rfl⟩ aF;rw[a4,Tz]at aF⊢;have ak:=s6.trans (Qf L (.lst ((a.map A).map jv)));generalize zj (zj C r (.tup us)) p (.lst ((a.map A).map jv))=G at*;have a8:Q9 Q G:=λc o' v=>ak _ _ (T _ _ ((ah.trans s5) _ _ v) (Qe v aM));have aq:=hR.same a8;have aE:=ak _ _ hb;have N6:=N5.same ak;have bu:(es.length<=100000):=by ext
   refine{0,R,1,{_,Qk aq.at_},λp2 au=>?_};refine R3 (K:=K) (a:=R) (xs:=es) (small (by ext)) (λi g o X=>(∃O,o=[O,Ga (.ref ag)])/\Dg (Uz G iv) g ((I.take i).filter λr=>decide (r.1=h))/\X=zj G p2 (.lst g)) {{40},by simp;exact .nil,1} (by rintro i g o X _ ⟨_,_,b⟩;exact Qk (by rw[b];exact Qf au _ _ _ aq.at_)) ?_ ?_
   .rintro i y g o X hi ⟨⟨O,rfl⟩,py,rfl⟩ ae;subst_vars;have(D,er,c,l',rfl,hc,ar,_):=Qy aq.pr hi;and_intros;have Y:=Qf au (.lst g);exists 0,c,201,Qj (Y _ _ hc),Z6,0,ag,201,Qj (Y _ _ aE),Z6,10;have et:I.take (i+1)=I.take i++[D]:=by rw[TF,er];rfl
    by_cases b:D.1=h
    .rw[Ti (show V.str D.1=V.str h by rw[b])];refine Yp {0,ae,{40},?_,by rw[Vq]};rw[et,Lf,Sa (by simp[b])];exact Zq py (.cons ⟨c,l',Xb,hc,ar,id⟩ .nil)
    .rw[Td (show¬V.str D.1=V.str h fromλz=>b (by injection z))];refine Q4 {ae,{40},?_,1};rw[et,Lf,S0 (by simp[b])];simpa using py
   rintro g o X ⟨_,py,rfl⟩ ae;rw[be,Tz]at py;have ad:=Qf au (.lst g);have aI:Dg (Uz (zj G p2 (.lst g)) iv) g (I.filter λr=>decide (r.1=h)):=Qr py λ_ _ v=>v.kp (λv=>ad _ _ v) (λv _=>ad _ _ v);have aG:=ad _ _ aF;have a0:=ad _ _ aE;have N7:=N6.same ad;generalize zj G p2 (.lst g)=X at*;have a5:g.length=(I.filter λr=>decide (r.1=h)).length:=GQ aI;have bv:=Nj (λr:Row=>decide (r.1=h)) I;refine{0,p2,1,{_,Qk ae},λp3 av=>?_};refine R3 (K:=K) (a:=p2) (xs:=g) (small (by ext)) (λi Z o H8=>(∃O,o=[O,Ga (.ref p)])/\Z=((((I.filter λr=>decide (r.1=h)).take i).filter λr=>decide (r.2.1=a.map A)).map λr=>jv r.2.2)/\H8=zj X p3 (.lst Z)) {{40},by simp,1} (by rintro i Z o H8 _ ⟨_,_,b⟩;exact Qk (by rw[b];exact Qf av _ _ _ ae)) ?_ ?_
   .rintro i y Z o H8 hi ⟨⟨O,rfl⟩,rfl,rfl⟩ ac;subst_vars;have(D,er,c,l',rfl,hc,ar,_):=Qy aI hi;and_intros;generalize E:((((I.filter λr=>decide (r.1=h)).take i).filter λr=>decide (r.2.1=a.map A)).map λr=>jv r.2.2)=Z at*;have Y:=Qf av (.lst Z);exists 0,c,201,Qj (Y _ _ hc),Xv,0,.list ((D.2.1.map λn:Nat=>(n:Int)).map Ei),.list (((a.map A).map λn:Nat=>(n:Int)).map Ei),.lst (Y _ _ ar) (by rw[R9];exact Vf _),.lst (Y _ _ aG) (by rw[R9];exact Vf _),by simp only[Tv];exact Vn _,by simp only[Tv];exact Vn _,?_,_,Xb
    .have:=Iw (D.2.1.map λn:Nat=>(n:Int));simp only[Dw];ext
    have ee:TW (.list ((D.2.1.map λn:Nat=>(n:Int)).map Ei)) (.list (((a.map A).map λn:Nat=>(n:Int)).map Ei))=decide (D.2.1=a.map A):=by simp only[TW];rw[oo];exact decide_eq_decide.mpr zX
    rw[ee];have et:(I.filter λr=>decide (r.1=h)).take (i+1)=(I.filter λr=>decide (r.1=h)).take i++[D]:=by rw[TF,er];rfl
    by_cases b:D.2.1=a.map A
    .rw[Ti b];refine Yp {0,c,201,Qj (Y _ _ hc),Rw,ac,{40},?_,by rw[Vq]};rw[et,Lf,Sa (by simp[b]),TY,E];rfl
    .rw[Td b];refine Q4 {ac,{40},?_,1};rw[et,Lf,S0 (by simp[b])];simpa using E.symm
   rintro Z o H8 ⟨_,rfl,rfl⟩ ac;have a6:(((((I.filter λr=>decide (r.1=h)).take g.length).filter λr=>decide (r.2.1=a.map A)).map λr=>jv r.2.2))=[jv (A (.mk h a))]:=by rw[a5,Tz,WE (w:=h) (ns:=a.map A) (n:=A (.mk h a)) hR.nd (W.mem _ fu)];rfl
   rw[a6]at ac⊢;have al:=Qf av (.lst [jv (A (.mk h a))]);have a2:=al _ _ aG;have bs:=al _ _ a0;have N8:=N7.same al;have aJ:=(ak.trans ad).trans al;generalize zj X p3 (.lst [jv (A (.mk h a))])=H8 at*;exists 030,.inl {_,Qk ac,1},10;rw[Ti (by rfl)];refine Yp ?_;exists 00,.int (-1),((a.map A).map λn:Nat=>(n:Int)).map Ei,.int _,.lst a2 (by rw[R9];exact Vf _),by simp[Tv],Vn _,?_,0
   .simp only[Dw];ext
   have ni:((((a.map A).map λn:Nat=>(n:Int)).map Ei).any λd=>TW d (.int (-1)))=Gx:=by rw[Mn];intro d hd;have(n,hn,rfl):=Tw.mp hd;have(E,_,rfl):=Tw.mp hn;simp[TW]
   rw[ni];refine Yp ?_;refine{0,p3,201,Qk ac,Z6,00,N8.set (by ext) gu.1 gu.2.1 (aH.same aJ) λH9 b9 N9=>?_};exists 320,λc o' M N=>b9 _ _ (aJ _ _ (T _ _ M N)) N;subst_vars;have(ab,h0,M,N,h3):=N9;and_intros;refine{ab,h0,M,N,λu' ai=>h3 u' ?_};rw[TF,eu]at ai;rcases Gh.mp ai with z|z
   .exact .inl z
   .exact .inr (by simpa using z)
  .rintro o C ⟨x4,x6,x7,x8,rfl,T,N5⟩;have tu:Q7 (zj H3 d (Uv P w d [])) C:=T.Qv Qb (λxs z=>by cases z);subst_vars;have(ag,_,_,_,rfl,_,_,_):=hv.inv;have g:t∈e.reverse.take ov.length:=by rw[lo,<-SS,Tz];exact SW.mpr tO
   have(ab,h0,M,N,h3):=N5;and_intros;exists 0,⟨d,ab,Xb,M⟩,00,d,ag,_,ab,kd t,11,⟨M,N⟩,jE ((hv.same (ah.trans s5)).Qv tu) gt.1 gt.2.1;rw[h3 t g];exact q C λb o' v=>T _ _ (s5 _ _ (ah _ _ v)) (Qe v aM)
 .have eT:l=Tr++[u]:=by simpa using eT
  subst eT;have aV:(Tr++[u]).isEmpty=Gx:=by cases Tr<;>rfl
  rw[aV];refine Yp ?_;subst_vars;have(g,x,rfl,O,T):=Ih aT;and_intros;have az:Q6 (Tr++[u])=Q6 Tr+u.size:=by rw[Xi];simp[Q6]
  rw[az]at sz;have bn:=R0 u;have uS:=fT u (by simp);exists λaB D=>∃m',m'<Q6 (Tr++[u])/\i0 λ(m:Gd)(ov xs:List V)(e l:List Th)(x4:Option V)=>lr (aB=[Ga (.ref R),Ga aj,Ga (.ref B),Ga (.ref m),x4,Gq,Gq,Gq,Gq]) (Q9 Q D) (Q m=Gq) (B≠m) (D B=Ga (.lst ov)) (D m=Ga (.lst xs)) (Zy D ov e) (Zy D xs l) (∀u∈e,u∈S) (∀u∈l,u∈S) (t∈e\/t∈l) (∀(i:Nat)w a,e[i]?=Ga (Th.mk w a)->∀p∈a,(∃j:Nat,i<j/\e[j]?=Ga p)\/p∈l) (m'=Q6 l) (e.length+Q6 l<=1000),λaB D v=>v;have aU:(g++[x])[(g++[x]).length - 1]?=Ga x:=by simp
  exists 0,.inl {13,Qk (s4 _ _ gl)},m,301,s4 _ _ gl,aU;rw[SI];have M:Of m J (zj (zj J z (.lst [])) m (.lst g)):=λc B b v=>by rw[Qh v];exact s4 _ _ b
  have l5:(zj (zj J z (.lst [])) m (.lst g)) m=Ga (.lst g):=Qb;generalize zj (zj J z (.lst [])) m (.lst g)=C at M l5⊢;have t5:Q7 J C:=M.Qv gl (λxs b=>by cases b);have aX:Q9 Q C:=λc B b=>M c B (sm _ _ b) (Qe b hl);have Z:=M _ _ go am;exists 0,.inl {13,Qk Z},0,B,ov,01,Z,(by rw[TJ];ext);have N:Of B C (zj C B (.lst (ov++[x]))):=λc o' b v=>by rw[Qh v];exact b
  have o6:(zj C B (.lst (ov++[x]))) B=Ga (.lst (ov++[x])):=Qb;generalize zj C B (.lst (ov++[x]))=G at N o6⊢;have t6:Q7 C G:=N.Qv Z (λxs b=>by cases b);have aA:Q9 Q G:=λc o' b=>N c o' (aX _ _ b) (Qe b ho);have l6:=N _ _ l5 (Ta am);have ap:=t5.trans t6;have O:=O.Qv ap;have T:=T.Qv ap;subst_vars;have(b0,h,E,a,rfl,rfl,aR,an):=T.inv;and_intros;have bq:=an.length;have bf:=Zj a;have br:=O.length;have bp:=Zj Tr;have bo:(Th.mk h a).size=Q6 a+1:=by simp only[Th.size]
  refine{000,b0,0,Qj aR,Wm _ _,λr aW=>?_};rw[iH];have s7:=Qf aW (.tup E);refine{r,E,1,.inr (Qj Qb),λl2 aS=>?_};have s8:=Qf aS (.lst E);refine{m,l2,g,E,11,s8 _ _ (s7 _ _ l6),Qb,small (by ext),λn hn=>?_};have s9:=Qf hn (.lst (g++E));have ao:=s7.trans s8;have X:=ao.trans s9;exists Q6 (Tr++a),by rw[az,Xi];ext,n,ov++[.ref b0],g++E,e++[Th.mk h a],Tr++a,_,Xb,aA.trans X,(aA.trans ao).free hn,?_,X _ _ o6,Qb,((aO.Qv ap).append (.one T)).same X,(O.append an).same X,?_,?_,?_,?_,Xb
  .exact Qe (ao _ _ o6) hn
  .intro u' ai;rcases Gh.mp ai with z|z
   .exact fO u' z
   .rw[Tb]at z;rw[z];exact uS
  .intro u' ai;rcases Gh.mp ai with z|z
   .exact fT u' (Gu _ z)
   .exact W.cl _ uS u' z
  .rcases aQ with z|z
   .exact .inl (Gu _ z)
   .rcases Gh.mp z with z|z
    .exact .inr (Gu _ z)
    .rw[Tb]at z;rw[z];exact .inl (TL _ Tc)
  .intro i w' ax b p L;have Y:(e++[Th.mk h a])[e.length]?=Ga (Th.mk h a):=by simp
   rcases Dh i e.length with hi|hi
   .rw[Tt hi]at b;rcases Xt i w' ax b p L with⟨j,hj,ej⟩|z
    .exact .inl {j,hj,by rw[Tt (Gg.mp ej).1];exact ej}
    .rcases Gh.mp z with z|z
     .exact .inr (Gu _ z)
     .rw[Tb]at z;exact .inl {e.length,hi,by rw[z];exact Y}
   .have:i=e.length:=by have:=(Gg.mp b).1;rw[Gk,Gy]at this;ext
    subst this;rw[Y]at b;cases b;exact .inr (TL _ L)
  .rw[Gk,Gy,Xi];ext
inductive Af(vs:List V)(H:Hp)(Q:VK):Prop
 |mk (R:Gd) (es:List V) (rs:List Row) (h0:vs=[.ref R]) (h1:jK H R es rs) (h2:∀H':Hp,Q9 H H'->Q (.bl Gi) H'):Af vs H Q
def tr:Sp:=λa H Q _=>Af a H Q
inductive lI(H:Hp)(l:Gd)(v:V)(r:Row):Prop
 |mk (c:_) (l':_) (h0:v=.ref c) (h1:H c=Ga (.tup [.str r.1,.ref l'])) (h2:H l'=Ga (.lst (r.2.1.map jv))) (h3:l'≠l):lI H l v r
noncomputable def sgD(r:Row):DO:=.tuple [.str r.1,.list ((r.2.1.map λn:Nat=>(n:Int)).map Ei)]
theorem zP{l:Gd}(h:lI H l v r):Dt H v (sgD r):=by have(c,d,rfl,a,b,_):=h;exact .tup a (.cons (.str _) (.cons (.lst b (by rw[R9];exact Vf _)) .nil))
theorem zH(h:DM r.1=Gi):(sgD r).canLay0=Gi:=by have a:=Vn (r.2.1.map λn:Nat=>(n:Int));simp only[sgD,Tv,Gw,h,a,SM,LJ]
theorem SZ(r:Row):(sgD r).depth<=4:=by have:=Iw (r.2.1.map λn:Nat=>(n:Int));simp only[sgD,Dw,TV];ext
theorem Q4e{l:Gd}{a:List V}(h:Dg (lI H l) a rs):hH H a (rs.map sgD):=by
 induction h with
 |nil=>exact .nil
 |cons h r b=>exact .cons (zP h) b
theorem Qyu(h:∀r∈rs,DM r.1=Gi):Gw (rs.map sgD)=Gi:=by
 induction rs with
 |nil=>rfl
 |cons r rs b=>rw[Tp];simp only[Gw,zH (h r Tc),b λr a=>h r (Gr _ a),LJ]
theorem WI{b:Row}(h:TW (sgD r) (sgD b)=Gi):(r.1,r.2.1)=(b.1,b.2.1):=by
 simp only[sgD,TW,Ds,SM,T5]at h;have(c,a):=h;rw[oo]at a;have a:=zX.mp (Du a);have c:r.1=b.1:=by simpa using c
 rw[c,a]
theorem yK:Q8 ["_law_rows","_law_signs","_law_row","_law_number"] ["_law_rows"] (Qo qm):=by eq_refl
theorem Qnh(F:Wg K "_law_is_world" "_law_is_world" qm f fd)(o:hO mg)
  (GH:Q3 P w K mg base Ya 1 fH dH ["_law_found"] (mq K))(kH:KI K fH)(bH:zk K dH ["_law_found"] [])(mH:MG mg "_law_whole" fH):
  Q3 P w K mg base Ya 2 f fd ["_law_rows"] tr:=by
 refine F.ok yK (λe aa b a g=>?_) (λt h B s aa e b a E g=>?_)
 .obtain⟨R,O,k,rfl,_⟩:=g;rfl
 have(R,O,k,rfl,m,q):=g;have W:=yK.nd;have hu:=E.units;have ak:O.length=k.length:=GQ m.pr;have al:=m.len;exists _,(Qc (Zb (Yk (Z1 (Qm Zx rfl o.isinstance GY (Qa {0} (Qa (Z8 (v:=.ty "list") rfl o.list T9 Xb) Qd)))))
  (Qg (Qt Z9)) Qw)
  (Qc (Qz 1 W (Zt Qd))
  (Qc (Yb Tj rfl (Yh {0}) (Z5 2 W)
  (Qc (Zb (PW.pt (Yv (Yk (Z1 (Qm Zx rfl o.isinstance GY (Qa {2} (Qa (Z8 (v:=.ty "tuple") rfl o.tuple Di Xb) Qd))))) (Yv (Qp Wh (Qm Zc rfl o.len GX (Qa {2} Qd)) Qi (Qu _)) (Xe (Yk (Z1 (Qm Zx rfl o.isinstance GY (Qa (Qn Qs {2} Qi) (Qa (Z8 (v:=.ty "str") rfl o.str EO Xb) Qd)))))))))
  (Qg (Qt Z9)) Qw)
  (Qc (Zb (PW.pt (Yv (Yk (Z1 (Qm Zx rfl o.isinstance GY (Qa (Qn Qs {2} Qi) (Qa (Z8 (v:=.ty "list") rfl o.list T9 Xb) Qd))))) (Yv (Yk (Z1 (Za GH E rfl mH kH bH .nil Q5 (Qa (Qn Qs {2} Qi) Qd)))) (Xe (Qp Vg (Qn Qs {2} Qi) Qi (Qu _))))))
  (Qg (Qt Z9)) Qw)
  (Qc (Yb Tj rfl (Yh (Qn Qs {2} Qi)) (Z5 3 W)
  (Qg (Zb (PW.pt (Yv (Yk (Z1 (Za GH E rfl mH kH bH .nil Q5 (Qa {3} Qd)))) (Xe (Qp Vg {3} Qi (Qu _)))))
  (Qg (Qt Z9)) Qw)))
  (Qc (Zb (Qp (UQ hu) (Ze (Qa (Qn Qs {2} Qi) (Qa (Qn Qs {2} Qi) Qd))) {1} rfl)
  (Qg (Qt Z9)) Qw)
  (Qg (Zl (X6 Te Tx TC Z4 {1} (Qa (Ze (Qa (Qn Qs {2} Qi) (Qa (Qn Qs {2} Qi) Qd))) Qd)))))))))
  (Qg (Qt Z9)))))
 refine{032,Gi,1,.lst m.at_,jG,Gi,1,Q4 ?_};refine{Tu _,λl M=>?_};have s1:=Qf M (.lst []);let ah:Nat->St->Hp->Prop:=λi r v=>kL λ(p:List V)(x2 A:Option V)=>jQ (r=[Ga (.ref R),Ga (.ref l),x2,A]) (Q9 aa v) (v l=Ga (.lst p)) (Dg (lI v l) p (k.take i))
 refine⟨_,Xb,R,Xb,{_,Qk (s1 _ _ m.at_)},Yw (K:=K) (a:=R) (xs:=O) ah
  {[],30,s1,Qb,by simp;exact .nil} (by rintro i r v _ ⟨_,_,_,_,y,_⟩;exact Qk (y _ _ m.at_)) ?_ ?_⟩
 .rintro i x r v hi ⟨p,x2,A,rfl,y,Q,N⟩;subst_vars;have(a,I,c,b,rfl,hc,ab,_):=Qy m.pr hi;and_intros;have h:=y _ _ hc;have D:=y _ _ ab;have X:b≠l:=Qe ab M;have nc:c≠l:=Qe hc M;have af:p.length=(k.take i).length:=GQ N;rw[Dc]at af;have aj:=m.few a (Gc I);refine{032,Gi,1,.tup h,Im,Gi,1,Q4 ?_};exists 030,.inr {_,Qj h,1},10;rw[Ti (by rfl)];refine Q4 ?_;refine{0,c,201,Qj h,Z6,32,Gi,1,.str _,R5,Gi,1,Q4 ?_};refine{0,c,201,Qj h,Xv,32,Gi,1,.lst D,jG,Gi,1,Q4 ?_};refine{0,c,201,Qj h,Rw,2,Gi,Gx,1,.int _,Rl,Ik,Gi,1,Q4 ?_};exists 0,c,201,Qj h,Rw,3010;rw[Td (show¬((a.2.2:Int)<0) by ext)];refine Q4 ?_;refine⟨_,Xb,c,_,_,_,Xb,Xb,Qj h,Xv,b,Xb,{_,Qk D},Yw (K:=K) (a:=b) (xs:=a.2.1.map jv) (λj r t=>∃A:Option V,r=[Ga (.ref R),Ga (.ref l),Ga (.ref c),A]/\t=v)
   {401} (by rintro j r t _ ⟨_,_,e⟩;exact Qk (by rw[e];exact D)) ?_ ?_⟩
  .rintro j u r t B ⟨A,rfl,rfl⟩;obtain⟨n,rfl⟩:∃n,jv n=u:=by
    rw[Ts]at B;cases e:a.2.1[j]? with
    |none=>rw[e]at B;cases B
    |some n=>rw[e]at B;exact{n,T3 B}
   refine{02,Gi,Gx,1,.int _,Rl,Ik,Gi,1,Q4 ?_};exists 403010;rw[Td (show¬((n:Int)<0) by ext)];exact Q4 {401}
  .rintro r t ⟨A,rfl,rfl⟩;refine{0,c,201,Qj h,Z6,0,c,201,Qj h,Xv,Yy,λC ac=>?_};have s4:=Qf ac (.tup [.str a.1,.ref b]);have ai:Dg (lI (zj t C (.tup [.str a.1,.ref b])) l) p (k.take i):=Qr N (by rintro _ _ ⟨c,b,T,J,U,L⟩;exact{c,b,T,s4 _ _ J,s4 _ _ U,L});have ag:=m.ok a (Gc I);exists 0,sgD a,(k.take i).map sgD,zP (l:=l) {C,b,1,Qb,s4 _ _ D,X},.lst (s4 _ _ Q) (Q4e ai),zH ag,Qyu λa E=>m.ok a (Dq E),?_,0
   .have:=SZ a;ext
   have ni:(((k.take i).map sgD).any λd=>TW d (sgD a))=Gx:=by
    rw[Mn];intro d hd z;have(r',ae,rfl):=Tw.mp hd;have e:=WI z;have n1:=m.nd;have e1:k=k.take i++a::k.drop (i+1):=by
     conv=>lhs;rw[<-Ni i k]
     congr 1;exact LO.trans (by rw[I];rfl)
    rw[e1,TY,Tp,DQ]at n1;exact n1.2.2 _ (Tw.mpr ⟨r',ae,Xb⟩) _ Tc e
   rw[ni];refine Q4 ?_;have S:=s4 _ _ Q;refine{0,.inl {13,Qk S},0,c,201,Qj (s4 _ _ h),Z6,0,c,201,Qj (s4 _ _ h),Xv,Yy,λB ad=>?_};have Z:=Qf ad (.tup [.str a.1,.ref b]);exists l,p,01,Z _ _ S,(by rw[TJ];ext);have G:=s4.trans Z;have H:∀{e:Gd}{Y:HO},(zj (zj t C (.tup [.str a.1,.ref b])) B (.tup [.str a.1,.ref b])) e=Ga Y->e≠l->(zj (zj (zj t C (.tup [.str a.1,.ref b])) B (.tup [.str a.1,.ref b])) l (.lst (p++[.ref B]))) e=Ga Y:=λg n=>by rw[Qh n];exact g
   have tt:∀{e:Gd}{ys:List V},(zj (zj t C (.tup [.str a.1,.ref b])) B (.tup [.str a.1,.ref b])) e=Ga (.tup ys)->e≠l:=λg z=>by rw[z,Z _ _ S]at g;cases g
   exists p++[.ref B],30,λe Y g=>H (G _ _ (y _ _ g)) (Qe g M),Qb;rw[TF,I];refine Zq (Qr N (by rintro _ _ ⟨c,b,T,J,U,L⟩;exact{c,b,T,H (G _ _ J) (tt (G _ _ J)),H (G _ _ U) L,L})) (.cons {B,b,1,H Qb (tt Qb),H (G _ _ D) X,X} .nil)
 .rintro r v ⟨p,x2,A,rfl,y,Q,N⟩;exact q _ y
inductive uP(vs:List V)(H:Hp)(Q:VK):Prop
 |mk (R:Gd) (a:Gd) (es:List V) (us:List V) (rs:List Row) (S:List Th) (L:Th->Nat) (tl:Tl) (h0:vs=[.ref R,.ref a]) (h1:jK H R es rs) (h2:rz S L rs) (h3:H a=Ga (.lst us)) (h4:Um H us tl) (h5:(∀p∈tl,p.2.1∈S/\p.2.2∈S/\(L p.2.1=L p.2.2↔p.1=Gi))) (h6:∀H':Hp,Q9 H H'->Q (.bl Gi) H'):uP vs H Q
def vv:Sp:=λa H Q _=>uP a H Q
theorem zb:Q8 ["_law_rows","_law_told","_law_word","_law_one","_law_other","_law_here","_law_there"] ["_law_rows","_law_told"] (Qo su):=by eq_refl
theorem Qy1{r p:Gd}{D C:Do}(F:Wg K "_law_world_fits" "_law_world_fits" su f fd)
  (GW:Q3 P w K mg base Ya 2 r D ["_law_rows"] tr)(kW:KI K r)(bW:zk K D ["_law_rows"] [])(mW:MG mg "_law_is_world" r)
  (z:Q3 P w K mg base Ya 1 p C ["_law_rows","_law_thing"] AW)(J:KI K p)(B:zk K C ["_law_rows","_law_thing"] [])(M:MG mg "_law_number_in" p):
  Q3 P w K mg base Ya 3 f fd ["_law_rows","_law_told"] vv:=by
 refine F.ok zb (λvs H Q E h=>?_) (λaa A e s H vs Q E I h=>?_)
 .obtain⟨R,a,m,O,n,S,L,tl,rfl,_⟩:=h;rfl
 have(R,a,m,O,n,S,L,tl,rfl,u,W,G,v,t,q):=h;have k:=zb.nd;have j:Yl 1 _:=I.mono (by ext);exists _,(Qc (Zb (Yk (Z1 (Za GW I rfl mW kW bW .nil Q5 (Qa {0} Qd))))
  (Qg (Qt Z9)) Qw)
  (Qc (Yb Tj rfl (Yh {1}) (Uc rfl (Zr (Z5 2 k) (Zr (Z5 3 k) (Zr (Z5 4 k) Wp))))
  (Qc (Qz 5 k (Za z j rfl M J B .nil Q5 (Qa {0} (Qa {3} Qd))))
  (Qc (Qz 6 k (Za z j rfl M J B .nil Q5 (Qa {0} (Qa {4} Qd))))
  (Qg (Zb (PW.pt (Yv (Qp Vg {5} Qi (Qu _)) (Yv (Qp Vg {6} Qi (Qu _)) (Xe (Qp Wh (Vh Xu {5} {6} (Qu _)) (Vh Xu {2} Zh (Qu _)) (Qu _))))))
  (Qg (Qt Z9)) Qw)))))
  (Qg (Qt Z9))))
 refine{0,R,m,n,1,u,λH1 N=>{Gi,1,Q4 ?_}};refine⟨_,Xb,a,Xb,{_,Qk (N _ _ G)},Yw (K:=K) (a:=a) (xs:=O) (λi o l=>∃T U X Y Z:Option V,o=[Ga (.ref R),Ga (.ref a),T,U,X,Y,Z]/\Q9 H l)
  {220,N} (by rintro i o l _ ⟨_,_,_,_,_,_,d⟩;exact Qk (d _ _ G)) ?_ (by rintro o l ⟨_,_,_,_,_,h,d⟩;subst h;exact q _ d)⟩
 rintro i x o l hi ⟨T,U,X,Y,Z,rfl,d⟩;subst_vars;have((b,x,y),ep,c,v1,v2,rfl,hc,t1,t2):=Qy v hi;have(xS,yS,iff):=t _ (Gc ep);and_intros;exists c,0,Qj (d _ _ hc),13030301;refine{00,R,v1,m,n,S,L,x,1,u.same d,W,xS,t1.same d,λH3 s3=>?_};have g:=d.trans s3;refine{00,R,v2,m,n,S,L,y,1,u.same g,W,yS,t2.same g,λH4 s4=>?_};exists 403010;rw[Td (show¬((L x:Int)<0) by ext)];refine Q4 ?_;exists 403010;rw[Td (show¬((L y:Int)<0) by ext)];refine Q4 ?_;exists 40010110;have eq:decide (V.bl (decide (jv (L x)=jv (L y)))=V.bl (decide (V.str (tw b)=V.str "same")))=Gi:=by
  have A:decide (V.str (tw b)=V.str "same")=b:=by rw[Zg,sF]
  have E:decide (jv (L x)=jv (L y))=b:=by
   unfold jv;rw[Jo];by_cases e:L x=L y
   .have Q:b=Gi:=iff.mp e;rw[e,Q];simp
   .have:b=Gx:=by
     cases b
     .rfl
     .exact absurd (iff.mpr Xb) e
    rw[this];simp;ext
  rw[A,E];exact Ti rfl
 rw[eq];exact Q4 {220,g.trans s4}
theorem zU{d:List Lt}(h:Wq H iv v d):∃L a,v=.ref L/\ji H L a d:=by have(L,a,k,m,_,b,n):=h;refine{L,a,k,m,b,λl p=>?_,n};have(j,f):=Dl.mp p;have q:a.length=d.length:=GQ b;have o:=(Gg.mp f).1;have(r,e,c,t,u,s,_,_,_,_,_,g,i):=Qy b (Ge (show j<a.length by ext));rw[f]at e;cases e;exact⟨g,i⟩
theorem ur{S:List Th}(h:Jb H iv v rs)(W:oy tl S rs):∃(R:Gd)(a:List V)(L:Th->Nat),v=.ref R/\jK H R a rs/\rz S L rs/\∀s∈S,∀t∈S,L s=L t↔Cg tl s t:=by
 have(R,a,b,e,_,g):=h;have(L,i,j,f):=W.ex;refine{R,a,L,b,{e,g,by have:=W.len;ext,λr c=>?_,λr c=>?_,W.nd},{W.cl,W.good,j},i}
 .obtain⟨⟨k,d⟩,ht,rfl⟩:=f r c;have:=(W.good _ ht).1;simp only[Th.ok,T5]at this;exact this.1
 .obtain⟨⟨k,d⟩,ht,rfl⟩:=f r c;have b:=(W.good _ ht).2.2;have e:=Zj d;simp only[Th.size]at b;show(d.map L).length<=1000;rw[Gv];ext
inductive tq(vs:List V)(H:Hp)(Q:VK):Prop
 |mk (a:Gd) (us:List V) (v1:V) (v2:V) (f:V) (tl:Tl) (s:Th) (t:Th) (h0:vs=[.ref a,v1,v2,f]) (h1:H a=Ga (.lst us)) (h2:Um H us tl) (h3:iw tl) (h4:tl.length<=900) (h5:¬Xr tl) (h6:Z7 H v1 s) (h7:Z7 H v2 t) (h8:s.good) (h9:t.good) (h10:Vw H iv tl (.ask s t) f) (h11:∀H':Hp,Q9 H H'->Q (.bl Gi) H'):tq vs H Q
def vK:Sp:=λa H Q _=>tq a H Q
theorem UY:(("equal":TQ)=="equal")=Gi:=by decide+kernel
theorem Pq:(("unlike":TQ)=="equal")=Gx:=by decide+kernel
theorem Q82:(("unlike":TQ)=="unlike")=Gi:=by decide+kernel
theorem Q81:(("open":TQ)=="equal")=Gx:=by decide+kernel
theorem Q7y:(("open":TQ)=="unlike")=Gx:=by decide+kernel
theorem VG:(("open":TQ)=="open")=Gi:=by decide+kernel
theorem vm:Q8 ["_law_told","_law_one","_law_other","_law_found","_law_pair","_law_more"] ["_law_told","_law_one","_law_other","_law_found"] (Qo Ux):=by eq_refl
theorem Py{T:Gd}{dF:Do}(F:Wg K "_law_is_right" "_law_is_right" Ux f0 fd)(h:hO mg)
  (GS:Q3 P w K mg base Ya 3 fS dS ["_law_told","_law_lines","_law_one","_law_other","_law_pair"] wD)(kS:KI K fS)(bS:zk K dS ["_law_told","_law_lines","_law_one","_law_other","_law_pair"] [])(mS:MG mg "_law_lines_show" fS)
  (GH:Q3 P w K mg base Ya 1 fH dH ["_law_found"] (mq K))(kH:KI K fH)(bH:zk K dH ["_law_found"] [])(mH:MG mg "_law_whole" fH)
  (GF:Q3 P w K mg base Ya 3 T dF ["_law_rows","_law_told"] vv)(kF:KI K T)(bF:zk K dF ["_law_rows","_law_told"] [])(mF:MG mg "_law_world_fits" T):
  Q3 P w K mg base Ya 4 f0 fd ["_law_told","_law_one","_law_other","_law_found"] vK:=by
 refine F.ok vm (λD A C u U=>?_) (λG E I R A D C u B U=>?_)
 .obtain⟨a,f,i,j,ao,m,s,t,rfl,_⟩:=U;rfl
 have(a,f,i,j,ao,m,s,t,rfl,l,o,tg,aO,nb,J,L,gs,gt,ok,q):=U;have nd:=vm.nd;have az:Yl 1 _:=B.mono (by ext);show∃t,W0 ?my _ t/\_;let aE:Xk ?my Ux 6:={_,Qg (Qt (Za GF B rfl mF kF bF .nil Q5 (Qa (Qn Qs {3} Qi) (Qa (Zf Wc {0} (Zt (Qa (Ze (Qa Zh (Qa {1} (Qa {2} Qd)))) Qd))) Qd))))}
 let aF:Xk ?my Ux 4:={_,Qc (Qz 5 nd (Zt (Qa (Ze (Qa Zh (Qa {1} (Qa {2} Qd)))) Qd))) (Qc (Zb (Yk (Z1 (Za GF B rfl mF kF bF .nil Q5 (Qa (Qn Qs {3} Qi) (Qa (Zf Wc {0} {5}) Qd))))) (Qg (Qt Z9)) Qw) aE.2)}
 let aG:Xk ?my Ux 3:={_,Qc (Zb (PW.pt (Yv (Qp Wh (Qn Qs {3} Qi) Zh (Qu _)) (Xe (Qp Wh (Qm Zc rfl h.len GX (Qa {3} Qd)) Qi (Qu _))))) (Qg (Qt Z9)) Qw) aF.2}
 let aH:Subtype (W0 ?my (sub [2,0,3] (Zs Ux))):={_,Qg (Qt (Za GS B rfl mS kS bS .nil Q5 (Qa {0} (Qa (Qn Qs {3} Qi) (Qa (Qn Qs {4} Qi) (Qa (Qn Qs {4} Qi) (Qa (Ze (Qa {1} (Qa {2} Qd))) Qd)))))))}
 let aI:Subtype (W0 ?my (sub [2,0,1] (Zs Ux))):={_,Qc (Zb (PW.pt (Yv (Qp Vg (Qn Qs {3} Qi) Qi (Qu _)) (Yv (Qp lU (Qn Qs {3} Qi) (Qm Zc rfl h.len GX (Qa {0} Qd)) (Qu _)) (Xe (Qp Wh (Qn Qs (Qn Zd {0} (Qn Qs {3} Qi)) Qi) Zh (Qu _)))))) (Qg (Qt Z9)) Qw) (Qc (Qz 4 nd (Z3 V9 (Qn Zd {0} (Qn Qs {3} Qi)) (Yd Qi) Yu)) aH.2)}
 let aJ:Subtype (W0 ?my (sub [2,0] (Zs Ux))):={_,Qc (Zb (PW.pt (Yv (Qp Wh (Qm Zc rfl h.len GX (Qa {3} Qd)) Qi (Qu _)) (Xe (Yk (Z1 (Za GH az rfl mH kH bH .nil Q5 (Qa (Qn Qs {3} Qi) Qd))))))) (Qg (Qt Z9)) Qw) aI.2}
 let aK:Subtype (W0 ?my (sub [1,0] (Zs Ux))):={_,Qg (Qt (lR (Vh Xu (Qm Zc rfl h.len GX (Qa {3} Qd)) Qi (Qu _)) (kM (Za GS B rfl mS kS bS .nil Q5 (Qa {0} (Qa (Qn Qs {3} Qi) (Qa {1} (Qa {2} (Qa U7 Qd)))))))))}
 let aL:Xk ?my Ux 1:={_,Qc (Zb (Qp Xu (Qn Qs {3} Qi) Zh (Qu _)) aK.2 Qw) (Qc (Zb (Qp Xu (Qn Qs {3} Qi) Zh (Qu _)) aJ.2 Qw) aG.2)}
 exists _,Qc (Zb (PW.pt (Yv (Yk (Z1 (Qm Zx rfl h.isinstance GY (Qa {3} (Qa (Z8 (v:=.ty "tuple") rfl h.tuple Di Xb) Qd))))) (Yv (Qp Vg (Qm Zc rfl h.len GX (Qa {3} Qd)) Qi (Qu _)) (Xe (Yk (Z1 (Qm Zx rfl h.isinstance GY (Qa (Qn Qs {3} Qi) (Qa (Z8 (v:=.ty "str") rfl h.str EO Xb) Qd))))))))) (Qg (Qt Z9)) Qw) aL.2;have aP:f.length=m.length:=GQ o;rcases ok with⟨cg,e,lv,ls,rfl,b,Z,Y,ac,aa⟩|⟨ah,e,n,x,y,lv,ls,rfl,b,ax,Z,Y,ac,aa⟩|⟨ah,ay,e,r1,r2,aC,aD,S,rfl,b,aA,aB,W1,W2,N,O,hS⟩
 .obtain⟨Q,ab,rfl,V⟩:=zU Z;refine{032,Gi,1,.tup b,Im,Gi,1,Q4 ?_};exists 030,.inr {_,Qj b,1},3010;rw[Td (by show¬((2:Int)<2);decide)];refine Q4 ?_;refine{0,e,201,Qj b,Z6,32,Gi,1,.str _,R5,Gi,1,Q4 ?_};exists 0,e,201,Qj b,Z6,10;rw[Zg,UY];refine Yp ?_;exists 030,.inr {_,Qj b,1},10;rw[Ti (by rfl)];refine Yp ?_;exact{00,e,201,Qj b,Xv,00,a,Q,f,ab,i,j,.non,m,Gq,ls,s,t,ac,1,l,o,tg,by ext,V,Y,1,J,L,aa,λr v=>q r v}
 .subst_vars;have(Q,ab,rfl,V):=zU Z;have(A,_,_):=ax;have hn:=(Gg.mp A).1;obtain⟨I,u⟩:∃I,f[n]?=Ga I:={_,Ge (by ext)};have(p,C,d,E,G,rfl,D,R,t4):=Qy o u;and_intros;rw[A]at C;cases C;refine{032,Gi,1,.tup b,Im,Gi,1,Q4 ?_};exists 030,.inr {_,Qj b,1},3010;rw[Td (by show¬((3:Int)<2);decide)];refine Q4 ?_;refine{0,e,201,Qj b,Z6,32,Gi,1,.str _,R5,Gi,1,Q4 ?_};exists 0,e,201,Qj b,Z6,10;rw[Zg,Pq];refine Q4 ?_;exists 0,e,201,Qj b,Z6,10;rw[Zg,Q82];refine Yp ?_;exists 030,.inr {_,Qj b,1},10;rw[Ti (by rfl)];refine Q4 ?_;refine{0,e,201,Qj b,Xv,2,Gi,Gx,1,.int _,Rl,Ik,Gi,1,Q4 ?_};exists 0,e,201,Qj b,Xv,3010;rw[Td (show¬((n:Int)<0) by ext)];refine Q4 ?_;exists 0,e,201,Qj b,Xv,030,.inl {_,Qk l,1},3010;rw[Td (show¬((n:Int)>=((f.length:Nat):Int)) by ext)];refine Q4 ?_;exists 00,e,201,Qj b,Xv,a,f,301,Qk l,Zk u,d,201,Qj D,Z6,10;rw[Ti (by rfl)];refine Q4 ?_;refine{00,e,201,Qj b,Xv,a,f,301,Qk l,Zk u,0,d,0,Qj D,Wm _ _,λk W=>?_};rw[iH];have s4:=Qf W (.tup [E,G]);refine{00,e,201,Qj (s4 _ _ b),Rw,0,k,201,Qj Qb,Z6,0,k,201,Qj Qb,Xv,00,Yy,λH X=>?_};have M:=Qf X (.tup [i,j]);have g:=s4.trans M;exact{a,Q,f,ab,E,G,.ref H,m,Ga (s,t),ls,x,y,ac,1,g _ _ l,o.Qv (Q7.of g),tg,by ext,V.same g,Y,{H,i,j,1,Qb,J.same g,L.same g,gs,gt},R.same g,t4.same g,aa,λr v=>q r (g.trans v)}
 .subst_vars;have(R1,am,L1,rfl,ap,aM,af):=ur aA W1;have(R2,an,ak,rfl,aq,aN,ag):=ur aB W2;and_intros;refine{032,Gi,1,.tup b,Im,Gi,1,Q4 ?_};exists 030,.inr {_,Qj b,1},3010;rw[Td (by show¬((3:Int)<2);decide)];refine Q4 ?_;refine{0,e,201,Qj b,Z6,32,Gi,1,.str _,R5,Gi,1,Q4 ?_};exists 0,e,201,Qj b,Z6,10;rw[Zg,Q81];refine Q4 ?_;exists 0,e,201,Qj b,Z6,10;rw[Zg,Q7y];refine Q4 ?_;exists 0,e,201,Qj b,Z6,10;rw[Zg,VG];refine Q4 ?_;exists 030,.inr {_,Qj b,1},10;rw[Ti (by rfl)];refine Q4 ?_;refine{00,Vm,λk W=>?_};have s4:=Qf W (.tup [.str "unlike",i,j]);refine{Wz,λH X=>?_};have M:=Qf X (.lst [.ref k]);have g:=s4.trans M;refine{0,e,201,Qj (g _ _ b),Xv,00,a,H,f,01,g _ _ l,Qb,small (by show _+1<=_;ext),λc6 au=>?_};have s6:=Qf au (.lst (f++[.ref k]));have C:=g.trans s6;have ae:∀p∈m,p.2.1∈S/\p.2.2∈S:=λp A=>hS p.1 p.2.1 p.2.2 A;refine{R1,c6,am,f++[.ref k],aC,S,L1,m++[(Gx,s,t)],1,ap.same C,aM,Qb,Zq (o.Qv (Q7.of C)) (.cons {k,i,j,1,(M.trans s6) _ _ Qb,J.same C,L.same C} .nil),?_,λH2 g2=>{Gi,1,Q4 ?_}}
  .intro p A;rcases Gh.mp A with z|z
   .obtain⟨E,G⟩:=ae p z;exists E,G;rw[af _ E _ G];have(R,x,y):=p;cases R with
    |true=>exact{λ_=>rfl,λ_=>.told z}
    |false=>exact{λc=>absurd ⟨x,y,z,c⟩ nb,λu=>by cases u}
   .rw[Tb]at z;subst z;exists N,O;rw[af _ N _ O];exact{λc=>absurd c ah,λu=>by cases u}
  have ad:=C.trans g2;refine{0,e,201,Qj (ad _ _ b),Rw,000,Vm,λI av=>?_};have s8:=Qf av (.tup [.str "same",i,j]);refine{Wz,λc9 aw=>?_};have s9:=Qf aw (.lst [.ref I]);have aj:=s8.trans s9;refine{a,c9,f,01,(ad.trans aj) _ _ l,Qb,small (by show _+1<=_;ext),λal ar=>?_};have ai:=Qf ar (.lst (f++[.ref I]));have D:=(ad.trans aj).trans ai;refine{R2,al,an,f++[.ref I],aD,S,ak,m++[(Gi,s,t)],1,aq.same D,aN,Qb,Zq (o.Qv (Q7.of D)) (.cons {I,i,j,1,(s9.trans ai) _ _ Qb,J.same D,L.same D} .nil),?_,λr v=>q r (D.trans v)};intro p A;rcases Gh.mp A with z|z
  .obtain⟨E,G⟩:=ae p z;exists E,G;rw[ag _ E _ G];have(R,x,y):=p;cases R with
   |true=>exact{λ_=>rfl,λ_=>.told (Gu _ z)}
   |false=>exact{λc=>absurd c (ay x y z),λu=>by cases u}
  .rw[Tb]at z;subst z;exists N,O;rw[ag _ N _ O];exact{λ_=>rfl,λ_=>.told (TL _ Tc)}
inductive AX(vs:List V)(H:Hp)(Q:VK):Prop
 |mk (a:Gd) (e:Gd) (us:List V) (f:V) (tl:Tl) (d:Dd) (h0:vs=[.ref a,.ref e,f]) (h1:H a=Ga (.lst us)) (h2:Um H us tl) (h3:iw tl) (h4:tl.length<=10) (h5:¬Xr tl) (h6:iF H (.ref e) d) (h7:d.good) (h8:Vw H iv tl d f) (h9:∀H':Hp,Q9 H H'->Q (.bl Gi) H'):AX vs H Q
def Ks:Sp:=λa H Q _=>AX a H Q
theorem K4{X:Gd->Prop}{b:Bool}{x y:Th}{f:V}(h:Vw H X tl (.tell b x y) f):(¬Xr (tl++[(b,x,y)])/\f=.int ((tl.length:Int)+1))\/(Xr (tl++[(b,x,y)])/\∃d e g,f=.ref d/\H d=Ga (.tup [.str "clash",e,g])):=by
 rcases h with⟨e,g⟩|⟨d,n,a,c,k,j,e,g,i,_⟩
 .exact .inl ⟨e,g⟩
 .exact .inr {{a,c,Gc i.1,i.2.1},d,2,e,g}
theorem zD:Q8 ["_law_told","_law_deed","_law_found"] ["_law_told","_law_deed","_law_found"] (Qo qJ):=by eq_refl
theorem KL{G H:Gd}{W X:Do}(F:Wg K "_law_answered_so" "_law_answered_so" qJ f0 fd)(m:hO mg)
  (GI:Q3 P w K mg base Ya 4 G W ["_law_told","_law_one","_law_other","_law_found"] vK)(kI:KI K G)(bI:zk K W ["_law_told","_law_one","_law_other","_law_found"] [])(mI:MG mg "_law_is_right" G)
  (t:Q3 P w K mg base Ya 1 fS dS ["_law_found","_law_due"] qF)(C:KI K fS)(u:zk K dS ["_law_found","_law_due"] [])(E:MG mg "_law_so" fS)
  (GZ:Q3 P w K mg base Ya 2 H X ["_law_told","_law_deed"] rB)(kZ:KI K H)(bZ:zk K X ["_law_told","_law_deed"] [])(mZ:MG mg "_law_barred" H):
  Q3 P w K mg base Ya 5 f0 fd ["_law_told","_law_deed","_law_found"] Ks:=by
 refine F.ok zD (λI j s h k=>?_) (λL J O Z j I s h N k=>?_)
 .obtain⟨a,e,l,o,g,d,rfl,_⟩:=k;rfl
 have(a,e,l,o,g,d,rfl,r,Q,tg,af,nb,M,v,ok,q):=k;have nd:=zD.nd;have ad:Yl 2 _:=N.mono (by ext);have B:Yl 1 _:=N.mono (by ext);exists _,(Qc (Zb (Qp Xu (Qn Qs {1} Qi) Zh (Qu _))
  (Qg (Qt (Za GI (N.mono (by ext)) rfl mI kI bI .nil Q5 (Qa {0} (Qa (Qn Qs {1} Qi) (Qa (Qn Qs {1} Qi) (Qa {2} Qd))))))) Qw)
  (Qc (Zb (Qp Xu (Qn Qs {1} Qi) Zh (Qu _))
  (Qc (Zb (wU jV jV Qi (Qn Qs {1} Qi) (Qm Zc rfl m.len GX (Qa {0} Qd)))
  (Qg (Qt (Za t B rfl E C u .nil Q5 (Qa {2} (Qa (Zf Rm (Qm Zc rfl m.len GX (Qa {0} Qd)) (Qn Qs {1} Qi)) Qd))))) Qw)
  (Qg (Qt (Za t B rfl E C u .nil Q5 (Qa {2} (Qa Zh Qd)))))) Qw)
  (Qc (Zb (Z1 (Za GZ ad rfl mZ kZ bZ .nil Q5 (Qa {0} (Qa {1} Qd))))
  (Qg (Qt (lR (Qm Zx rfl m.isinstance GY (Qa {2} (Qa (Z8 (v:=.ty "tuple") rfl m.tuple Di Xb) Qd))) (kM (Za t B rfl E C u .nil Q5 (Qa (Z3 V9 {2} Yu (Yd Qi)) (Qa (Ze (Qa Zh Qd)) Qd))))))) Qw)
  (Qg (Qt (Za t B rfl E C u .nil Q5 (Qa {2} (Qa (Zf Vl (Qm Zc rfl m.len GX (Qa {0} Qd)) Qi) Qd))))))))
 have D:l.length=g.length:=GQ Q;have sz:=xP tg;have ae:∀p∈g,(p.2.1.ok=Gi/\p.2.1.depth<=8)/\p.2.2.ok=Gi/\p.2.2.depth<=8:=λp A=>{{(tg p A).1.1,(tg p A).1.2.1},(tg p A).2.1,(tg p A).2.2.1};cases d with
 |ask x y=>have(Y,T,U,n,b,R,S):=M;cases n;exists 0,e,201,Qj b,Z6,10;rw[Zg,vS];refine Yp ?_;exact{00,e,201,Qj b,Xv,0,e,201,Qj b,Rw,0,a,l,T,U,o,g,x,y,1,r,Q,tg,by ext,nb,R,S,v.1,v.2,ok,λc f=>q c f}
 |back i=>
  have(Y,n,b):=M;cases n;exists 0,e,201,Qj b,Z6,10;rw[Zg,Qv5];refine Q4 ?_;exists 0,e,201,Qj b,Z6,10;rw[Zg,A7];refine Yp ?_;have ok:o=(Up g (.back i)).2:=ok;have I:¬(0<=i/\i<=(g.length:Int))->o=.str "no moment":=λk=>by rw[ok];simp only[Up];rw[Gs k]
  have J:(0<=i/\i<=(g.length:Int))->o=.int ((g.length:Int) - i):=λk=>by rw[ok];simp only[Up];rw[GV k]
  exists 0,e,201,Qj b,Xv,3010;refine Uu (λh=>?_) (λh=>?_)
  .have h:0<=i:=Du h;exists 030,.inl {_,Qk r,1},3010;refine Uu (λj=>?_) (λj=>?_)
   .have j:i<=(l.length:Int):=Du j;have s:=J {h,by rw[<-D];exact j};subst s;exists 0030,.inl {_,Qk r,1},0,e,201,Qj b,Xv,301;rw[D];exact{2,.int ((g.length:Int) - i),1,.int _,.int _,by simp[Tv],by simp[W8],by simp[Dw],λc f=>q c f}
   .have j:¬i<=(l.length:Int):=λz=>j (Ti z);have s:=I λz=>j (by rw[D];exact z.2);subst s;exact{02,.str "no moment",1,.str _,.str _,by simp only[Tv];decide+kernel,by simp[W8],by simp[Dw],λc f=>q c f}
  .have h:¬0<=i:=λz=>h (Ti z);have s:=I λz=>h z.1;subst s;refine{Gx,1,Q4 ?_};exact{02,.str "no moment",1,.str _,.str _,by simp only[Tv];decide+kernel,by simp[W8],by simp[Dw],λc f=>q c f}
 |tell aa x y=>
  have(Y,T,U,n,b,R,S):=M;cases n;have s:=v.1;have I:=v.2;have zx:=s.2.2;have zy:=I.2.2;exists 0,e,201,Qj b,Z6,10;rw[Zg,vx];refine Q4 ?_;exists 0,e,201,Qj b,Z6,10;rw[Zg,vb];refine Q4 ?_;refine{00,a,e,l,g,T,U,aa,x,y,1,r,Q,b,R,S,{s.1,s.2.1},{I.1,I.2.1},ae,by ext,λh H1 j hb=>{h,1,?_}};rcases K4 ok with⟨J,L⟩|⟨J,cc,z1,z2,L,h3⟩
  .have O:h=Gx:=by
    cases h
    .rfl
    .exact absurd (hb.mp Xb) J
   subst O L;refine Q4 ?_;exists 0030,.inl {_,Qk (j _ _ r),1},301;rw[D];exact{2,.int ((g.length:Int)+1),1,.int _,.int _,by simp[Tv],by simp[W8],by simp[Dw],λc f=>q c (j.trans f)}
  .have O:h=Gi:=hb.mpr J;subst O L;refine Yp ?_;have Z:=j _ _ h3;refine{032,Gi,1,.tup Z,Im,Gi,1,Yp ?_};refine{00,cc,0,Qj Z,xf _ 1 (by simp),λc3 ab=>?_};rw[show Jf [V.str "clash",z1,z2] Gq (Ga 1)=[V.str "clash"]from Od _ 1];have s3:=Qf ab (.tup [.str "clash"]);refine{Wz,λc4 ac=>?_};have s4:=Qf ac (.tup [.str "clash"]);exact{2,.tuple [.str "clash"],1,.tup (s4 _ _ Qb) (.cons (.str _) .nil),.tup Qb (.cons (.str _) .nil),by simp only[Tv,Gw,SM];decide+kernel,by simp[W8,Z0],by simp[Dw,TV],λc f=>q c ((j.trans (s3.trans s4)).trans f)}
noncomputable abbrev lN:List TQ:=["_law_script","_law_things","_law_deeds","_law_told","_law_moment","_law_more","_law_seed","_law_one","_law_first","_law_second","_law_k","_law_left","_law_right","_law_here","_law_due","_law_again"]
theorem yO:Q8 lN ["_law_script"] (Qo jz):=by eq_refl
theorem r9(a:List Int)(j k:Nat):∃b:List Int,Jf (a.map V.int) (Ga (j:Int)) (Ga (k:Int))=b.map V.int/\b.length<=k - j/\(a.length<=j->b=[]):=by
 refine{(a.drop (min j a.length)).take (min k a.length - min j a.length),?_,?_,λh=>?_}
 .unfold Jf;rw[HT.Iz,HT.Iz,Gv,MD,CQ]
 .rw[Dc];ext
 .rw[Nat.min_eq_right h,Nat.sub_eq_zero_of_le (Bg _ _)];simp
theorem Qyj{b:List Th}{m:Nat}(D:Drawn b m)(a:m<=4):∀t∈b,t.good:=λt ht=>by have(j,a):=Dl.mp ht;have f:j<b.length:=(Gg.mp a).1;have c:=D.any j t a;have d:=D.dep j t a;have e:=D.len;exact{D.ok t ht,by lia,by lia}
theorem tN{a ml:List Dd}{b:Nat}(h:b<=(after [] a).length):after [] (a++[.back (b:Int)]++ml)=after ((after [] a).take b) ml:=by
 rw[Vd,Vd];have:after (after [] a) [.back (b:Int)]=(after [] a).take b:=by simp only[after,Up];rw[GV {by ext,by ext}];rfl
 rw[this]
theorem VI{b:List Dd}(c:¬Xr tl)(a:Nat):after [] ((tl.take a).map Wy++b)=after (tl.take a) b:=by rw[Vd];have:=(yT (tl.take a) [] (by rw[EL];exactλz=>c (Iq (oM a) z))).1;rw[EL]at this;rw[this]
theorem y7{c:Type}(A B:List c)(k:Nat):(A++B).take (A.length+k)=A++B.take k:=by
 induction A with
 |nil=>simp
 |cons a A b=>rw[TB,Dp,Nat.add_right_comm,SQ,b,Dp]
theorem AI{a:Type}(A B:List a)(k:Nat):(A++B)[A.length+k]?=B[k]?:=by rw[TR (by ext),Nat.add_sub_cancel_left]
theorem KF{b:List V}{a:List Dd}(n:Nat)(h:Vx H b a):Vx H (b.take n) (a.take n):=Rf h n
theorem WU(g:iw tl)(a:tl.length<=100):(Fo (tl.map tlD)).canLay0=Gi/\W8 (Fo (tl.map tlD))<=1000000/\(Fo (tl.map tlD)).depth<=60:=Qvg (Q0b g) (by rw[Gv];exact a)
theorem Pr{M nW nT:Nat}{fD fE fF fA fW fT fO:Gd}{dD dE dF dA dW dT dO:Do}{pW pT:TQ}(F:Wg K "law" "law" jz f0 fd)(g:hO mg)(hM:5<=M)(hW:nW<=M)(hT:nT<=M)
  (GD:Q3 P w K mg base Ya 2 fD dD ["_law_cells"] (A9 K))(kD:KI K fD)(bD:zk K dD ["_law_cells"] [])(mD:MG mg "_law_drawn_things" fD)
  (GE:Q3 P w K mg base Ya 2 fE dE ["_law_cells","_law_things"] (wK K))(kE:KI K fE)(bE:zk K dE ["_law_cells","_law_things"] [])(mE:MG mg "_law_drawn_deeds" fE)
  (GF:Q3 P w K mg base Ya 3 fF dF ["_law_deeds"] yt)(kF:KI K fF)(bF:zk K dF ["_law_deeds"] [])(mF:MG mg "_law_after" fF)
  (GA:Q3 P w K mg base Ya 1 fA dA ["_law_script","_law_k"] (yw K))(kA:KI K fA)(bA:zk K dA ["_law_script","_law_k"] [])(mA:MG mg "_law_at" fA)
  (GW:Q3 P w K mg base Ya nW fW dW [pW] sL)(kW:KI K fW)(bW:zk K dW [pW] [])(mW:MG mg "answers" fW)
  (GT:Q3 P w K mg base Ya nT fT dT [pT] zL)(kT:KI K fT)(bT:zk K dT [pT] [])(mT:MG mg "told_after" fT)
  (GH:Q3 P w K mg base Ya 1 fH dH ["_law_found"] (mq K))(kH:KI K fH)(bH:zk K dH ["_law_found"] [])(mH:MG mg "_law_whole" fH)
  (GO:Q3 P w K mg base Ya 5 fO dO ["_law_told","_law_deed","_law_found"] Ks)(kO:KI K fO)(bO:zk K dO ["_law_told","_law_deed","_law_found"] [])(mO:MG mg "_law_answered_so" fO)
  (GS:Q3 P w K mg base Ya 1 fS dS ["_law_found","_law_due"] qF)(kS:KI K fS)(bS:zk K dS ["_law_found","_law_due"] [])(mS:MG mg "_law_so" fS):
  Q3 P w K mg base Ya (M+1) f0 fd ["_law_script"] (nM K):=by
 refine F.ok yO (λG D E A f=>?_) (λT H aN s D G E A hr f=>?_)
 .obtain⟨a,R,rfl,_⟩:=f;rfl
 have(a,R,rfl,hS,cy,q):=f;have o:=yO.nd;have cq:Yl 5 _:=hr.mono hM;have a5:Yl 3 _:=hr.mono (by lia);have a4:Yl 2 _:=hr.mono (by lia);have al:Yl 1 _:=hr.mono (by lia);have bK:Yl nW _:=hr.mono hW;have bJ:Yl nT _:=hr.mono hT;exists _,(Qc (Qz 1 o (Za GD a4 rfl mD kD bD .nil Q5 (Qa (Z3 Wo {0} (Yd Qi) (Yd Qi)) Qd)))
  (Qc (Qz 2 o (Za GE a4 rfl mE kE bE .nil Q5 (Qa (Z3 Wo {0} (Yd Qi) (Yd Qi)) (Qa {1} Qd))))
  (Qc (Qz 3 o (Za GF a5 rfl mF kF bF .nil Q5 (Qa {2} Qd)))
  (Qc (Qz 4 o (Zf Wn (Za GA al rfl mA kA bA .nil Q5 (Qa {0} (Qa Qi Qd))) (Zf Vl (Qm Zc rfl g.len GX (Qa {3} Qd)) Qi)))
  (Qc (Qz 5 o (Za GE a4 rfl mE kE bE .nil Q5 (Qa (Z3 Wo {0} (Yd Qi) (Yd Qi)) (Qa {1} Qd))))
  (Qc (Qz 6 o (Zf Wr (Za GA al rfl mA kA bA .nil Q5 (Qa {0} (Qa Qi Qd))) Qi))
  (Qc (Qz 7 o (Qn Zd {1} (Zf Wn {6} (Qm Zc rfl g.len GX (Qa {1} Qd)))))
  (Qc (Zl (X6 Te Tx TC Z4 {5} (Qa (Ze (Qa Zh (Qa {7} (Qa (Qn Zd {1} (Zf Wn (Zf Wr {6} Qi) (Qm Zc rfl g.len GX (Qa {1} Qd)))) Qd)))) Qd)))
  (Qc (Qz 8 o (Za GW bK rfl mW kW bW .nil Q5 (Qa (Zf Wc (Zf Wc {2} (Zt (Qa (Ze (Qa Zh (Qa {4} Qd))) Qd))) {5}) Qd)))
  (Qc (Qz 9 o (Za GW bK rfl mW kW bW .nil Q5 (Qa (Zf Wc (Z3 Wo {3} Yu (Yd {4})) {5}) Qd)))
  (Qc (Zb (PW.pt (Yv (Yk (Z1 (Qm Zx rfl g.isinstance GY (Qa {8} (Qa (Z8 (v:=.ty "list") rfl g.list T9 Xb) Qd))))) (Xe (Yk (Z1 (Qm Zx rfl g.isinstance GY (Qa {9} (Qa (Z8 (v:=.ty "list") rfl g.list T9 Xb) Qd))))))))
  (Qg (Qt Z9)) Qw)
  (Qc (Zb (PW.pt (Yv (Qp Wh (Qm Zc rfl g.len GX (Qa {8} Qd)) (Zf Vl (Zf Vl (Qm Zc rfl g.len GX (Qa {2} Qd)) Qi) (Qm Zc rfl g.len GX (Qa {5} Qd))) (Qu _)) (Xe (Qp Wh (Qm Zc rfl g.len GX (Qa {9} Qd)) (Zf Vl {4} (Qm Zc rfl g.len GX (Qa {5} Qd))) (Qu _)))))
  (Qg (Qt Z9)) Qw)
  (Qc (Zb (PW.pt (Yv (Yk (Z1 (Za GH al rfl mH kH bH .nil Q5 (Qa (Qn Zd {8} (Qm Zc rfl g.len GX (Qa {2} Qd))) Qd)))) (Xe (Qp Wh (Qn Zd {8} (Qm Zc rfl g.len GX (Qa {2} Qd))) (Zf Rm (Qm Zc rfl g.len GX (Qa {3} Qd)) {4}) (Qu _)))))
  (Qg (Qt Z9)) Qw)
  (Qc (Yb Tj rfl (V4 rfl g.range (Qa (Qm Zc rfl g.len GX (Qa {5} Qd)) Qd)) (Z5 10 o)
  (Qc (Qz 11 o (Qn Zd {8} (Zf Vl (Zf Vl (Qm Zc rfl g.len GX (Qa {2} Qd)) Qi) {10})))
  (Qc (Qz 12 o (Qn Zd {9} (Zf Vl {4} {10})))
  (Qc (Qz 13 o (Za GF a5 rfl mF kF bF .nil Q5 (Qa (Zf Wc (Z3 Wo {3} Yu (Yd {4})) (Z3 Wo {5} Yu (Yd {10}))) Qd)))
  (Qg (Yb Tj rfl (Yh (Zt (Qa {11} (Qa {12} Qd)))) (Z5 7 o)
  (Qg (Zb (Yk (Z1 (Za GO cq rfl mO kO bO .nil Q5 (Qa {13} (Qa (Qn Zd {5} {10}) (Qa {7} Qd))))))
  (Qg (Qt Z9)) Qw))))))))
  (Qc (Qz 14 o (Za GF a5 rfl mF kF bF .nil Q5 (Qa (Zf Wc (Z3 Wo {3} Yu (Yd {4})) {5}) Qd)))
  (Qc (Qz 15 o (Za GT bJ rfl mT kT bT .nil Q5 (Qa (Zf Wc (Zf Wc {2} (Zt (Qa (Ze (Qa Zh (Qa {4} Qd))) Qd))) {5}) Qd)))
  (Qg (Qt (lR (Za GS al rfl mS kS bS .nil Q5 (Qa {15} (Qa {14} Qd))) (kM (Za GS al rfl mS kS bS .nil Q5 (Qa (Za GT bJ rfl mT kT bT .nil Q5 (Qa (Zf Wc (Z3 Wo {3} Yu (Yd {4})) {5}) Qd)) (Qa {14} Qd)))))))))))))))))))))))
 subst_vars;have(a7,aP,cB,_):=r9 R 1 5;have(a8,aQ,cC,_):=r9 R 5 9;have(a9,aR,cD,_):=r9 R 9 11;and_intros;have aP:Jf (R.map V.int) (Ga 1) (Ga 5)=a7.map V.int:=aP;have aQ:Jf (R.map V.int) (Ga 5) (Ga 9)=a8.map V.int:=aQ;have aR:Jf (R.map V.int) (Ga 9) (Ga 11)=a9.map V.int:=aR;refine{000,a,0,hS,λp1 cl=>?_};rw[aP];have s1:=Qf cl (.lst (a7.map V.int));refine{p1,a7,1,Qk Qb,by lia,λae I u H1 g1 _ gl ga aO=>?_};have sA:=s1.trans g1;have cG:=aO.len;have gd:=Qyj aO (by lia);have cH:=ga.length;have W:jI u:={Qh2 aO.cl,gd,by lia};refine{000,a,0,sA.seq hS,λp4 cm=>?_};rw[aQ];have s4:=Qf cm (.lst (a8.map V.int));refine{0,p4,ae,a8,I,u,1,Qk Qb,by lia,s4 _ _ gl,ga.same s4,by lia,by lia,λq0 C e H2 g2 _ gq aU ld aS=>?_};have cf:∀d∈e,d.good:=λd m=>W.nU (aS d m);have cr:C.length=e.length:=GQ aU;refine{0,q0,C,e,1,gq,aU,cf,by lia,λqt r H3 g3 _ gt bM=>?_};have nb:¬Xr (after [] e):=Il P2;have b7:∀p∈after [] e,p.2.1∈u/\p.2.2∈u:=sH (λp hp=>nomatch hp) aS;have cF:(after [] e).length<=4:=by have:=Ia (ds:=e) (tl:=[]);simp only[Lh]at this;lia
 have bs:∀(b:Nat)(ml:List Dd),b<=(after [] e).length->after [] (e++[.back (b:Int)]++ml)=after ((after [] e).take b) ml:=λb ml f=>tN f;have aw:∀(b:Nat)(ml:List Dd),after [] (((after [] e).take b).map Wy++ml)=after ((after [] e).take b) ml:=λb ml=>VI nb b;have cx:∀b:Nat,b<=(after [] e).length->Vw=Vw/\after [] (e++[.back (b:Int)])=(after [] e).take b:=λb f=>{1,by have:=tN (ml:=[]) f;rw[DV]at this;exact this};have cs:r.length=(after [] e).length:=GQ bM;have bb:=((sA.trans s4).trans g2).trans g3;have bV:=(s4.trans g2).trans g3;have bB:=bV _ _ gl;have bv:=ga.same bV;have ch:=g3 _ _ gq;have ce:=aU.same g3;refine{0,a,R,(0),1,bb.seq hS,λmm=>?_};exists 030,.inl {_,Qk gt,1},301301,(by lia);obtain⟨b,cb,bI⟩:∃b:Nat,mm % ((r.length:Int)+1)=(b:Int)/\b<=(after [] e).length:=by have A:=DI mm (show((r.length:Int)+1)≠0 by lia);have D:=Dx mm (show(0:Int)<(r.length:Int)+1 by lia);exact{(mm % ((r.length:Int)+1)).toNat,by lia,by lia}
 show Ui 4 (V.int (mm % ((r.length:Int)+1))) _ _ _;rw[cb];refine{000,a,0,bb.seq hS,λp5 cn=>?_};rw[aR];have s5:=Qf cn (.lst (a9.map V.int));refine{0,p5,ae,a9,I,u,1,Qk Qb,by lia,s5 _ _ bB,bv.same s5,by lia,by lia,λl B ad Z g5 co bG bz cz ah=>?_};have cA:B.length=ad.length:=GQ bz;have aD:=s5.trans g5;have cu:=bb.trans aD;have ay:=aD _ _ bB;have bw:=bv.same aD;have cp:H3 l=Gq:=s5.free co;refine{0,a,R,(0),1,cu.seq hS,λn0=>{301,{by decide,by decide},?_}};have aB:(0:Int)<I.length:=by lia
 subst_vars;have(O,b8,cc):=U6 I (n0 / 7 % I.length) (DI _ (by lia)) (Dx _ aB);have(x,ex,i1):=bw.get cc;have mx:=Gc ex;have(Q,b9,cd):=U6 I (n0 / 7 / 5 % I.length) (DI _ (by lia)) (Dx _ aB);have(y,ey,i2):=bw.get cd;and_intros;have my:=Gc ey;exists 00030,.inl {I,Qk ay,1},301,aB,ae,I,_,O,11,Qk ay,b8;refine{0,.inl {13,Qk bG},000301,{by decide,by decide},030,.inl {I,Qk ay,1},301,aB,ae,I,_,Q,11,Qk ay,b9,Vm,λh ci=>?_};have s6:=Qf ci (.tup [.str "ask",O,Q]);have az:=s6 _ _ bG;exists l,B,01,az,(by rw[TJ];lia);have bf:Q7 Z (zj (zj Z h (.tup [.str "ask",O,Q])) l (.lst (B++[.ref h]))):=(Q7.of s6).trans (Z2 λxs z=>by rw[az]at z;cases z);have aE:Q9 H3 (zj (zj Z h (.tup [.str "ask",O,Q])) l (.lst (B++[.ref h]))):=λc cI J=>by rw[Qh (Qe J cp)];exact s6 _ _ (aD _ _ J)
 have ca:(zj (zj Z h (.tup [.str "ask",O,Q])) l (.lst (B++[.ref h]))) h=Ga (.tup [.str "ask",O,Q]):=by rw[Qh (λz=>by rw[<-z,Qb]at az;cases az)];exact Qb
 have L:(zj (zj Z h (.tup [.str "ask",O,Q])) l (.lst (B++[.ref h]))) l=Ga (.lst (B++[.ref h])):=Qb;have U:Vx (zj (zj Z h (.tup [.str "ask",O,Q])) l (.lst (B++[.ref h]))) (B++[.ref h]) (ad++[.ask x y]):=Zq (bz.Qv bf) (.cons {h,O,Q,1,ca,i1.Qv bf,i2.Qv bf} .nil);generalize zj (zj Z h (.tup [.str "ask",O,Q])) l (.lst (B++[.ref h]))=H7 at*;have lm:(B++[V.ref h]).length=(ad++[Dd.ask x y]).length:=GQ U;have ah:∀d∈ad++[.ask x y],d.fits u:=λd m=>by
  rcases Gh.mp m with z|z
  .exact ah d z
  .rw[Tb]at z;subst z;exact⟨mx,my⟩
 have cE:(ad++[Dd.ask x y]).length<=3:=by rw[Gk,Gy];lia
 generalize B++[V.ref h]=ev at*;generalize ad++[Dd.ask x y]=ml at*;have bC:∀d∈ml,d.good:=λd m=>W.nU (ah d m);have ak:=aE _ _ gt;have aA:=bM.Qv (Q7.of aE);have ac:=aE _ _ ch;have bx:=ce.same aE;have bt:∀d∈e++[.back (b:Int)]++ml,d.fits u:=λd m=>by
  rcases Gh.mp m with z|z
  .rcases Gh.mp z with z|z
   .exact aS d z
   .rw[Tb]at z;subst z;exact DJ
  .exact ah d z
 have bu:∀k,∀d∈((after [] e).take b).map Wy++ml.take k,d.fits u:=λk d m=>by
  rcases Gh.mp m with z|z
  .obtain⟨p,hp,rfl⟩:=Tw.mp z;exact b7 p (Dq hp)
  .exact ah d (Dq z)
 have aT:∀d∈((after [] e).take b).map Wy++ml,d.fits u:=λd m=>bu ml.length d (by rw[Tz];exact m);have am:((after [] e).take b).length=b:=by rw[Dc];lia
 refine{00,Yy,λt aY=>?_};have s8:=Qf aY (.tup [.str "back",.int (b:Int)]);refine{Wz,λc3 aZ=>?_};have s9:=Qf aZ (.lst [.ref t]);have b6:=s8.trans s9;refine{q0,c3,301,b6 _ _ ac,Qb,small (by show _+1<=_;lia),λc4 a0=>?_};have bQ:=Qf a0 (.lst (C++[.ref t]));have bY:=b6.trans bQ;refine{0,c4,l,301,Qb,bY _ _ L,small (by rw[Gk];show _+1+_<=_;lia),λc5 a3=>?_};have bR:=Qf a3 (.lst (C++[.ref t]++ev));have bc:=bY.trans bR;refine{c5,C++[.ref t]++ev,e++[.back (b:Int)]++ml,u,1,Qb,Zq (Zq (bx.same bc) (.cons (show iF _ (.ref t) (.back (b:Int))from{t,1,((s9.trans bQ).trans bR) _ _ Qb}) .nil)) (U.same bc),W,bt,by simp only[Gk,Gy];lia,λf1 S H8 g8 _ cg a6 bP=>?_};have b0:=bc.trans g8;refine{000,qt,0,Qk (b0 _ _ ak),λc6 cj=>?_};rw[Od];have bU:=Qf cj (.lst (r.take b));have bZ:=b0.trans bU;refine{0,c6,l,301,Qb,bZ _ _ L,small (by rw[Dc];lia),λc7 ck=>?_};have bX:=Qf ck (.lst (r.take b++ev));have bd:=bZ.trans bX;refine{c7,r.take b++ev,((after [] e).take b).map Wy++ml,u,1,Qb,Zq ((Jy b (aA.Qv (Q7.of bd))).dds) (U.same bd),W,aT,by rw[Gk,Gv,am];lia,λf2 aC H9 g9 _ aV bN ct=>?_};have N:=bd.trans g9;have be:=(bU.trans bX).trans g9;have aj:=be _ _ cg;refine{032,Gi,1,.lst aj,jG,Gi,1,Q4 ?_};refine{032,Gi,1,.lst aV,jG,Gi,1,Q4 ?_};exists 030,.inl {_,Qk aj,1},030,.inl {_,Qk (N _ _ ac),1},301030,.inl {_,Qk (N _ _ L),1},30110;rw[Ti (show V.int ((S.length:Nat):Int)=V.int (((C.length:Nat):Int)+1+((ev.length:Nat):Int)) by rw[a6];simp only[Gk,Gy];congr 1;lia)];refine Q4 ?_;exists 030,.inl {_,Qk aV,1},0030,.inl {_,Qk (N _ _ L),1},30110;rw[Ti (show V.int ((aC.length:Nat):Int)=V.int ((b:Int)+((ev.length:Nat):Int)) by rw[bN,Gk,Gv,am];congr 1;lia)];refine Q4 ?_;have e1:S[e.length]?=Ga (.int (((after [] e).length:Int) - (b:Int))):=by
  obtain⟨v,A⟩:∃v,S[e.length]?=Ga v:={_,Ge (by rw[a6];simp only[Gk,Gy];lia)};have ed:(e++[.back (b:Int)]++ml)[e.length]?=Ga (.back (b:Int)):=by rw[Dk,TR (GJ _),Hl];rfl
  have f:=bP _ _ _ ed A;rw[Dk,E4 (GJ _),Tz]at f;have f:v=(Up (after [] e) (.back (b:Int))).2:=f;rw[A,f];simp only[Up];rw[GV {by lia,by lia}]
 have ai:Oh S ((C.length:Nat):Int)=Ga (.int (((after [] e).length:Int) - (b:Int))):=by rw[cr];exact Zk e1
 refine{0030,.inl {_,Qk (N _ _ ac),1},f1,S,301,Qk aj,ai,2,Gi,Gx,1,.int _,Rl,Ik,Gi,1,Q4 ?_};exists 0030,.inl {_,Qk (N _ _ ac),1},f1,S,301,Qk aj,ai,030,.inl {_,Qk (N _ _ ak),1},030110;rw[Ti (show V.int (((after [] e).length:Int) - (b:Int))=V.int (((r.length:Nat):Int) - (b:Int)) by rw[cs])];refine Q4 ?_;have bL:∀k,iw (after ((after [] e).take b) (ml.take k))/\¬Xr (after ((after [] e).take b) (ml.take k))/\(after ((after [] e).take b) (ml.take k)).length<=10:=λk=>by
  exists Ox (λp hp=>?_) λd m=>bC d (Dq m),Il λz=>nb (Iq (oM b) z)
  .have:=b7 p (Dq hp);exact{gd _ this.1,gd _ this.2}
  .have:=Ia (ds:=ml.take k) (tl:=(after [] e).take b);rw[am,Dc]at this;lia
 refine⟨_,Xb,_,_,Xb,.inl {_,Qk (N _ _ L),1},_,Xb,by lia,by lia,Ua (lo:=0) (n:=((ev.length:Int)).toNat) (λk Y HA=>∃x7 bg bh bi bj:Option V,Y=[Ga (.ref a),Ga (.ref ae),Ga (.ref q0),Ga (.ref qt),Ga (.int (b:Int)),Ga (.ref l),Ga (.int (n0 / 7)),x7,Ga (.ref f1),Ga (.ref f2),bg,bh,bi,bj,Gq,Gq]/\Q9 H9 HA)
  {220,λ_ _ f=>f} ?_ ?_⟩
 .rintro k Y HA hk ⟨x7,bg,bh,bi,bj,rfl,sm⟩;have hk:k<ml.length:=by lia
  have X:=N.trans sm;subst_vars;obtain⟨vd,aJ⟩:∃vd,ev[k]?=Ga vd:={_,Ge (by lia)};have(d,ed,ab):=Qy U aJ;obtain⟨J,rfl⟩:∃J,vd=V.ref J:=by
   cases d with
   |tell aM x y=>have(a,_,_,f,_):=ab;exact⟨a,f⟩
   |ask x y=>have(a,_,_,f,_):=ab;exact⟨a,f⟩
   |back i=>have(a,f,_):=ab;exact⟨a,f⟩
  have l1:(e++[Dd.back (b:Int)]).length=e.length+1:=by rw[Gk,Gy]
  have l2:(((after [] e).take b).map Wy).length=b:=by rw[Gv,am]
  obtain⟨G,aH⟩:∃v,S[e.length+1+k]?=Ga v:={_,Ge (by rw[a6,Gk,l1];lia)};obtain⟨H,aI⟩:∃v,aC[b+k]?=Ga v:={_,Ge (by rw[bN,Gk,l2];lia)};and_intros;have o1:=bP (e.length+1+k) d G (by rw[<-l1,AI];exact ed) aH;have o2:=ct (b+k) d H (by have:=AI (((after [] e).take b).map Wy) ml k;rw[l2]at this;rw[this];exact ed) aI;rw[show(e++[Dd.back (b:Int)]++ml).take (e.length+1+k)=e++[Dd.back (b:Int)]++ml.take k by rw[<-l1,y7],bs b _ bI]at o1;rw[show(((after [] e).take b).map Wy++ml).take (b+k)=((after [] e).take b).map Wy++ml.take k by have:=y7 (((after [] e).take b).map Wy) ml k;rw[l2]at this;exact this,aw b]at o2;have(aG,ba,lk):=bL k;have a1:Oh S (((C.length:Nat):Int)+1+(0+(k:Int)))=Ga G:=by rw[show((C.length:Nat):Int)+1+(0+(k:Int))=((e.length+1+k:Nat):Int) by lia];exact Zk aH
  have a2:Oh aC ((b:Int)+(0+(k:Int)))=Ga H:=by rw[show(b:Int)+(0+(k:Int))=((b+k:Nat):Int) by lia];exact Zk aI
  exists 0030,.inl {_,Qk (X _ _ ac),1},3010301,f1,S,301,Qk (sm _ _ aj),a1;exists 000301,f2,aC,301,Qk (sm _ _ aV),a2;refine{000,qt,0,Qk (X _ _ ak),λb1 aW=>?_};rw[Od];have t1:=Qf aW (.lst (r.take b));refine{000,l,0,Qk (t1 _ _ (X _ _ L)),λb2 bq=>?_};rw[show(0+(k:Int))=((k:Nat):Int) by lia,Od];have t2:=Qf bq (.lst (ev.take k));refine{b1,b2,301,t2 _ _ Qb,Qb,small (by rw[Dc,Dc];lia),λb3 aX=>?_};have t3:=Qf aX (.lst (r.take b++ev.take k));have aL:=(t1.trans t2).trans t3;have aa:=X.trans aL;refine{b3,_,((after [] e).take b).map Wy++ml.take k,1,Qb,Zq ((Jy b (aA.Qv (Q7.of aa))).dds) (KF k (U.same aa)),λd m=>W.nU (bu k d m),by rw[Gk,l2,Dc];lia,λb4 hv HB gB _ ax th=>?_};rw[aw b]at th;have aK:=(sm.trans aL).trans gB;have aF:=aa.trans gB;refine{00,Yy,λb5 br=>?_};have t5:=Qf br (.lst [G,H]);refine⟨b5,Xb,{_,Qk Qb},Yw (K:=K) (a:=b5) (xs:=[G,H]) (λj Y D=>∃x7:Option V,Y=[Ga (.ref a),Ga (.ref ae),Ga (.ref q0),Ga (.ref qt),Ga (.int (b:Int)),Ga (.ref l),Ga (.int (n0 / 7)),x7,Ga (.ref f1),Ga (.ref f2),Ga (.int (k:Int)),Ga G,Ga H,Ga (.ref b4),Gq,Gq]/\Q9 (zj HB b5 (.lst [G,H])) D)
   {0,λ_ _ f=>f} (by rintro j Y D _ ⟨_,_,A⟩;exact Qk (A _ _ Qb)) ?_ (by rintro Y D ⟨x7,f,A⟩;subst f;exact{220,(aK.trans t5).trans A})⟩
  rintro j v Y D E ⟨x7,rfl,A⟩;have T:=(aK.trans t5).trans A;have af:=N.trans T;have bp:Vw D iv (after ((after [] e).take b) (ml.take k)) d v:=by
   have z1:Vw D iv (after ((after [] e).take b) (ml.take k)) d G:=(o1.ex (Y:=iv) λc ys _ _ f=>f).kp (Q7.of (be.trans T)) (λJ _=>(be.trans T) _ _ J);have z2:Vw D iv (after ((after [] e).take b) (ml.take k)) d H:=(o2.ex (Y:=iv) λc ys _ _ f=>f).kp (Q7.of T) (λJ _=>T _ _ J)
   match j,E with
   |0,E=>cases E;exact z1
   |1,E=>cases E;exact z2
   |n+2,E=>simp at E
  refine{000,l,ev,301,Qk (af _ _ L),Zk aJ,0,b4,J,hv,v,_,d,1,(t5.trans A) _ _ ax,th.Qv (Q7.of (t5.trans A)),aG,lk,ba,ab.Qv (Q7.of af),bC d (Gc ed),bp,λHD sd=>{Gi,1,Q4 ?_}};exact{0,A.trans sd}
 .rintro Y HA ⟨x7,bg,bh,bi,bj,rfl,sm⟩;have X:=N.trans sm;have(aG,ba,lk):=bL ml.length;rw[Tz]at aG ba lk;refine{000,qt,0,Qk (X _ _ ak),λb1 aW=>?_};rw[Od];have t1:=Qf aW (.lst (r.take b));refine{0,b1,l,301,Qb,t1 _ _ (X _ _ L),small (by rw[Dc];lia),λb3 aX=>?_};have t3:=Qf aX (.lst (r.take b++ev));have aa:=X.trans (t1.trans t3);have l2:(((after [] e).take b).map Wy).length=b:=by rw[Gv,am]
  refine{b3,_,((after [] e).take b).map Wy++ml,1,Qb,Zq ((Jy b (aA.Qv (Q7.of aa))).dds) (U.same aa),λd m=>W.nU (aT d m),by rw[Gk,l2];lia,λb4 hv HB gB _ ax th=>?_};rw[aw b]at th;have aF:=aa.trans gB;refine{00,Yy,λt aY=>?_};have u1:=Qf aY (.tup [.str "back",.int (b:Int)]);refine{Wz,λc3 aZ=>?_};have u2:=Qf aZ (.lst [.ref t]);have ao:=u1.trans u2;refine{q0,c3,301,ao _ _ (aF _ _ ac),Qb,small (by show _+1<=_;lia),λc4 a0=>?_};have u3:=Qf a0 (.lst (C++[.ref t]));have ap:=ao.trans u3;refine{0,c4,l,301,Qb,ap _ _ (aF _ _ L),small (by rw[Gk];show _+1+_<=_;lia),λc5 a3=>?_};have u4:=Qf a3 (.lst (C++[.ref t]++ev));have aq:=ap.trans u4;have af:=aF.trans aq;refine{c5,C++[.ref t]++ev,e++[.back (b:Int)]++ml,u,1,Qb,Zq (Zq (bx.same af) (.cons (show iF _ (.ref t) (.back (b:Int))from{t,1,((u2.trans u3).trans u4) _ _ Qb}) .nil)) (U.same af),W,bt,by simp only[Gk,Gy];lia,λag av HE G bk T=>?_};rw[bs b ml bI]at T;have A:=aq.trans G;have(y1,y2,y3):=WU aG (by lia);refine{002,.list (Fu tlD _),1,.lst bk T.dts,.lst (A _ _ ax) (th.Qv (Q7.of A)).dts,y1,y2,y3,λHF D=>{Gi,1,Yp ?_}};have E:=(af.trans G).trans D;refine{000,qt,0,Qk (E _ _ ak),λd1 bm=>?_};rw[Od];have ar:=Qf bm (.lst (r.take b));refine{0,d1,l,301,Qb,ar _ _ (E _ _ L),small (by rw[Dc];lia),λd3 bn=>?_};have bo:=Qf bn (.lst (r.take b++ev));have au:=ar.trans bo;have H:=E.trans au;refine{d3,_,((after [] e).take b).map Wy++ml,u,1,Qb,Zq ((Jy b (aA.Qv (Q7.of H))).dds) (U.same H),W,aT,by rw[Gk,l2];lia,λcv cw HI gI bl an=>?_};rw[aw b]at an;have wI:=au.trans gI;exact{02,.list (Fu tlD _),1,.lst bl an.dts,.lst ((D.trans wI) _ _ (A _ _ ax)) ((th.Qv (Q7.of A)).Qv (Q7.of (D.trans wI))).dts,y1,y2,y3,λHJ gJ=>q HJ}
end
end K06
namespace L2
open PySem PySem.Spec PyProof.Rows
variable{p0 p1 p2:TQ}
section
variable{K:Gf}{x qual:TQ}{st:DR}{f:Gd}{fd:Do}
theorem Wg.b1(F:Wg K x qual st f fd)(h:∀(kV k n:Gj)(l:Option Gd)(j ct:Gj)(i:Gj),bindArgs (Ev x qual (Vk st) (Zs st) (Qo st) .none kV k n l j ct) {[i],[]}=pure ([p0].zip [i])):zk K fd [p0] []:=
 F.binds λa b c d e g o m=>by rcases o with _|⟨i,_|_⟩<;>first|exact h a b c d e g i|cases m
theorem Wg.b2(F:Wg K x qual st f fd)(h:∀(kV l o:Gj)(m:Option Gd)(k ct:Gj)(i j:Gj),bindArgs (Ev x qual (Vk st) (Zs st) (Qo st) .none kV l o m k ct) {[i,j],[]}=pure ([p0,p1].zip [i,j])):zk K fd [p0,p1] []:=
 F.binds λa b c d e g p n=>by rcases p with _|⟨i,_|⟨j,_|_⟩⟩<;>first|exact h a b c d e g i j|cases n
theorem Wg.b3(F:Wg K x qual st f fd)(h:∀(kV m p:Gj)(n:Option Gd)(l ct:Gj)(i j k:Gj),bindArgs (Ev x qual (Vk st) (Zs st) (Qo st) .none kV m p n l ct) {[i,j,k],[]}=pure ([p0,p1,p2].zip [i,j,k])):zk K fd [p0,p1,p2] []:=
 F.binds λa b c d e g q o=>by rcases q with _|⟨i,_|⟨j,_|⟨k,_|_⟩⟩⟩<;>first|exact h a b c d e g i j k|cases o
theorem Wg.b4{p3:TQ}(F:Wg K x qual st f fd)(h:∀(kV n q:Gj)(o:Option Gd)(m ct:Gj)(i j k l:Gj),bindArgs (Ev x qual (Vk st) (Zs st) (Qo st) .none kV n q o m ct) {[i,j,k,l],[]}=pure ([p0,p1,p2,p3].zip [i,j,k,l])):zk K fd [p0,p1,p2,p3] []:=
 F.binds λa b c d e g r p=>by rcases r with _|⟨i,_|⟨j,_|⟨k,_|⟨l,_|_⟩⟩⟩⟩<;>first|exact h a b c d e g i j k l|cases p
theorem Wg.b5{p3 p4:TQ}(F:Wg K x qual st f fd)(h:∀(kV o r:Gj)(p:Option Gd)(n ct:Gj)(i j k l m:Gj),bindArgs (Ev x qual (Vk st) (Zs st) (Qo st) .none kV o r p n ct) {[i,j,k,l,m],[]}=pure ([p0,p1,p2,p3,p4].zip [i,j,k,l,m])):zk K fd [p0,p1,p2,p3,p4] []:=
 F.binds λa b c d e g s q=>by rcases s with _|⟨i,_|⟨j,_|⟨k,_|⟨l,_|⟨m,_|_⟩⟩⟩⟩⟩<;>first|exact h a b c d e g i j k l m|cases q
end
theorem Zz{K:Gf}{x q:TQ}{a:DR}{f:Gd}(h:Sb.Yx K x q a f):∃b,Wg K x q a f b/\DY K (.ref f)=Gi:=by have(_,_,_,_,_,_,_,_,_,l,c,k):=h;exact{_,xV l c k,k}
end L2
namespace K06
open PySem L2 Sb
section
variable{K:Gf}
theorem Q3s{a:M8}{w:Tg}{bm:Heap}{mg:TQ->Option Gj}{fa:Gd}(X:K.In bm)(h:bm.Ns Ea mg)(eQ:mg "law"=Ga (.ref fa))(x:Fx K)
  :∃fd:Do,(∀(s:Gz)(L:Gj),RM s fd {[L],[]} [("_law_script",L)])/\∀base:Heap,K.In base->base.Ns Ea mg->Q3 a.prog w K mg base Ya 67 fa fd ["_law_script"] (nM K):=by
 obtain@⟨CP,r,e,j,i,f0,f1,f2,f3,f4,f5,f6,f7,f8,f9,dI,dJ,dK,dL,dM,dO,dQ,dR,dT,dU,gC,gD,gE,dV,dX,dY,dZ,gF,d0,d1,d2,d3,d4,d5,gG,gH,gI,gJ,gK,gL,gM,gN,gO,gP,gQ,gR,gS,gT,gU,gV,gW,gX,gY,gZ,g0,g1,g5,g4,g7,g6,aP,pP,dP,oP,sP,mP,cP,gm,gk,gl,aW,pW,dW,oW,sW,mW,cW,gr,gs,aN,pN,dN,oN,sN,mN,cN,gd,ge,gh,gj,gi,gg,gf,gc,aS,pS,dS,oS,sS,mS,cS,gq,go,gn,gp,aB,pB,dB,oB,sB,mB,cB,ga,gb,fZ,dE,dG,dF,c6,a0,h0,a1,i1,h1,a2,i2,h2,a3,i3,h3,a4,h4,a5,h5,a6,i6,h6,a7,i7,h7,a8,h8,a9,i9,h9,cl,eR,d6,cm,eS,d7,cn,eT,d8,co,eU,d9,cp,eV,ea,cq,eW,eb,cr,eX,ec,cs,eY,ed,cu,eZ,ee,cv,e0,ef,cw,eg,cx,eh,aZ,ei,cy,e1,ej,cz,e2,ek,cA,e3,el,cC,e4,em,cD,en,cE,e5,eo,cF,e6,ep,cG,e7,eq,cH,e8,er,cI,e9,es,cJ,fb,et,ba,eu,cK,ev,cL,ew,cM,ex,bb,ey,cO,ez,cQ,eA,cR,eB,cT,eC,bc,eD,m,eE,cU,eF,cV,eG,cX,eH,cY,eI,cZ,eJ,c0,eK,c1,eL,c2,eM,c3,eN,c4,eO,c5,eP,bv,gy,gt,bw,bA,gA,gu,gw,gx,bx,bz,gv,gB,gz⟩:=x;have k:=eQ.symm.trans (Lq X h c5);cases k;have g:=λ{x:TQ}{dH:Gd}(k:Re K x dH)=>Lq X h k;have y:=λ{x:TQ}(k:ih K x)=>IN X h k;have TP:iJ K mg CP:={⟨pP,dP,oP,sP⟩,gm,gk,gl,g aP};have B:lM K mg r:={⟨pW,dW,oW,sW⟩,gr,gs,g aW,{_,Lq X h dE,{40}},{_,Lq X h dG,{40}},{_,Lq X h dF,{40}}};have b:Jj K mg e:={⟨pN,dN,oN,sN⟩,gd,ge,gh,gj,gi,gg,gf,gc,g aN};have TS:jS K j:={⟨pS,dS,oS,sS⟩,gq,go,gn,gp};have f:iV K mg i:={⟨pB,dB,oB,sB⟩,ga,gb,fZ,g aB,{_,Lq X h c6,{40}}};have c:hO mg:={y bv,y gy,y gt,y bw,y bA,y gA,y gu,y gw,y gx,y bx,y bz};have d:Ra mg:={y bv,y bw,y bA,y bx,y bz,y gv,y gB,y gz};have(_,M,k0):=Zz h0;have b0:=M.b1 (p0:="thing") λ_ _ _ _ _ _ _=>rfl;have(_,N,k1):=Zz h1;have b1:=N.b1 (p0:="self") λ_ _ _ _ _ _ _=>rfl;have(_,Y,k2):=Zz h2;have b2:=Y.b2 (p0:="self") (p1:="thing") λ_ _ _ _ _ _ _ _=>rfl;have m2:Yq K CP "place_of" f2:=⟨a2,i2,k2⟩;have(_,F3,k3):=Zz h3;have b3:=F3.b2 (p0:="self") (p1:="places") λ_ _ _ _ _ _ _ _=>rfl;have(_,F4,k4):=Zz h4;have b4:=F4.b2 (p0:="met") (p1:="thing") λ_ _ _ _ _ _ _ _=>rfl;have(_,F5,k5):=Zz h5;have b5:=F5.b2 (p0:="spare") (p1:="inner") λ_ _ _ _ _ _ _ _=>rfl;have(_,F6,k6):=Zz h6;have b6:=F6.b4 (p0:="self") (p1:="thing") (p2:="near") (p3:="spare") λ_ _ _ _ _ _ _ _ _ _=>rfl;have m6:Yq K r "place_within" f6:=⟨a6,i6,k6⟩;have(_,F7,k7):=Zz h7;have b7:=F7.b3 (p0:="self") (p1:="thing") (p2:="form") λ_ _ _ _ _ _ _ _ _=>rfl;have m7:Yq K CP "place_by_form" f7:=⟨a7,i7,k7⟩;have(_,F8,k8):=Zz h8;have b8:=F8.b2 (p0:="forms") (p1:="told") λ_ _ _ _ _ _ _ _=>rfl;have(_,F9,k9):=Zz h9;have b9:=F9.b2 (p0:="self") (p1:="forms") λ_ _ _ _ _ _ _ _=>rfl;have(_,O,fc):=Zz d6;have bd:=O.b2 (p0:="self") (p1:="place") λ_ _ _ _ _ _ _ _=>rfl;have br:Yq K e "take_in" dI:=⟨cl,eR,fc⟩;have(_,t,fe):=Zz d7;have C:=t.b2 (p0:="self") (p1:="place") λ_ _ _ _ _ _ _ _=>rfl;have G:Yq K e "key_of" dJ:=⟨cm,eS,fe⟩;have(_,P,ff):=Zz d8;have D:=P.b3 (p0:="self") (p1:="one") (p2:="other") λ_ _ _ _ _ _ _ _ _=>rfl;have H:Yq K e "equal" dK:=⟨cn,eT,ff⟩;have(_,Q,fg):=Zz d9;have be:=Q.b4 (p0:="self") (p1:="one") (p2:="other") (p3:="reason") λ_ _ _ _ _ _ _ _ _ _=>rfl;have bs:Yq K e "merge" dL:=⟨co,eU,fg⟩;have(_,R,fh):=Zz ea;have c7:=R.b2 (p0:="self") (p1:="link") λ_ _ _ _ _ _ _ _=>rfl;have fQ:Yq K e "merge_link" dM:=⟨cp,eV,fh⟩;have(_,S,fi):=Zz eb;have c8:=S.b3 (p0:="self") (p1:="low") (p2:="high") λ_ _ _ _ _ _ _ _ _=>rfl;have fR:Yq K e "hang" dO:=⟨cq,eW,fi⟩;have(_,T,fj):=Zz ec;have c9:=T.b3 (p0:="self") (p1:="gone") (p2:="kept") λ_ _ _ _ _ _ _ _ _=>rfl;have fS:Yq K e "give_over" dQ:=⟨cr,eX,fj⟩;have(_,U,fk):=Zz ed;have E:=U.b3 (p0:="self") (p1:="one") (p2:="other") λ_ _ _ _ _ _ _ _ _=>rfl;have I:Yq K e "way" dR:=⟨cs,eY,fk⟩;have(_,V,fl):=Zz ee;have da:=V.b2 (p0:="self") (p1:="place") λ_ _ _ _ _ _ _ _=>rfl;have fT:Yq K e "way_up" dT:=⟨cu,eZ,fl⟩;have(_,W,fm):=Zz ef;have db:=W.b1 (p0:="self") λ_ _ _ _ _ _ _=>rfl;have fU:Yq K e "rows" dU:=⟨cv,e0,fm⟩;have(_,Z,fn):=Zz eg;have dd:=Z.b4 (p0:="things") (p1:="net") (p2:="one") (p3:="other") λ_ _ _ _ _ _ _ _ _ _=>rfl;have(_,aa,fo):=Zz eh;have de:=aa.b3 (p0:="net") (p1:="one") (p2:="other") λ_ _ _ _ _ _ _ _ _=>rfl;have(_,ab,bn):=Zz ei;have bf:=ab.b2 (p0:="net") (p1:="link") λ_ _ _ _ _ _ _ _=>rfl;have(_,ac,g2):=Zz ej;have df:=ac.b3 (p0:="self") (p1:="things") (p2:="net") λ_ _ _ _ _ _ _ _ _=>rfl;have(_,ad,fp):=Zz ek;have F:=ad.b4 (p0:="self") (p1:="one") (p2:="other") (p3:="reason") λ_ _ _ _ _ _ _ _ _ _=>rfl;have J:Yq K j "write" dX:=⟨cz,e2,fp⟩;have(_,ae,fq):=Zz el;have dg:=ae.b2 (p0:="self") (p1:="link") λ_ _ _ _ _ _ _ _=>rfl;have fV:Yq K j "write_link" dY:=⟨cA,e3,fq⟩;have(_,u,fr):=Zz em;have n:=u.b3 (p0:="self") (p1:="one") (p2:="other") λ_ _ _ _ _ _ _ _ _=>rfl;have q:Yq K j "line_for" dZ:=⟨cC,e4,fr⟩;have(_,af,fs):=Zz en;have dh:=af.b1 (p0:="deeds") λ_ _ _ _ _ _ _=>rfl;have(_,ag,g3):=Zz eo;have bg:=ag.b1 (p0:="self") λ_ _ _ _ _ _ _=>rfl;have(_,ah,ft):=Zz ep;have bh:=ah.b2 (p0:="self") (p1:="deed") λ_ _ _ _ _ _ _ _=>rfl;have bt:Yq K i "answer" d1:=⟨cF,e6,ft⟩;have(_,ai,fu):=Zz eq;have di:=ai.b2 (p0:="self") (p1:="moment") λ_ _ _ _ _ _ _ _=>rfl;have fW:Yq K i "go_back" d2:=⟨cG,e7,fu⟩;have(_,aj,fv):=Zz er;have dj:=aj.b3 (p0:="self") (p1:="deed") (p2:="entry") λ_ _ _ _ _ _ _ _ _=>rfl;have fX:Yq K i "tell" d3:=⟨cH,e8,fv⟩;have(_,ak,fw):=Zz es;have dk:=ak.b2 (p0:="self") (p1:="entry") λ_ _ _ _ _ _ _ _=>rfl;have fY:Yq K i "ask" d4:=⟨cI,e9,fw⟩;have(_,al,fx):=Zz et;have bi:=al.b3 (p0:="self") (p1:="net") (p2:="entry") λ_ _ _ _ _ _ _ _ _=>rfl;have bu:Yq K i "lines_for" d5:=⟨cJ,fb,fx⟩;have(_,am,bo):=Zz eu;have bj:=am.b2 (p0:="net") (p1:="entries") λ_ _ _ _ _ _ _ _=>rfl;have(_,ao,fy):=Zz ev;have dl:=ao.b1 (p0:="deeds") λ_ _ _ _ _ _ _=>rfl;have(_,ap,fz):=Zz ew;have dm:=ap.b1 (p0:="deeds") λ_ _ _ _ _ _ _=>rfl;have(_,aq,fA):=Zz ex;have dn:=aq.b1 (p0:="_law_cell") λ_ _ _ _ _ _ _=>rfl;have(_,ar,bp):=Zz ey;have bk:=ar.b2 (p0:="_law_found") (p1:="_law_due") λ_ _ _ _ _ _ _ _=>rfl;have(_,au,fB):=Zz ez;have dp:=au.b1 (p0:="_law_cells") λ_ _ _ _ _ _ _=>rfl;have(_,av,fC):=Zz eA;have dq:=av.b2 (p0:="_law_cells") (p1:="_law_things") λ_ _ _ _ _ _ _ _=>rfl;have(_,aw,fD):=Zz eB;have dr:=aw.b1 (p0:="_law_cell") λ_ _ _ _ _ _ _=>rfl;have(_,ax,fE):=Zz eC;have ds:=ax.b2 (p0:="_law_told") (p1:="_law_things") λ_ _ _ _ _ _ _ _=>rfl;have(_,ay,bq):=Zz eD;have bl:=ay.b2 (p0:="_law_told") (p1:="_law_deed") λ_ _ _ _ _ _ _ _=>rfl;have(_,az,p):=Zz eE;have o:=az.b1 (p0:="_law_found") λ_ _ _ _ _ _ _=>rfl;have(_,aA,fF):=Zz eF;have dt:=aA.b1 (p0:="_law_deeds") λ_ _ _ _ _ _ _=>rfl;have(_,aC,fG):=Zz eG;have du:=aC.b2 (p0:="_law_script") (p1:="_law_k") λ_ _ _ _ _ _ _ _=>rfl;have(_,aD,fH):=Zz eH;have dv:=aD.b1 (p0:="_law_found") λ_ _ _ _ _ _ _=>rfl;have(_,aE,fI):=Zz eI;have dw:=aE.b4 (p0:="_law_told") (p1:="_law_lines") (p2:="_law_k") (p3:="_law_pair") λ_ _ _ _ _ _ _ _ _ _=>rfl;have(_,aF,fJ):=Zz eJ;have dx:=aF.b5 (p0:="_law_told") (p1:="_law_lines") (p2:="_law_one") (p3:="_law_other") (p4:="_law_pair") λ_ _ _ _ _ _ _ _ _ _ _=>rfl;have(_,aG,fK):=Zz eK;have dy:=aG.b2 (p0:="_law_rows") (p1:="_law_thing") λ_ _ _ _ _ _ _ _=>rfl;have(_,aH,fL):=Zz eL;have dz:=aH.b1 (p0:="_law_rows") λ_ _ _ _ _ _ _=>rfl;have(_,aI,fM):=Zz eM;have dA:=aI.b2 (p0:="_law_rows") (p1:="_law_told") λ_ _ _ _ _ _ _ _=>rfl;have(_,aJ,fN):=Zz eN;have dC:=aJ.b4 (p0:="_law_told") (p1:="_law_one") (p2:="_law_other") (p3:="_law_found") λ_ _ _ _ _ _ _ _ _ _=>rfl;have(_,aK,fO):=Zz eO;have dD:=aK.b3 (p0:="_law_told") (p1:="_law_deed") (p2:="_law_found") λ_ _ _ _ _ _ _ _ _=>rfl;have(oc,od,an,sl,kV,dc,pm,cd,ct,ll,cc,fP):=eP;have bB:=xV (st:=jz) ll cc fP;have MP:Mk K CP f1:=⟨mP,a1,i1,cP⟩;have MW:Mk K r f3:=⟨mW,a3,i3,cW⟩;have MN:Mk K e f9:=⟨mN,a9,i9,cN⟩;have MS:Mk K j dV:=⟨mS,cy,e1,cS⟩;have MB:Mk K i d0:=⟨mB,cE,e5,cB⟩;refine{Ev "law" "law" (Vk jz) (Zs jz) (Qo jz) .none kV dc pm an cd ct,λs L=>.of_eq Xb,λbase _ _=>?_};have G0:=WC (P:=a.prog) (w:=w) (mg:=mg) (base:=base) M d;have G7:=OK (P:=a.prog) (w:=w) (mg:=mg) (base:=base) F7 TP d;have G4:=QP (P:=a.prog) (w:=w) (mg:=mg) (base:=base) F4 d;have G5:=Quy (P:=a.prog) (w:=w) (mg:=mg) (base:=base) F5;have G3:=Qsq (P:=a.prog) (w:=w) (mg:=mg) (base:=base) F3 B;have G6:=ui (P:=a.prog) (w:=w) (mg:=mg) (base:=base) F6 TP B d m6 b6 G0 k0 b0 (g a0) G4 k4 b4 (g a4) G5 k5 b5 (g a5) m7 G7 b7 50;have G2:=Qmx Y B MW G3 b3 m6 b6 G6;have G1:=WR (P:=a.prog) (w:=w) (mg:=mg) (base:=base) N TP;have v:=Qs5 (P:=a.prog) (w:=w) (mg:=mg) (base:=base) P b;have aL:=YW (P:=a.prog) (w:=w) (mg:=mg) (base:=base) t b d;have cj:=Qqt (P:=a.prog) (w:=w) (mg:=mg) (base:=base) t b d;have bG:=P9 (P:=a.prog) (w:=w) (mg:=mg) (base:=base) V b;have bE:=OI (P:=a.prog) (w:=w) (mg:=mg) (base:=base) S b;have bF:=QM T b G aL C;have bD:=UD R b d fR bE c8 fS bF c9;have aM:=Pn Q b H v D fQ bD c7;have G9:=WX (P:=a.prog) (w:=w) (mg:=mg) (base:=base) F9 b;have bC:=um O b br bd G aL C 59;have G8:=YX F8 b d MN G9 b9 br bC bd bs aM be;have aV:=Qwb am b d H v D;have z:=Q2h U b d fT bG da;have bH:=Q0i W b d G cj C;have aO:=VM (P:=a.prog) (w:=w) (mg:=mg) (base:=base) ab b d;have bJ:=KQ aa b d I z E aO bn bf (g aZ);have A:=ON (P:=a.prog) (w:=w) (mg:=mg) (base:=base) (C:=e) ad TS d;have ck:=yF (g:=Gx) (k:=2) (by decide) u TS b q n VX I z E J A F;have aQ:=yF (g:=Gi) (k:=3) (by decide) u TS b q n ck I z E J A F;have bL:=Qu7 ae TS q n aQ aO bn bf (g aZ) J A F;have bK:=Qr2 (P:=a.prog) (w:=w) (mg:=mg) (base:=base) (C:=e) ac TS;have bI:=KY Z TS b (Lq X h aS) MS bK df bJ fo de (g cx) q n aQ fV dg bL;have aU:=VF al f TP bI fn dd (g cw);have bP:=UE ak f TP b G8 k8 b8 (g a8) H v D fU bH db bs aM be aV bo bj (g ba) bu aU bi;have bO:=P6 aj f TP d G8 k8 b8 (g a8) aV bo bj (g ba) bu aU bi;have bN:=Qsk (P:=a.prog) (w:=w) (mg:=mg) (base:=base) (CP:=CP) ai f d;have aR:=Pf ag f TP MP G1 b1;have aT:=ZS ah f TP fW bN di m2 G2 b2 fY bP dk fX bO dj;have bM:=XZ af f MB aR bg bt aT bh;have bQ:=Kx ao f MB aR bg bt aT bh;have bR:=VS ap f bQ fy dl (g cK);have bS:=KN (P:=a.prog) (w:=w) (mg:=mg) (base:=base) aq c.abs;have bT:=Quz au c bS fA dn (g cM);have bV:=Pm (P:=a.prog) (w:=w) (mg:=mg) (base:=base) aw;have bU:=Qwe av c bV fD dr (g cR);have aX:=QA (P:=a.prog) (w:=w) (mg:=mg) (base:=base) ar c;have bW:=QI (P:=a.prog) (w:=w) (mg:=mg) (base:=base) ax c;have aY:=Qsm ay bW fE ds (g cT);have bX:=UW aA c aY bq bl (g bc);have bY:=P4 (P:=a.prog) (w:=w) (mg:=mg) (base:=base) aC c;have l:=XR (P:=a.prog) (w:=w) (mg:=mg) (base:=base) az c;have bZ:=YI (P:=a.prog) (w:=w) (mg:=mg) (base:=base) aD c;have ca:=UL aE c l p o (g m);have cb:=XU aF c bZ fH dv (g cX) ca fI dw (g cY);have ce:=YP (P:=a.prog) (w:=w) (mg:=mg) (base:=base) aG c;have cf:=Qnh aH c l p o (g m);have cg:=Qy1 aI cf fL dz (g c1) ce fK dy (g c0);have ch:=Py aJ c cb fJ dx (g cZ) l p o (g m) cg fM dA (g c2);have ci:=KL aK c ch fN dC (g c3) aX bp bk (g bb) aY bq bl (g bc);exact Pr (M:=66) bB c (by decide) (by decide) (by decide) bT fB dp (g cO) bU fC dq (g cQ) bX fF dt (g cU) bY fG du (g cV) bM fs dh (g cD) bR fz dm (g cL) l p o (g m) ci fO dD (g c4) aX bp bk (g bb)
end
theorem Q78{l:M8}{q:Gn}{c:List TQ}{m:(TQ->Option Gj)->Heap->Prop}{i:Tg->Heap->Prop}{d:C6}{K:C7->Gf}(o:l.most=Ga 63)(g:d.params.defaults=[])
  (n:∀(w:Tg)(h:Heap),i w h->(K w.params).In h)
  (F:∀(w:Tg)(e:TQ->Option Gj)(j:Gd)(h:Heap),(K w.params).In h->h.Ns Ea e->e d.name=Ga (.ref j)->
   ∃k:Do,(∀(s:Gz)(u:Gj),RM s k {[u],[]} [("_law_script",u)])/\∀b:Heap,(K w.params).In b->b.Ns Ea e->Q3 l.prog w (K w.params) e b Ya 67 j k ["_law_script"] (nM (K w.params))):
  CH q c m i l.row.toRowW d [] (λf b=>ML f b):=
 L2.VO (n:=63) (k:=67) (x:="_law_script") (CX:=λ_=>Ya) (sp:=λw=>nM (K w.params)) o (by decide) g {1,by decide,by decide} n F (λ_ _ a j e _ b=>{a,j,1,b,e,λ_=>rfl}) λ_ _ _ _ _ z=>z
end K06
theorem PySem.Challenge.cw_samebook_k06_whole_back_is_back_holds : PySem.Challenge.rw_samebook_k06_whole_back_is_back.Holds := by
  exact K06.head λ K g d c e b f => K06.Q78 (l := PySem.Challenge.rw_samebook_k06_whole_back_is_back) rfl e b λ w j i h KX G a => K06.Q3s KX G (by rw [c] at a; exact a) (f w)
